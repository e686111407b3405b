import Derived.Test.YtamfbplchblkbaaImY
import Derived.Test.YtamfbplchblkbaaSrt
import Derived.Sort.OwnSortedInts
import Derived.Shelf.Slices.In.SortNone
namespace Go.Proofs.Ytamfbplchblkbaa
open Go.ChangeShapes Go.WideShapes Go.ChangeAt Go.RowKit Go.Maps Go.Shelf
set_option linter.unusedVariables false

theorem sorts : Sorts := by
  intro v os W base h hle
  rcases h.2 with ⟨rfl, h0⟩ | ⟨g, cap, cur, rfl, hg, hb, h1, h2, h3, h4⟩
  · have e0 : os = [] := List.eq_nil_of_length_eq_zero (by simpa using h0)
    subst e0
    refine (Any.slices_Sort_int_none Try.lays189 none 0 W).mono ?_
    rintro e w' ⟨rfl, rfl⟩
    exact ⟨rfl, by simpa [Ns] using h, ⟨rfl, rfl, rfl, Nat.le_refl _, fun _ _ _ => rfl⟩⟩
  · have ht : cur.toList.take os.length = os.map (Value.int .i64) := by simpa [Ns] using h4
    refine (Any.slices_Sort_int Try.lays189 g 0 cap os W (holds_of_blockI hb ht) (lt_blk hb) (by omega)).mono ?_
    rintro e w' ⟨rfl, n, os', rfl⟩
    exact ⟨rfl, ownsRow_sortedI (List.length_mergeSort os) hg hb h1 h2 h3, grownBy_sortedI _⟩
end Go.Proofs.Ytamfbplchblkbaa
#print axioms Go.Proofs.Ytamfbplchblkbaa.sorts
