/- What strtab's entries answers: the names of a map, sorted, with their tails. Conditions: those written in each theorem. -/
import Derived.Test.YtddlflabdlgnbaaUF
import Derived.Maps.RangeWalk
import Derived.Maps.OwnSet
import Derived.Sort.KeysCollected
import Derived.Sort.OwnSorted
import Derived.OwnWalk
import Derived.Deep.Light
namespace Go.Proofs.Ytddlflabdlgnbaa
open Go.RowKit Go.Sort Go.Maps Go.Shelf
/-- What the map holds at a name. -/
def lookI {H : Type} (D : DataW H) (x : List UInt8) : Int := match D.atKey (.string x) (.lit (.int .i64 0)) with
  | .lit (.int _ c) => c
  | _ => 0
def leE (x y : List UInt8) : Bool := !ltOf cmpE y x
def SortE : Prop := ∀ (g cap : Nat) (ss : List (List UInt8)) (L : List UInt8 → Int) (W : World), HoldsK (encE L) 5 W g 0 ss.toArray → g < W.heap.size → ss.length < 4611686018427387904 →
  Calls Try.prog 73 #[.slice (some ⟨g, 0, none⟩) ss.length cap, .func (.func 74) #[] #[]] W fun e w' => e = .returned (.tuple #[]) ∧ ∃ q os, w' = sortWorldK (encE L) 5 W g 0 q (ss.mergeSort leE).toArray os
def EntPost {H : Type} (D0 : DataW H) (w : World) (e : Ending) (w' : World) : Prop := ∃ (g cap : Nat) (ss : List (List UInt8)), e = .returned (.slice (some ⟨g, 0, none⟩) ss.length cap) ∧ ss.Perm (strKeys D0) ∧ w.heap.size ≤ g ∧ RowE w' g (entsK (ss.mergeSort leE) (lookI D0) ss.length) ∧ Below w.heap.size w w'
theorem grownBy_of_below {w w' : World} (h : Below w.heap.size w w') : w.grownBy w' none := ⟨h.os, h.tape, h.output, h.size, fun k hk _ => h.block k hk⟩
theorem law9 : Keyed Try.prog 9 := string_keyed Try.underlying9
theorem info99 : (Try.prog.info? 140).map (fun i => (i.zero, i.size, i.bytes)) = some (some (.agg #[.string ⟨#[]⟩, .string ⟨#[]⟩, .int .i64 0, .int .i64 0, .int .i64 0]), 5, 56) := by kernel_rfl
theorem five_new (w : World) (a b c d e : Value) (t : TypeId) : ∀ j u, ([a, b, c, d, e] : List Value)[j]? = some u → (w.alloc (.cells #[a, b, c, d, e] t)).cell? ((⟨w.heap.size, 0, none⟩ : Addr).add j) = some u := by
  intro j u hj
  match j, hj with
  | 0, hj => simpa [Addr.add] using hj
  | 1, hj => simpa [Addr.add] using hj
  | 2, hj => simpa [Addr.add] using hj
  | 3, hj => simpa [Addr.add] using hj
  | 4, hj => simpa [Addr.add] using hj
  | j + 5, hj => simp at hj
theorem own_ne {w : World} {b : Nat} {e : TypeId} {z : Nat} {v : Value} {n : Nat} {xs : List Value} (h : w.ownsRow b e z v n xs) (hn : v ≠ .slice none 0 0) : v.ownBlock ≠ none := by
  rcases h.2 with ⟨hnil, _⟩ | ⟨g, cap, cur, hv, _⟩
  · exact absurd hnil hn
  · rw [hv]; simp [Value.ownBlock]
end Go.Proofs.Ytddlflabdlgnbaa
