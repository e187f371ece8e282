/- Contracts of strtab's reverse, of the sort's comparison, and of strings.HasPrefix at this program. Conditions: those written in each theorem. -/
import Derived.Test.YtddlflabdlgnbaaUA
import Derived.Test.YtddlflabdlgnbaaUB
import Derived.Lib.ConvBytes
import Derived.Lib.OwnBridge
import Derived.Sort.Grow
import Derived.Lib.ItoaMem
namespace Go.Proofs.Ytddlflabdlgnbaa
open Go.RowKit Go.Sort Go.Shelf
def encB (b : UInt8) : Value := .int .u8 (b.toNat : Int)
theorem bytesWorld_below (w : World) (e : TypeId) (s : ByteArray) : Below w.heap.size w (Lib.bytesWorld w e s) :=
  ⟨rfl, rfl, rfl, by rw [Lib.bytesWorld_size]; omega, fun k hk => Lib.bytesWorld_at_old w e s k hk⟩
theorem bytesWorld_holds (w : World) (s : ByteArray) : Holds encB (Lib.bytesWorld w 5 s) w.heap.size 0 s.data := fun j hj => by
  have hj' : j < s.size := hj
  refine ⟨?_, ?_⟩
  · rw [Nat.zero_add, Lib.bytesWorld_cell w 5 s j hj']
    unfold encB
    rw [getElem!_pos s.data j hj, List.getD_eq_getElem?_getD, List.getElem?_eq_getElem (by simpa using hj)]
    simp
  · simp [World.frozen?, Lib.bytesWorld_at_new, Lib.bytesCells]
    intro h
    have : s.data.size = s.size := rfl
    omega
set_option maxHeartbeats 2000000 in
set_option maxRecDepth 100000 in
theorem reverse_any (x : List UInt8) (hx : x.length ≤ maxLen) (w : World) : Calls Try.prog 72 #[encStr x] w fun e w' => e = .returned (encStr x.reverse) ∧ Below w.heap.size w w' := by
  unfold maxLen at hx
  unfold encStr
  have hsz : (ByteArray.mk x.toArray).size = x.length := by simp [ByteArray.size]
  have hcv := Lib.run_convert_string_bytes (P := Try.prog) w 9 122 5 ⟨x.toArray⟩ Try.underlying9 Try.underlying122 Try.underlying5
  have hH : Holds encB (Lib.bytesWorld w 5 ⟨x.toArray⟩) w.heap.size 0 x.toArray := bytesWorld_holds w ⟨x.toArray⟩
  have hB := bytesWorld_below w 5 ⟨x.toArray⟩
  rw [hsz] at hcv
  have hlt : w.heap.size < (Lib.bytesWorld w 5 ⟨x.toArray⟩).heap.size := by rw [Lib.bytesWorld_size]; omega
  generalize Lib.bytesWorld w 5 ⟨x.toArray⟩ = W at *
  generalize grownCap w x.length 0 5 = cap at *
  have hrev := AnyE.slices_Reverse Try.revB encB (fun _ => rfl) w.heap.size 0 cap x W hH (by omega)
  change Calls Try.prog 94 _ _ _ at hrev
  have HB := Lib.hid hB; clear hB
  have HH := Lib.hid hH; clear hH hsz
  generalize (ByteArray.mk x.toArray) = s at *
  go_enter Try.func72, Try.ntmps72
  go_wp2_with fail
  refine hrev.mono ?_
  rintro e w1 ⟨rfl, n, rfl⟩
  have hB1 := Lib.below_putRow (enc := encB) (q := n) (d := x.reverse.toArray) HB.out (Nat.le_refl w.heap.size)
  have hcb : (convert 122 9 (.slice (some ⟨w.heap.size, 0, none⟩) x.length cap)).run Try.prog (putRow encB (Sort.ahead W n) w.heap.size 0 x.reverse.toArray) = .ok (.string ⟨x.reverse.toArray⟩) (putRow encB (Sort.ahead W n) w.heap.size 0 x.reverse.toArray) := by
    have h := run_convert_bytes_back (P := Try.prog) (putRow encB (Sort.ahead W n) w.heap.size 0 x.reverse.toArray) 122 9 5 ⟨w.heap.size, 0, none⟩ cap x.reverse Try.underlying122 Try.underlying5 Try.underlying9 (fun i hi => by
      have h := cell?_putRow encB (Sort.ahead W n) w.heap.size 0 x.toArray x.reverse.toArray HH.out (by simp) i (by simpa using hi)
      have e2 : x.reverse.toArray[i]! = x.reverse[i] := by rw [getElem!_pos _ i (by simpa using hi)]; rfl
      rw [e2] at h
      rw [Lib.add_plain]
      exact h)
    rw [List.length_reverse] at h
    exact h
  generalize putRow encB (Sort.ahead W n) w.heap.size 0 x.reverse.toArray = W2 at *
  clear hrev hcv
  go_wp2
  go_ret
  exact ⟨rfl, hB1⟩
/-- The comparison of two entries in the sort. -/
def cmpE (x y : List UInt8) : Int := Lib.compareBytes x.reverse y.reverse
theorem closure54 (x y : List UInt8) (a b : Int) (W : World) : Calls Try.prog 74 #[.agg #[encStr x, encStr x.reverse, .int .i64 a, .int .i64 0, .int .i64 0], .agg #[encStr y, encStr y.reverse, .int .i64 b, .int .i64 0, .int .i64 0]] W fun e w' => e = .returned (.int .i64 (cmpE x y)) ∧ ∃ q os', w' = grow (W.drewN q) os' := by
  have hcon := fun W' => Any.strings_Compare Try.lays106 ⟨x.reverse.toArray⟩ ⟨y.reverse.toArray⟩ W'
  change ∀ W', Calls Try.prog 75 _ _ _ at hcon
  have e : Lib.compareBytes (ByteArray.mk x.reverse.toArray).data.toList (ByteArray.mk y.reverse.toArray).data.toList = cmpE x y := rfl
  rw [e] at hcon
  unfold encStr
  generalize cmpE x y = r at hcon ⊢
  generalize (ByteArray.mk x.reverse.toArray) = sx at *
  generalize (ByteArray.mk y.reverse.toArray) = sy at *
  generalize (ByteArray.mk x.toArray) = tx at *
  generalize (ByteArray.mk y.toArray) = ty at *
  have HC := Lib.hid hcon; clear hcon
  go_enter Try.func74, Try.ntmps74
  go_wp2_with fail
  refine (HC.out _).mono ?_
  rintro e w' ⟨rfl, rfl⟩
  go_wp2
  go_ret
  exact ⟨rfl, 0, _, by rw [alloc_eq_grow, alloc_eq_grow, grow_grow]; rfl⟩
theorem prefix_any (s p : List UInt8) (w : World) : Calls Try.prog 70 #[encStr s, encStr p] w fun e w' => e = .returned (.bool (p.isPrefixOf s)) ∧ w' = w :=
  Any.strings_HasPrefix Try.lays99 ⟨s.toArray⟩ ⟨p.toArray⟩ w
end Go.Proofs.Ytddlflabdlgnbaa
