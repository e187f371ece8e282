/- Contracts of layer 9, relocations. Conditions: those written in each theorem. Contracts of layer 9, relocations. Conditions: those written in each theorem. Rows of relocations, and the contract of relrec's PutAll. Conditions: those written in each theorem. The contract of relrec's ReadAll. Conditions: those written in each theorem. -/
import Derived.Laws.CopyOwn
import Derived.Laws.Tables
import Derived.Test.YtnmklmaclmjfbaaXI
import Derived.Test.YtnmklmaclmjfbaaXJ
import Derived.Test.YtnmklmaclmjfbaaRC
import Derived.Test.YtnmklmaclmjfbaaOP
import Derived.OwnWalk
import Derived.Deep.CutBlock
import Derived.Deep.DeepCutAuto
namespace Go.Proofs.Ytnmklmaclmjfbaa
open Go.RowKit
def rNum (big wide a : Bool) (s : List UInt8) (j : Nat) : Nat := numAt big (fullL wide (rZ a) (rN a)) s j
/-- The numbers of a relocation that is read. -/
def rOff (big wide a : Bool) (s : List UInt8) : Nat := rNum big wide a s 0
def rSym (big wide a : Bool) (s : List UInt8) : Nat := rNum big wide a s 1 / rP wide
def rTy (big wide a : Bool) (s : List UInt8) : Nat := rNum big wide a s 1 % rP wide
def rAdd (big wide a : Bool) (s : List UInt8) : Nat := if a then rNum big wide a s 2 else 0
theorem rNum_lt (big wide a : Bool) (s : List UInt8) (j : Nat) (hj : j < rN a) : rNum big wide a s j < 256 ^ wordN wide := by
  have h := numAt_lt big (fullL wide (rZ a) (rN a)) s j (full_ok (rZ_ok wide a) j hj).2
  rw [fullL_getD wide (rZ a) (rN a) j hj] at h
  have e : (fullZ wide ((rZ a).getD j 0)).toNat = wordN wide := by
    have h0 : (rZ a).getD j 0 = 0 := by
      cases a
      · match j, hj with
        | 0, _ => rfl
        | 1, _ => rfl
      · match j, hj with
        | 0, _ => rfl
        | 1, _ => rfl
        | 2, _ => rfl
    rw [h0]; rfl
  rw [e] at h
  exact h
theorem pow_64 (wide : Bool) : 256 ^ wordN wide ≤ 2 ^ 64 := by cases wide <;> decide
theorem rOff_64 (big wide a : Bool) (s : List UInt8) : rOff big wide a s < 2 ^ 64 := Nat.lt_of_lt_of_le (rNum_lt big wide a s 0 (by cases a <;> decide)) (pow_64 wide)
theorem rAdd_64 (big wide a : Bool) (s : List UInt8) : rAdd big wide a s < 2 ^ 64 := by
  cases a
  · show 0 < _; decide
  · exact Nat.lt_of_lt_of_le (rNum_lt big wide true s 2 (by decide)) (pow_64 wide)
/-- A relocation that is read may be: it is the bytes that it was read from. -/
theorem putIs_back (big wide a : Bool) (s : ByteArray) (h : rLen wide a ≤ s.size) : PutIs big wide a (rOff big wide a s.data.toList) (rSym big wide a s.data.toList) (rTy big wide a s.data.toList) (rAdd big wide a s.data.toList) (s.extract 0 (rLen wide a)) true := by
  have hp : 0 < rP wide := by cases wide <;> decide
  have hn1 := rNum_lt big wide a s.data.toList 1 (by cases a <;> decide)
  have hpq : 256 ^ wordN wide = rP wide * rQ wide := by cases wide <;> decide
  refine .inr ⟨Nat.mod_lt _ hp, ?_, fun ha => by subst ha; rfl, ?_⟩
  · unfold rSym
    rw [Nat.div_lt_iff_lt_mul hp, Nat.mul_comm, ← hpq]
    exact hn1
  · have e : rSym big wide a s.data.toList * rP wide + rTy big wide a s.data.toList = rNum big wide a s.data.toList 1 := by
      unfold rSym rTy
      rw [Nat.mul_comm]
      exact Nat.div_add_mod _ _
    rw [e]
    have h2 := recIs_back (big := big) (wide := wide) (zs := rZ a) (ns := rNs a (rOff big wide a s.data.toList) (rNum big wide a s.data.toList 1) (rAdd big wide a s.data.toList)) (l := rN a) s (rZ_ok wide a) (by rw [r_off]; exact h) (fun k hk => by
      cases a
      · match k, hk with
        | 0, _ => rfl
        | 1, _ => rfl
      · match k, hk with
        | 0, _ => rfl
        | 1, _ => rfl
        | 2, _ => rfl)
    rw [r_off] at h2
    exact h2
theorem and_mod (n k : Nat) (hn : n < 2 ^ 64) (hk : k < 64) : bits .and .u64 (n : Int) ((2 ^ k - 1 : Nat) : Int) = ((n % 2 ^ k : Nat) : Int) := by
  rw [u64_and_nat n (2 ^ k - 1) hn (by have := Nat.pow_lt_pow_right (a := 2) (by decide) hk; omega), Nat.and_two_pow_sub_one_eq_mod]
theorem rread_is (big wide a : Bool) (s : ByteArray) (hs : s.size ≤ 1048576) (h : rLen wide a ≤ s.size) (w : World) :
    Calls Try.prog 51 #[.agg #[.bool big, .bool wide], .bool a, .string s] w fun e w' => e = .returned (.tuple #[.agg #[.int .u64 (rOff big wide a s.data.toList : Nat), .int .u64 (rSym big wide a s.data.toList : Nat), .int .u64 (rTy big wide a s.data.toList : Nat), .int .u64 (rAdd big wide a s.data.toList : Nat)], .bool true]) ∧ Below w.heap.size w w' := by
  have hlen : offN (fullL wide (rZ a) (rN a)) (rN a) ≤ s.size := by rw [r_off]; exact h
  have h64 : rNum big wide a s.data.toList 1 < 2 ^ 64 := Nat.lt_of_lt_of_le (rNum_lt big wide a s.data.toList 1 (by cases a <;> decide)) (pow_64 wide)
  have hsh : ((rNum big wide a s.data.toList 1 : Nat) : Int) / (rP wide : Nat) = ((rSym big wide a s.data.toList : Nat) : Int) := by rw [← Int.natCast_ediv]; rfl
  cases wide
  · have han := and_mod (rNum big false a s.data.toList 1) 8 h64 (by decide)
    cases a
    · exact rread_yes_Ff big s _ _ _ _ hs hlen (fun j hj => by
        match j, hj with
        | 0, _ => rfl
        | 1, _ => rfl) hsh han w
    · exact rread_yes_Tf big s _ _ _ _ _ hs hlen (fun j hj => by
        match j, hj with
        | 0, _ => rfl
        | 1, _ => rfl
        | 2, _ => rfl) hsh han w
  · have han := and_mod (rNum big true a s.data.toList 1) 32 h64 (by decide)
    cases a
    · exact rread_yes_Ft big s _ _ _ _ hs hlen (fun j hj => by
        match j, hj with
        | 0, _ => rfl
        | 1, _ => rfl) hsh han w
    · exact rread_yes_Tt big s _ _ _ _ _ hs hlen (fun j hj => by
        match j, hj with
        | 0, _ => rfl
        | 1, _ => rfl
        | 2, _ => rfl) hsh han w
theorem rread_none (big wide a : Bool) (s : ByteArray) (hs : s.size ≤ 1048576) (h : s.size < rLen wide a) (w : World) :
    Calls Try.prog 51 #[.agg #[.bool big, .bool wide], .bool a, .string s] w fun e w' => e = .returned (.tuple #[.agg #[.int .u64 0, .int .u64 0, .int .u64 0, .int .u64 0], .bool false]) ∧ Below w.heap.size w w' := by
  have hlen : s.size < offN (fullL wide (rZ a) (rN a)) (rN a) := by rw [r_off]; exact h
  cases wide <;> cases a
  · exact rread_no_Ff big s hs hlen w
  · exact rread_no_Tf big s hs hlen w
  · exact rread_no_Ft big s hs hlen w
  · exact rread_no_Tt big s hs hlen w
end Go.Proofs.Ytnmklmaclmjfbaa
namespace Go.Proofs.Ytnmklmaclmjfbaa
open Go.RowKit
theorem putIs_read {big wide a : Bool} {off sym ty add : Nat} {S : ByteArray} (h : PutIs big wide a off sym ty add S true) (M : ByteArray) :
    S.size = rLen wide a ∧ rOff big wide a (S ++ M).data.toList = off ∧ rSym big wide a (S ++ M).data.toList = sym ∧ rTy big wide a (S ++ M).data.toList = ty ∧ rAdd big wide a (S ++ M).data.toList = add := by
  rcases h with ⟨_, _, h⟩ | ⟨h1, h2, h3, h4⟩
  · cases h
  · obtain ⟨e, hk⟩ := recIs_read h4 (rZ_ok wide a) M
    rw [r_off] at e
    have hp : 0 < rP wide := by cases wide <;> decide
    have k0 : rNum big wide a (S ++ M).data.toList 0 = off := by
      have := hk 0 (by cases a <;> decide)
      rw [show (rNs a off (sym * rP wide + ty) add).getD 0 0 = off by cases a <;> rfl] at this
      exact this
    have k1 : rNum big wide a (S ++ M).data.toList 1 = sym * rP wide + ty := by
      have := hk 1 (by cases a <;> decide)
      rw [show (rNs a off (sym * rP wide + ty) add).getD 1 0 = sym * rP wide + ty by cases a <;> rfl] at this
      exact this
    refine ⟨e, k0, ?_, ?_, ?_⟩
    · unfold rSym
      rw [k1, Nat.mul_comm, Nat.mul_add_div hp, Nat.div_eq_of_lt h1, Nat.add_zero]
    · unfold rTy
      rw [k1, Nat.mul_comm, Nat.mul_add_mod, Nat.mod_eq_of_lt h1]
    · cases a
      · exact (h3 rfl).symm
      · exact hk 2 (by decide)
/-- What Read answers of bytes. -/
def readV (big wide a : Bool) (s : ByteArray) : Value :=
  if rLen wide a ≤ s.size then .tuple #[.agg #[.int .u64 (rOff big wide a s.data.toList : Nat), .int .u64 (rSym big wide a s.data.toList : Nat), .int .u64 (rTy big wide a s.data.toList : Nat), .int .u64 (rAdd big wide a s.data.toList : Nat)], .bool true]
  else .tuple #[.agg #[.int .u64 0, .int .u64 0, .int .u64 0, .int .u64 0], .bool false]
theorem readV_form (big wide a : Bool) (s : ByteArray) : ∃ (v0 v1 v2 v3 : Nat) (b : Bool), readV big wide a s = .tuple #[.agg #[.int .u64 (v0 : Nat), .int .u64 (v1 : Nat), .int .u64 (v2 : Nat), .int .u64 (v3 : Nat)], .bool b] := by
  unfold readV
  split
  · exact ⟨_, _, _, _, _, rfl⟩
  · exact ⟨0, 0, 0, 0, _, rfl⟩
theorem rread_any (big wide a : Bool) (s : ByteArray) (hs : s.size ≤ 1048576) (w : World) : Calls Try.prog 51 #[.agg #[.bool big, .bool wide], .bool a, .string s] w fun e w' => e = .returned (readV big wide a s) ∧ Below w.heap.size w w' := by
  unfold readV
  split
  · rename_i h; exact rread_is big wide a s hs h w
  · rename_i h; exact rread_none big wide a s hs (by omega) w
end Go.Proofs.Ytnmklmaclmjfbaa
namespace Go.Proofs.Ytnmklmaclmjfbaa
open Go.RowKit
/-- A relocation's numbers: offset, symbol, type, addend. -/
structure Rl where
  off : Nat
  sym : Nat
  ty : Nat
  add : Nat
instance : Inhabited Rl := ⟨⟨0, 0, 0, 0⟩⟩
/-- n relocations stand one behind the other where a slice begins. -/
def RowR (w : World) (A : Option Addr) (n : Nat) (R : Nat → Rl) : Prop := ∀ i, i < n → ∃ b o, A = some ⟨b, o, none⟩ ∧ b < w.heap.size ∧
  w.cell? ⟨b, o + i * 4, none⟩ = some (.int .u64 ((R i).off : Nat)) ∧ w.cell? ⟨b, o + i * 4 + 1, none⟩ = some (.int .u64 ((R i).sym : Nat)) ∧
  w.cell? ⟨b, o + i * 4 + 2, none⟩ = some (.int .u64 ((R i).ty : Nat)) ∧ w.cell? ⟨b, o + i * 4 + 3, none⟩ = some (.int .u64 ((R i).add : Nat))
theorem RowR.low {w w' : World} {A : Option Addr} {n : Nat} {R : Nat → Rl} (h : RowR w A n R) (hb : Below w.heap.size w w') : RowR w' A n R := fun i hi => by
  obtain ⟨b, o, e, hl, h0, h1, h2, h3⟩ := h i hi
  exact ⟨b, o, e, Nat.lt_of_lt_of_le hl hb.size, (hb.cell (p := ⟨b, _, none⟩) hl).trans h0, (hb.cell (p := ⟨b, _, none⟩) hl).trans h1, (hb.cell (p := ⟨b, _, none⟩) hl).trans h2, (hb.cell (p := ⟨b, _, none⟩) hl).trans h3⟩
/-- The first k texts, one behind the other. -/
def catR (S : Nat → ByteArray) : Nat → List UInt8
  | 0 => []
  | k + 1 => catR S k ++ (S k).data.toList
theorem catR_len (S : Nat → ByteArray) (M : Nat) : ∀ (k : Nat), (∀ i, i < k → (S i).size ≤ M) → (catR S k).length ≤ k * M
  | 0, _ => by simp [catR]
  | k + 1, h => by
    have := catR_len S M k (fun i hi => h i (by omega))
    have h2 := h k (by omega)
    have e : (k + 1) * M = k * M + M := Nat.succ_mul _ _
    have e2 : (S k).data.toList.length = (S k).size := by simp
    simp only [catR, List.length_append]
    omega
theorem catR_congr {S S' : Nat → ByteArray} : ∀ (k : Nat), (∀ i, i < k → S i = S' i) → catR S k = catR S' k
  | 0, _ => rfl
  | k + 1, h => by
    simp only [catR]
    rw [catR_congr k (fun i hi => h i (by omega)), h k (by omega)]
def allOk (ok : Nat → Bool) (k : Nat) : Bool := (List.range k).all ok
theorem allOk_succ (ok : Nat → Bool) (k : Nat) : allOk ok (k + 1) = (allOk ok k && ok k) := by
  unfold allOk
  rw [List.range_succ, List.all_append]
  simp
theorem allOk_false {ok : Nat → Bool} {k n : Nat} (hk : k < n) (h : ok k = false) : allOk ok n = false := by
  unfold allOk
  rw [List.all_eq_false]
  exact ⟨k, List.mem_range.2 hk, by simp [h]⟩
/-- What PutAll answers. -/
def putV (S : Nat → ByteArray) (ok : Nat → Bool) (n : Nat) : Value := if allOk ok n then .tuple #[.string ⟨(catR S n).toArray⟩, .bool true] else .tuple #[.string ⟨#[]⟩, .bool false]
theorem below_mk2 {B : Nat} {w w' : World} (h : Below B w w') (hB : B ≤ w'.heap.size) (o : Obj) : Below B w (w'.alloc o) := h.alloc hB o
theorem own_stay {w w' : World} {B e size n : Nat} {v : Value} {xs : List Value} (h : w.ownsRow B e size v n xs) (hb : Below w.heap.size w w') : w'.ownsRow B e size v n xs := by
  refine ⟨h.1, ?_⟩
  rcases h.2 with h1 | ⟨g, cap, cur, h1, h2, h3, h4⟩
  · exact .inl h1
  · have hlt := (Array.getElem?_eq_some_iff.1 h3).1
    exact .inr ⟨g, cap, cur, h1, h2, by rw [hb.block g hlt]; exact h3, h4⟩
theorem builder_stay {T e : TypeId} {B b : Nat} {bs : List Value} {w w' : World} (h : Lib.IsBuilder T e B b bs w) (hb : Below w.heap.size w w') : Lib.IsBuilder T e B b bs w' := by
  have one : ∀ p, Lib.BuilderAt T e B b p bs w → Lib.BuilderAt T e B b p bs w' := fun p h => by
    have hlt := h.lt
    obtain ⟨h1, v, h2, h3, h4⟩ := h
    exact ⟨h1, v, by rw [hb.block b hlt]; exact h2, own_stay h3 hb, h4⟩
  rcases h with h | h
  · exact .inl (one _ h)
  · exact .inr (one _ h)
theorem strCells_is (s : ByteArray) : Lib.strCells s = Lib.byteCells s.data.toList := rfl
end Go.Proofs.Ytnmklmaclmjfbaa
namespace Go.Proofs.Ytnmklmaclmjfbaa
open Go.RowKit
theorem info49 : (Try.prog.info? 104).map (fun i => (i.zero, i.size, i.bytes)) = some (some (.agg #[.int .u64 0, .int .u64 0, .int .u64 0, .int .u64 0]), 4, 32) := by kernel_rfl
def cellsR (r : Rl) : List Value := [.int .u64 (r.off : Nat), .int .u64 (r.sym : Nat), .int .u64 (r.ty : Nat), .int .u64 (r.add : Nat)]
def flatR (R : Nat → Rl) : Nat → List Value
  | 0 => []
  | k + 1 => flatR R k ++ cellsR (R k)
theorem flatR_len (R : Nat → Rl) : ∀ k, (flatR R k).length = k * 4
  | 0 => rfl
  | k + 1 => by simp [flatR, flatR_len R k, cellsR]; omega
theorem flatR_at (R : Nat → Rl) : ∀ (k i j : Nat), i < k → j < 4 → (flatR R k)[i * 4 + j]? = (cellsR (R i))[j]?
  | 0, i, j, h, _ => absurd h (Nat.not_lt_zero _)
  | k + 1, i, j, h, hj => by
    simp only [flatR]
    by_cases hi : i < k
    · rw [List.getElem?_append_left (by rw [flatR_len]; omega), flatR_at R k i j hi hj]
    · obtain rfl : i = k := by omega
      rw [List.getElem?_append_right (by rw [flatR_len]; omega), flatR_len, Nat.add_sub_cancel_left]
theorem flatR_congr {R R' : Nat → Rl} : ∀ k, (∀ i, i < k → R i = R' i) → flatR R k = flatR R' k
  | 0, _ => rfl
  | k + 1, h => by simp only [flatR]; rw [flatR_congr k (fun i hi => h i (by omega)), h k (by omega)]
theorem own_rowR {w : World} {base n : Nat} {v : Value} {R : Nat → Rl} (h : w.ownsRow base 104 4 v n (flatR R n)) : ∃ A c, v = .slice A n c ∧ RowR w A n R := by
  rcases h.2 with ⟨rfl, rfl⟩ | ⟨g, cap, cur, rfl, _, hb, hnc, _, hcs, ht⟩
  · exact ⟨none, 0, rfl, fun i hi => absurd hi (Nat.not_lt_zero _)⟩
  · refine ⟨_, cap, rfl, fun i hi => ⟨g, 0, rfl, (Array.getElem?_eq_some_iff.1 hb).1, ?_⟩⟩
    have key : ∀ j, j < 4 → w.cell? ⟨g, 0 + i * 4 + j, none⟩ = (cellsR (R i))[j]? := fun j hj => by
      rw [Nat.zero_add, Lib.cell_of_heap hb]
      have h4 : cur.toList[i * 4 + j]? = (cur.toList.take (n * 4))[i * 4 + j]? := (List.getElem?_take_of_lt (by omega)).symm
      rw [← Array.getElem?_toList, h4, ht, flatR_at R n i j hi hj]
    exact ⟨key 0 (by omega), key 1 (by omega), key 2 (by omega), key 3 (by omega)⟩
def recAt (big wide a : Bool) (s : ByteArray) (i : Nat) : Rl :=
  let t := (s.extract (i * rLen wide a) s.size).data.toList
  ⟨rOff big wide a t, rSym big wide a t, rTy big wide a t, rAdd big wide a t⟩
theorem ext_list' (s : ByteArray) (p : Nat) : (s.extract p s.size).data.toList = s.data.toList.drop p := by
  simp only [ByteArray.data_extract, Array.toList_extract, List.extract_eq_take_drop]
  rw [List.take_of_length_le (by simp)]
theorem ext_ext' (s : ByteArray) (p z : Nat) : (s.extract p s.size).extract z (s.extract p s.size).size = s.extract (p + z) s.size := by
  apply ByteArray.ext
  apply Array.toList_inj.1
  rw [ext_list', ext_list', ext_list', List.drop_drop]
theorem mod_of {n k z r : Nat} (h : n = k * z + r) (hr : r < z) : n % z = r ∧ n / z = k := by
  subst h
  rw [Nat.mul_comm k z]
  refine ⟨by rw [Nat.mul_add_mod, Nat.mod_eq_of_lt hr], ?_⟩
  rw [Nat.mul_add_div (by omega), Nat.div_eq_of_lt hr, Nat.add_zero]
theorem rLen_pos (wide a : Bool) : 8 ≤ rLen wide a ∧ rLen wide a ≤ 24 := by cases wide <;> cases a <;> decide
def ReadPost (big wide a : Bool) (s : ByteArray) (w : World) (e : Ending) (w' : World) : Prop := Below w.heap.size w w' ∧
  ((s.size % rLen wide a = 0 ∧ ∃ v, e = .returned (.tuple #[v, .bool true]) ∧ w'.ownsRow w.heap.size 49 4 v (s.size / rLen wide a) (flatR (recAt big wide a s) (s.size / rLen wide a))) ∨
   (s.size % rLen wide a ≠ 0 ∧ e = .returned (.tuple #[.slice none 0 0, .bool false])))
theorem cells_new (w : World) (l : List Value) (t : TypeId) : ∀ j u, l[j]? = some u → (w.alloc (.cells l.toArray t)).cell? ((⟨w.heap.size, 0, none⟩ : Addr).add j) = some u := fun j u h => by
  rw [Go.WideShapes.add_plain, Nat.zero_add, Lib.cell_of_heap (heap_alloc_new w _)]
  simpa using h
theorem cells_new2 (w : World) (o : Obj) (l : List Value) (t : TypeId) : ∀ j u, l[j]? = some u → ((w.alloc o).alloc (.cells l.toArray t)).cell? ((⟨w.heap.size + 1, 0, none⟩ : Addr).add j) = some u := fun j u h => by
  have h2 := cells_new (w.alloc o) l t j u h
  rwa [show (w.alloc o).heap.size = w.heap.size + 1 by simp] at h2
theorem own_lower {w : World} {B B' e size n : Nat} {v : Value} {xs : List Value} (h : w.ownsRow B e size v n xs) (hb : B' ≤ B) : w.ownsRow B' e size v n xs := by
  refine ⟨h.1, ?_⟩
  rcases h.2 with h1 | ⟨g, cap, cur, h1, h2, h3⟩
  · exact .inl h1
  · exact .inr ⟨g, cap, cur, h1, Nat.le_trans hb h2, h3⟩
theorem own_floor {w : World} {B e size n : Nat} {v : Value} {xs : List Value} (h : w.ownsRow B e size v n xs) : ∀ k, v.ownBlock = some k → B ≤ k := fun k hk => by
  rcases h.2 with ⟨rfl, _⟩ | ⟨g, cap, cur, rfl, h2, _⟩
  · cases hk
  · cases hk; exact h2
end Go.Proofs.Ytnmklmaclmjfbaa
