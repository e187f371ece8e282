/- Plain facts on notes: reading one of them, and what is put is read again. Conditions: those written in each theorem. -/
import Derived.Test.YtnmklmaclmjfbaaDoorMN
import Derived.Test.YtnmklmaclmjfbaaDoorOK
namespace Go.Proofs.YtnmklmaclmjfbaaDoor
open Go.RowKit
/-- A note: its type, name and contents. -/
structure Nt where
  ty : Nat
  name : ByteArray
  desc : ByteArray
instance : Inhabited Nt := ⟨⟨0, ⟨#[]⟩, ⟨#[]⟩⟩⟩
/-- How many zeros follow. -/
def pad4 (n : Nat) : Nat := (4 - n % 4) % 4
theorem pad4_le (n : Nat) : pad4 n ≤ 3 := by unfold pad4; omega
def zeroL (n : Nat) : List UInt8 := List.replicate n 0
theorem zeroL_length (n : Nat) : (zeroL n).length = n := by simp [zeroL]
/-- A note's bytes. -/
def encN (big : Bool) (x : Nt) : List UInt8 := Num.putL big x.name.size 4 ++ (Num.putL big x.desc.size 4 ++ (Num.putL big x.ty 4 ++ (x.name.data.toList ++ (zeroL (pad4 x.name.size) ++ (x.desc.data.toList ++ zeroL (pad4 x.desc.size))))))
theorem putL4 (big : Bool) (n : Nat) : (Num.putL big n 4).length = 4 := by
  have := putL_len big n 4 (by decide) (by decide)
  omega
theorem ba_len (s : ByteArray) : s.data.toList.length = s.size := by simp
def sizN (x : Nt) : Nat := 12 + x.name.size + pad4 x.name.size + x.desc.size + pad4 x.desc.size
theorem encN_length (big : Bool) (x : Nt) : (encN big x).length = sizN x := by
  simp only [encN, List.length_append, putL4, zeroL_length, ba_len, sizN]
  omega
/-- May a reader read m bytes? -/
def okR (s : ByteArray) (p m : Nat) (b : Bool) : Bool := !b && decide (p ≤ s.size) && decide (m ≤ s.size - p)
def nxV (big : Bool) (s : ByteArray) (p m : Nat) (b : Bool) : Nat := if okR s p m b then Num.getN big ((s.data.toList.drop p).take m) else 0
def byV (s : ByteArray) (p m : Nat) (b : Bool) : ByteArray := if okR s p m b then s.extract p (p + m) else ⟨#[]⟩
def nxP (s : ByteArray) (p m : Nat) (b : Bool) : Nat := if okR s p m b then p + m else p
def nxB (s : ByteArray) (p m : Nat) (b : Bool) : Bool := !okR s p m b
def errI (b : Bool) : Int := if b then 3 else 0
theorem okR_may (s : ByteArray) (p m : Nat) (b : Bool) : okR s p m b = true ↔ may s p m (errI b) := by
  cases b <;> simp [okR, may, errI]
theorem okR_true {s : ByteArray} {p m : Nat} {b : Bool} : okR s p m b = true ↔ b = false ∧ p ≤ s.size ∧ m ≤ s.size - p := by
  cases b <;> simp [okR]
theorem okR_yes {s : ByteArray} {p m : Nat} (h : p + m ≤ s.size) : okR s p m false = true := okR_true.2 ⟨rfl, by omega, by omega⟩
theorem nxV_yes {big : Bool} {s : ByteArray} {p m : Nat} (h : p + m ≤ s.size) : nxV big s p m false = Num.getN big ((s.data.toList.drop p).take m) := by
  unfold nxV; rw [if_pos (okR_yes h)]
theorem byV_yes {s : ByteArray} {p m : Nat} (h : p + m ≤ s.size) : byV s p m false = s.extract p (p + m) := by
  unfold byV; rw [if_pos (okR_yes h)]
theorem nxP_yes {s : ByteArray} {p m : Nat} (h : p + m ≤ s.size) : nxP s p m false = p + m := by
  unfold nxP; rw [if_pos (okR_yes h)]
theorem nxB_yes {s : ByteArray} {p m : Nat} (h : p + m ≤ s.size) : nxB s p m false = false := by
  unfold nxB; rw [okR_yes h]; rfl
theorem nxB_bad (s : ByteArray) (p m : Nat) : nxB s p m true = true := by
  unfold nxB
  have : okR s p m true = false := by simp [okR]
  rw [this]; rfl
theorem nxB_false {s : ByteArray} {p m : Nat} {b : Bool} (h : nxB s p m b = false) : b = false ∧ (p ≤ s.size → p + m ≤ s.size) ∧ p ≤ s.size := by
  unfold nxB at h
  have h2 : okR s p m b = true := by simpa using h
  obtain ⟨h3, h4, h5⟩ := okR_true.1 h2
  exact ⟨h3, fun _ => by omega, h4⟩
/-- Are all bytes zero? -/
def isZ (s : ByteArray) : Bool := s.data.toList.all (· == 0)
/-- What one round reads: the note, whether what stands for zeros is zeros, where it goes on, whether something wasn't there. -/
structure Stp where
  x : Nt
  z : Bool
  p : Nat
  bad : Bool
def stepN (big : Bool) (s : ByteArray) (p : Nat) : Stp :=
  let a := nxV big s p 4 false
  let p1 := nxP s p 4 false
  let b1 := nxB s p 4 false
  let d := nxV big s p1 4 b1
  let p2 := nxP s p1 4 b1
  let b2 := nxB s p1 4 b1
  let t := nxV big s p2 4 b2
  let p3 := nxP s p2 4 b2
  let b3 := nxB s p2 4 b2
  let nm := byV s p3 a b3
  let p4 := nxP s p3 a b3
  let b4 := nxB s p3 a b3
  let z1 := byV s p4 (pad4 a) b4
  let p5 := nxP s p4 (pad4 a) b4
  let b5 := nxB s p4 (pad4 a) b4
  let ds := byV s p5 d b5
  let p6 := nxP s p5 d b5
  let b6 := nxB s p5 d b5
  let z2 := byV s p6 (pad4 d) b6
  ⟨⟨t, nm, ds⟩, isZ z1 && isZ z2, nxP s p6 (pad4 d) b6, nxB s p6 (pad4 d) b6⟩
def numR (big : Bool) (s : ByteArray) (p : Nat) : Nat := Num.getN big ((s.data.toList.drop p).take 4)
theorem numR_lt (big : Bool) (s : ByteArray) (p : Nat) : numR big s p < 4294967296 := by
  unfold numR
  have hl : ((s.data.toList.drop p).take 4).length ≤ 4 := List.length_take_le _ _
  have h := Num.getN_lt big ((s.data.toList.drop p).take 4) (by omega)
  have h2 : 256 ^ ((s.data.toList.drop p).take 4).length ≤ 256 ^ 4 := Nat.pow_le_pow_right (by decide) hl
  have h3 : (256 : Nat) ^ 4 = 4294967296 := by decide
  omega
def needN (big : Bool) (s : ByteArray) (p : Nat) : Nat := 12 + numR big s p + pad4 (numR big s p) + numR big s (p + 4) + pad4 (numR big s (p + 4))
theorem stepN_yes (big : Bool) (s : ByteArray) (p : Nat) (h : p + needN big s p ≤ s.size) :
    stepN big s p = ⟨⟨numR big s (p + 8), s.extract (p + 12) (p + 12 + numR big s p), s.extract (p + 12 + numR big s p + pad4 (numR big s p)) (p + 12 + numR big s p + pad4 (numR big s p) + numR big s (p + 4))⟩,
      isZ (s.extract (p + 12 + numR big s p) (p + 12 + numR big s p + pad4 (numR big s p))) && isZ (s.extract (p + 12 + numR big s p + pad4 (numR big s p) + numR big s (p + 4)) (p + needN big s p)), p + needN big s p, false⟩ := by
  unfold needN at h ⊢
  have e1 : nxV big s p 4 false = numR big s p := nxV_yes (by omega)
  have e2 : nxV big s (p + 4) 4 false = numR big s (p + 4) := nxV_yes (by omega)
  have e3 : nxV big s (p + 4 + 4) 4 false = numR big s (p + 8) := nxV_yes (by omega)
  generalize numR big s p = a at *
  generalize numR big s (p + 4) = d at *
  generalize hpa : pad4 a = pa at *
  generalize hpd : pad4 d = pd at *
  have q1 : nxP s p 4 false = p + 4 := nxP_yes (by omega)
  have r1 : nxB s p 4 false = false := nxB_yes (by omega)
  have q2 : nxP s (p + 4) 4 false = p + 4 + 4 := nxP_yes (by omega)
  have r2 : nxB s (p + 4) 4 false = false := nxB_yes (by omega)
  have q3 : nxP s (p + 4 + 4) 4 false = p + 12 := nxP_yes (by omega)
  have r3 : nxB s (p + 4 + 4) 4 false = false := nxB_yes (by omega)
  have q4 : nxP s (p + 12) a false = p + 12 + a := nxP_yes (by omega)
  have r4 : nxB s (p + 12) a false = false := nxB_yes (by omega)
  have v4 : byV s (p + 12) a false = s.extract (p + 12) (p + 12 + a) := byV_yes (by omega)
  have q5 : nxP s (p + 12 + a) pa false = p + 12 + a + pa := nxP_yes (by omega)
  have r5 : nxB s (p + 12 + a) pa false = false := nxB_yes (by omega)
  have v5 : byV s (p + 12 + a) pa false = s.extract (p + 12 + a) (p + 12 + a + pa) := byV_yes (by omega)
  have q6 : nxP s (p + 12 + a + pa) d false = p + 12 + a + pa + d := nxP_yes (by omega)
  have r6 : nxB s (p + 12 + a + pa) d false = false := nxB_yes (by omega)
  have v6 : byV s (p + 12 + a + pa) d false = s.extract (p + 12 + a + pa) (p + 12 + a + pa + d) := byV_yes (by omega)
  have q7 : nxP s (p + 12 + a + pa + d) pd false = p + (12 + a + pa + d + pd) := by rw [nxP_yes (by omega)]; omega
  have r7 : nxB s (p + 12 + a + pa + d) pd false = false := nxB_yes (by omega)
  have v7 : byV s (p + 12 + a + pa + d) pd false = s.extract (p + 12 + a + pa + d) (p + (12 + a + pa + d + pd)) := by rw [byV_yes (by omega)]; congr 1; omega
  unfold stepN
  simp only [e1, q1, r1, e2, q2, r2, e3, q3, r3, hpa, hpd]
  simp only [q4, r4, v4, q5, r5, v5, q6, r6, v6, q7, r7, v7]
theorem nxB_fit {s : ByteArray} {p m : Nat} {b : Bool} (h : nxB s p m b = false) : b = false ∧ p + m ≤ s.size ∧ nxP s p m b = p + m := by
  unfold nxB at h
  have h2 : okR s p m b = true := by simpa using h
  obtain ⟨h3, h4, h5⟩ := okR_true.1 h2
  refine ⟨h3, by omega, ?_⟩
  unfold nxP; rw [if_pos h2]
theorem stepN_fit {big : Bool} {s : ByteArray} {p : Nat} (h : (stepN big s p).bad = false) : p + needN big s p ≤ s.size := by
  have hd : p + 12 ≤ s.size := by
    have h0 := h
    unfold stepN at h0
    dsimp only at h0
    obtain ⟨b6, s7, q7⟩ := nxB_fit h0
    obtain ⟨b5, s6, q6⟩ := nxB_fit b6
    obtain ⟨b4, s5, q5⟩ := nxB_fit b5
    obtain ⟨b3, s4, q4⟩ := nxB_fit b4
    obtain ⟨b2, s3, q3⟩ := nxB_fit b3
    obtain ⟨b1, s2, q2⟩ := nxB_fit b2
    obtain ⟨b0, s1, q1⟩ := nxB_fit b1
    omega
  unfold needN
  have e1 : nxV big s p 4 false = numR big s p := nxV_yes (by omega)
  have e2 : nxV big s (p + 4) 4 false = numR big s (p + 4) := nxV_yes (by omega)
  have q1 : nxP s p 4 false = p + 4 := nxP_yes (by omega)
  have r1 : nxB s p 4 false = false := nxB_yes (by omega)
  have q2 : nxP s (p + 4) 4 false = p + 4 + 4 := nxP_yes (by omega)
  have r2 : nxB s (p + 4) 4 false = false := nxB_yes (by omega)
  have q3 : nxP s (p + 4 + 4) 4 false = p + 12 := nxP_yes (by omega)
  have r3 : nxB s (p + 4 + 4) 4 false = false := nxB_yes (by omega)
  unfold stepN at h
  simp only [e1, q1, r1, e2, q2, r2, q3, r3] at h
  generalize numR big s p = a at *
  generalize numR big s (p + 4) = d at *
  generalize hpa : pad4 a = pa at *
  generalize hpd : pad4 d = pd at *
  obtain ⟨b6, s7, q7⟩ := nxB_fit h
  obtain ⟨b5, s6, q6⟩ := nxB_fit b6
  obtain ⟨b4, s5, q5⟩ := nxB_fit b5
  obtain ⟨b3, s4, q4⟩ := nxB_fit b4
  omega
theorem dropN {L A B : List UInt8} {p n : Nat} (h : L.drop p = A ++ B) (hn : A.length = n) : L.drop (p + n) = B := by
  rw [← List.drop_drop, h, ← hn, List.drop_left]
theorem takeN {L A B : List UInt8} {p n : Nat} (h : L.drop p = A ++ B) (hn : A.length = n) : (L.drop p).take n = A := by
  rw [h, ← hn, List.take_left]
theorem ext_l (s : ByteArray) (i j : Nat) : (s.extract i j).data.toList = (s.data.toList.drop i).take (j - i) := by
  simp only [ByteArray.data_extract, Array.toList_extract, List.extract_eq_take_drop]
theorem ba_ext {s t : ByteArray} (h : s.data.toList = t.data.toList) : s = t := by
  apply ByteArray.ext
  apply Array.toList_inj.1
  exact h
theorem ext_is {s t : ByteArray} {i j n : Nat} (h : (s.data.toList.drop i).take n = t.data.toList) (hn : j = i + n) : s.extract i j = t := by
  apply ba_ext
  rw [ext_l, hn, Nat.add_sub_cancel_left, h]
theorem isZ_zero {s : ByteArray} {n : Nat} (h : s.data.toList = zeroL n) : isZ s = true := by
  unfold isZ
  rw [h]
  simp [zeroL]
theorem zero_isZ {s : ByteArray} (h : isZ s = true) : s.data.toList = zeroL s.size := by
  unfold isZ at h
  rw [List.all_eq_true] at h
  refine List.eq_replicate_iff.2 ⟨by simp, fun b hb => ?_⟩
  simpa using h b hb
def smallN (x : Nt) : Prop := x.ty < 4294967296 ∧ x.name.size < 4294967296 ∧ x.desc.size < 4294967296
theorem getN4 (big : Bool) (n : Nat) (h : n < 4294967296) : Num.getN big (Num.putL big n 4) = n := by
  have := Num.getN_putL big n 4 (by decide) (by decide)
  have h2 : (256 : Nat) ^ 4 = 4294967296 := by decide
  rw [show ((4 : Nat) : Int) = 4 from rfl, h2, Nat.mod_eq_of_lt h] at this
  exact this
/-- A note's bytes are read as the note. -/
theorem step_enc {big : Bool} {x : Nt} (hx : smallN x) {s : ByteArray} {p : Nat} {rest : List UInt8} (hd : s.data.toList.drop p = encN big x ++ rest) :
    stepN big s p = ⟨x, true, p + sizN x, false⟩ := by
  obtain ⟨hx1, hx2, hx3⟩ := hx
  have hlen : p + sizN x ≤ s.size := by
    have h1 := congrArg List.length hd
    rw [List.length_drop, List.length_append, encN_length, ba_len] at h1
    have : 12 ≤ sizN x := by unfold sizN; omega
    omega
  have h0 : s.data.toList.drop p = Num.putL big x.name.size 4 ++ (Num.putL big x.desc.size 4 ++ (Num.putL big x.ty 4 ++ (x.name.data.toList ++ (zeroL (pad4 x.name.size) ++ (x.desc.data.toList ++ (zeroL (pad4 x.desc.size) ++ rest)))))) := by
    rw [hd]; simp only [encN, List.append_assoc]
  have h1 := dropN h0 (putL4 _ _)
  have h2 := dropN h1 (putL4 _ _)
  have h3 := dropN h2 (putL4 _ _)
  have h4 := dropN h3 (ba_len _)
  have h5 := dropN h4 (zeroL_length _)
  have h6 := dropN h5 (ba_len _)
  have n0 : numR big s p = x.name.size := by unfold numR; rw [takeN h0 (putL4 _ _), getN4 _ _ hx2]
  have n1 : numR big s (p + 4) = x.desc.size := by unfold numR; rw [takeN h1 (putL4 _ _), getN4 _ _ hx3]
  have n2 : numR big s (p + 4 + 4) = x.ty := by unfold numR; rw [takeN h2 (putL4 _ _), getN4 _ _ hx1]
  have hneed : needN big s p = sizN x := by unfold needN sizN; rw [n0, n1]
  have t3 := takeN h3 (ba_len _)
  have t4 := takeN h4 (zeroL_length _)
  have t5 := takeN h5 (ba_len _)
  have t6 := takeN h6 (zeroL_length _)
  have hp8 : p + 8 = p + 4 + 4 := by omega
  have hp12 : p + 12 = p + 4 + 4 + 4 := by omega
  have hpe : p + sizN x = p + 4 + 4 + 4 + x.name.size + pad4 x.name.size + x.desc.size + pad4 x.desc.size := by unfold sizN; omega
  rw [stepN_yes big s p (by rw [hneed]; exact hlen), hneed, n0, n1, hp8, n2, hp12, hpe]
  have f3 : s.extract (p + 4 + 4 + 4) (p + 4 + 4 + 4 + x.name.size) = x.name := ext_is t3 rfl
  have f5 : s.extract (p + 4 + 4 + 4 + x.name.size + pad4 x.name.size) (p + 4 + 4 + 4 + x.name.size + pad4 x.name.size + x.desc.size) = x.desc := ext_is t5 rfl
  have f4 : isZ (s.extract (p + 4 + 4 + 4 + x.name.size) (p + 4 + 4 + 4 + x.name.size + pad4 x.name.size)) = true := isZ_zero (n := pad4 x.name.size) (by rw [ext_l, Nat.add_sub_cancel_left, t4])
  have f6 : isZ (s.extract (p + 4 + 4 + 4 + x.name.size + pad4 x.name.size + x.desc.size) (p + 4 + 4 + 4 + x.name.size + pad4 x.name.size + x.desc.size + pad4 x.desc.size)) = true := isZ_zero (n := pad4 x.desc.size) (by rw [ext_l, Nat.add_sub_cancel_left, t6])
  rw [f3, f4, f5, f6]
  rfl
theorem ext_size (s : ByteArray) (i n : Nat) (h : i + n ≤ s.size) : (s.extract i (i + n)).size = n := by simp; omega
theorem take4 (big : Bool) (s : ByteArray) (p : Nat) (h : p + 4 ≤ s.size) : Num.putL big (numR big s p) 4 = (s.data.toList.drop p).take 4 := by
  have hl : ((s.data.toList.drop p).take 4).length = 4 := by
    rw [List.length_take, List.length_drop, ba_len]; omega
  have := Num.putL_getN big ((s.data.toList.drop p).take 4) (by omega) (by omega)
  rw [hl] at this
  exact this
/-- What was read without an error is the note's bytes. -/
theorem step_back {big : Bool} {s : ByteArray} {p : Nat} (hb : (stepN big s p).bad = false) (hz : (stepN big s p).z = true) :
    (stepN big s p).p = p + sizN (stepN big s p).x ∧ p + sizN (stepN big s p).x ≤ s.size ∧ smallN (stepN big s p).x ∧ (s.data.toList.drop p).take (sizN (stepN big s p).x) = encN big (stepN big s p).x := by
  have hf := stepN_fit hb
  have hy := stepN_yes big s p hf
  rw [hy] at hz ⊢
  clear hb hy
  dsimp only at hz ⊢
  unfold needN at hf hz ⊢
  have l0 := numR_lt big s p
  have l1 := numR_lt big s (p + 4)
  have l2 := numR_lt big s (p + 8)
  have c0 := take4 big s p (by omega)
  have c1 := take4 big s (p + 4) (by omega)
  have c2 := take4 big s (p + 8) (by omega)
  generalize numR big s p = a at *
  generalize numR big s (p + 4) = d at *
  generalize numR big s (p + 8) = t at *
  have g3 := ext_size s (p + 12) a (by omega)
  have g4 := ext_size s (p + 12 + a) (pad4 a) (by omega)
  have g5 := ext_size s (p + 12 + a + pad4 a) d (by omega)
  have e6 : p + (12 + a + pad4 a + d + pad4 d) = p + 12 + a + pad4 a + d + pad4 d := by omega
  rw [e6] at hz hf ⊢
  have g6 := ext_size s (p + 12 + a + pad4 a + d) (pad4 d) (by omega)
  rw [Bool.and_eq_true] at hz
  have z4 := zero_isZ hz.1
  have z6 := zero_isZ hz.2
  rw [ext_l, Nat.add_sub_cancel_left, g4] at z4
  rw [ext_l, Nat.add_sub_cancel_left, g6] at z6
  refine ⟨by unfold sizN; dsimp only; rw [g3, g5]; omega, by unfold sizN; dsimp only; rw [g3, g5]; omega, ⟨l2, by dsimp only; omega, by dsimp only; omega⟩, ?_⟩
  unfold encN sizN
  dsimp only
  rw [g3, g5, c0, c1, c2, ext_l, Nat.add_sub_cancel_left, ext_l, Nat.add_sub_cancel_left, ← z4, ← z6]
  rw [show 12 + a + pad4 a + d + pad4 d = 4 + (4 + (4 + (a + (pad4 a + (d + pad4 d))))) by omega]
  rw [List.take_add, List.take_add, List.take_add, List.take_add, List.take_add, List.take_add]
  simp only [List.drop_drop]
/-- The first rounds: where it stands, the notes so far, whether all zeros were zeros. -/
def runN (big : Bool) (s : ByteArray) : Nat → Option (Nat × List Nt × Bool)
  | 0 => some (0, [], true)
  | k + 1 => match runN big s k with
    | none => none
    | some (p, l, z) => if p < s.size ∧ (stepN big s p).bad = false then some ((stepN big s p).p, l ++ [(stepN big s p).x], z && (stepN big s p).z) else none
theorem runN_succ {big : Bool} {s : ByteArray} {k p : Nat} {l : List Nt} {z : Bool} (h : runN big s k = some (p, l, z)) (h1 : p < s.size) (h2 : (stepN big s p).bad = false) :
    runN big s (k + 1) = some ((stepN big s p).p, l ++ [(stepN big s p).x], z && (stepN big s p).z) := by
  unfold runN
  rw [h]
  dsimp only
  rw [if_pos ⟨h1, h2⟩]
theorem runN_stop {big : Bool} {s : ByteArray} {k p : Nat} {l : List Nt} {z : Bool} (h : runN big s k = some (p, l, z)) (h1 : ¬ (p < s.size ∧ (stepN big s p).bad = false)) : ∀ j, runN big s (k + 1 + j) = none
  | 0 => by
    show runN big s (k + 1) = none
    unfold runN
    rw [h]
    dsimp only
    rw [if_neg h1]
  | j + 1 => by
    show runN big s (k + 1 + j + 1) = none
    unfold runN
    rw [runN_stop h h1 j]
/-- Two ends of the rounds are the same. -/
theorem runN_end {big : Bool} {s : ByteArray} {k k' p p' : Nat} {l l' : List Nt} {z z' : Bool} (h : runN big s k = some (p, l, z)) (h' : runN big s k' = some (p', l', z'))
    (he : ¬ (p < s.size ∧ (stepN big s p).bad = false)) (he' : ¬ (p' < s.size ∧ (stepN big s p').bad = false)) : k = k' := by
  rcases Nat.lt_trichotomy k k' with hlt | heq | hlt
  · have := runN_stop h he (k' - (k + 1))
    rw [show k + 1 + (k' - (k + 1)) = k' by omega, h'] at this
    cases this
  · exact heq
  · have := runN_stop h' he' (k - (k' + 1))
    rw [show k' + 1 + (k - (k' + 1)) = k by omega, h] at this
    cases this
/-- The first k notes' bytes. -/
def catN (big : Bool) (X : Nat → Nt) : Nat → List UInt8
  | 0 => []
  | k + 1 => catN big X k ++ encN big (X k)
def firstN (X : Nat → Nt) (k : Nat) : List Nt := (List.range k).map X
theorem firstN_succ (X : Nat → Nt) (k : Nat) : firstN X (k + 1) = firstN X k ++ [X k] := by simp [firstN, List.range_succ]
theorem catN_split (big : Bool) (X : Nat → Nt) (k n : Nat) (h : k < n) : ∃ t, catN big X n = catN big X k ++ (encN big (X k) ++ t) := by
  induction n with
  | zero => omega
  | succ n ih =>
    by_cases hk : k = n
    · subst hk; exact ⟨[], by simp [catN]⟩
    · obtain ⟨t, ht⟩ := ih (by omega)
      exact ⟨t ++ encN big (X n), by simp [catN, ht]⟩
theorem encN_pos (big : Bool) (x : Nt) : 12 ≤ (encN big x).length := by rw [encN_length]; unfold sizN; omega
/-- Notes that were put are read. -/
theorem run_put {big : Bool} {X : Nat → Nt} {n : Nat} (hX : ∀ i, i < n → smallN (X i)) {s : ByteArray} {tail : List UInt8} (hs : s.data.toList = catN big X n ++ tail) :
    ∀ k, k ≤ n → runN big s k = some ((catN big X k).length, firstN X k, true)
  | 0, _ => rfl
  | k + 1, hk => by
    have ih := run_put hX hs k (by omega)
    obtain ⟨t, ht⟩ := catN_split big X k n (by omega)
    have hd : s.data.toList.drop (catN big X k).length = encN big (X k) ++ (t ++ tail) := by
      rw [hs, ht, List.append_assoc, List.append_assoc, List.drop_left]
    have hst := step_enc (hX k (by omega)) hd
    have hlt : (catN big X k).length < s.size := by
      have h1 := congrArg List.length hd
      rw [List.length_drop, List.length_append, ba_len] at h1
      have := encN_pos big (X k)
      omega
    rw [runN_succ ih hlt (by rw [hst]), hst]
    simp only [catN, List.length_append, encN_length, firstN_succ, Bool.and_self]
theorem firstN_len (X : Nat → Nt) (k : Nat) : (firstN X k).length = k := by simp [firstN]
def catL (big : Bool) (l : List Nt) : List UInt8 := (l.map (encN big)).flatten
/-- What was read, with zeros where they must be, is put as those bytes. -/
theorem run_back {big : Bool} {s : ByteArray} : ∀ (k : Nat) {p : Nat} {l : List Nt} {z : Bool}, runN big s k = some (p, l, z) → p ≤ s.size ∧ l.length = k ∧ (z = true → s.data.toList.take p = catL big l ∧ ∀ x ∈ l, smallN x) ∧ 12 * k ≤ p
  | 0, p, l, z, h => by
    unfold runN at h
    cases h
    exact ⟨Nat.zero_le _, rfl, fun _ => ⟨rfl, fun x hx => by cases hx⟩, Nat.le_refl _⟩
  | k + 1, p, l, z, h => by
    unfold runN at h
    cases hr : runN big s k with
    | none => rw [hr] at h; cases h
    | some q =>
      obtain ⟨p0, l0, z0⟩ := q
      rw [hr] at h
      dsimp only at h
      by_cases hc : p0 < s.size ∧ (stepN big s p0).bad = false
      · rw [if_pos hc] at h
        obtain ⟨i1, i2, i3, i4⟩ := run_back k hr
        cases h
        have hf := stepN_fit hc.2
        have hy := stepN_yes big s p0 hf
        have hn : 12 ≤ needN big s p0 := by unfold needN; omega
        refine ⟨by rw [hy]; exact hf, by simp [i2], fun hz => ?_, by rw [hy]; dsimp only; omega⟩
        rw [Bool.and_eq_true] at hz
        obtain ⟨j1, j2⟩ := i3 hz.1
        obtain ⟨b1, b2, b3, b4⟩ := step_back hc.2 hz.2
        refine ⟨?_, fun x hx => ?_⟩
        · rw [b1, List.take_add, j1, b4]
          simp [catL]
        · rcases List.mem_append.1 hx with h5 | h5
          · exact j2 x h5
          · rw [List.mem_singleton.1 h5]; exact b3
      · rw [if_neg hc] at h; cases h
end Go.Proofs.YtnmklmaclmjfbaaDoor
