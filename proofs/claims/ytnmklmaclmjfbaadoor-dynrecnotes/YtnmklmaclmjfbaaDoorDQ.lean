/- The reference's notes. Conditions: those written in each theorem. -/
import Derived.Test.YtnmklmaclmjfbaaDoorDG
namespace Go.Proofs.YtnmklmaclmjfbaaDoor
open Go.RowKit
theorem str_size (l : List UInt8) : (ByteArray.mk l.toArray).size = l.length := by simp [ByteArray.size]
def strS : Value → Nat
  | .string t => t.size
  | _ => 0
set_option maxRecDepth 100000 in
theorem refpad_any (s : ByteArray) (hs : s.size ≤ 100000) (w : World) : Calls Tryd.prog 30 #[.string s] w fun e w' => e = .returned (.string ⟨(s.data.toList ++ zeroL (pad4 s.size)).toArray⟩) ∧ w = w' := by
  have hp := pad4_le s.size
  have hpd : (s.size + pad4 s.size) % 4 = 0 := by unfold pad4; omega
  have hpl : ∀ j, j < pad4 s.size → (s.size + j) % 4 ≠ 0 := fun j hj => by unfold pad4 at hj; omega
  have HPL := Lib.hid hpl; have HPD := Lib.hid hpd; clear hpl hpd
  generalize pad4 s.size = P at *
  go_enter Tryd.func30, Tryd.ntmps30
  go_wp2
  go_loop [0] (fun t => ∃ j : Nat, j ≤ P ∧ t = .string ⟨(s.data.toList ++ zeroL j).toArray⟩) (fun t => s.size + P + 1 - strS t)
  case atStart => exact ⟨0, Nat.zero_le _, by simp [zeroL]⟩
  case round =>
    obtain ⟨j, hj, rfl⟩ := hrel
    have hz : (ByteArray.mk (s.data.toList ++ zeroL j).toArray).size = s.size + j := by rw [str_size, List.length_append, ba_len, zeroL_length]
    by_cases hlt : j < P
    · have HN : Hid ((ByteArray.mk (s.data.toList ++ zeroL j).toArray) ++ (⟨#[0]⟩ : ByteArray) = ⟨(s.data.toList ++ zeroL (j + 1)).toArray⟩) := Lib.hid (by
        apply ba_ext
        simp [zeroL, List.replicate_succ'])
      have hne := HPL.out j hlt
      have hadd := add_str (ByteArray.mk (s.data.toList ++ zeroL j).toArray) ⟨#[0]⟩ (by rw [hz]; show s.size + j + 1 ≤ _; omega)
      obtain ⟨r, hr, hr0⟩ : ∃ r : Nat, ((s.size + j : Nat) : Int).tmod 4 = (r : Int) ∧ 0 < r := ⟨(s.size + j) % 4, by show ((s.size + j : Nat) : Int).tmod ((4 : Nat) : Int) = _; rw [← Int.ofNat_tmod], by omega⟩
      have hr2 : ((s.size + j : Nat) : Int) % 4 = (r : Int) := by rw [← hr]; rw [Int.tmod_eq_emod_of_nonneg (by omega)]
      have HS : Hid (strS (.string ⟨(s.data.toList ++ zeroL (j + 1)).toArray⟩) = s.size + j + 1) := Lib.hid (by show (ByteArray.mk _).size = _; rw [str_size, List.length_append, ba_len, zeroL_length]; omega)
      have HS0 : Hid (strS (.string ⟨(s.data.toList ++ zeroL j).toArray⟩) = s.size + j) := Lib.hid hz
      clear hne
      generalize (ByteArray.mk (s.data.toList ++ zeroL j).toArray) = t at *
      have HZ := Lib.hid hz; rw [← hz] at hr hr2; clear hz
      have hr3 : (0 : Int) < (r : Int) := by omega
      go_wp2
      rw [HN.out]
      refine ⟨⟨j + 1, by omega, rfl⟩, ?_⟩
      rw [HS.out, HS0.out]
      omega
    · obtain rfl : j = P := by omega
      have hr : ((s.size + j : Nat) : Int).tmod 4 = 0 := by show ((s.size + j : Nat) : Int).tmod ((4 : Nat) : Int) = ((0 : Nat) : Int); rw [← Int.ofNat_tmod, HPD.out]
      have hr2 : ((s.size + j : Nat) : Int) % 4 = 0 := by have := HPD.out; omega
      rw [← hz] at hr hr2
      clear hz
      generalize hgt : (ByteArray.mk (s.data.toList ++ zeroL j).toArray) = t at *
      have HGT := Lib.hid hgt; clear hgt
      go_wp2
      go_ret
      exact ⟨by rw [HGT.out]; rfl, rfl⟩
set_option maxRecDepth 100000 in
set_option maxHeartbeats 2000000 in
theorem refNotes_any (big : Bool) (A : Option Addr) (cap n : Nat) (X : Nat → Nt) (hn : n ≤ 100) (hlen : (catN big X n).length ≤ 100000) (h64 : ∀ i, i < n → (X i).ty < 2 ^ 64)
    (w : World) (hR : RowNt w A n X) : Calls Tryd.prog 13 #[.bool big, .slice A n cap] w fun e w' => e = .returned (putNV big X n) ∧ Below w.heap.size w w' := by
  have HR := Lib.hid hR; have HL := Lib.hid hlen; have H64 := Lib.hid h64; clear hR hlen h64
  go_enter Tryd.func13, Tryd.ntmps13
  go_wp2
  go_loopw [6, 7] (fun s i wr => ∃ k : Nat, k ≤ n ∧ i = .int .i64 (k : Int) ∧ s = .string ⟨(catN big X k).toArray⟩ ∧ allOk (okN X) k = true ∧ Below w.heap.size w wr) (fun _ i _ => n - (intOf i).toNat)
  case atStart => exact ⟨0, Nat.zero_le _, rfl, rfl, rfl, Below.refl _ _⟩
  case round =>
    obtain ⟨k, hk, rfl, rfl, hok, hB⟩ := hrel
    have HOK := Lib.hid hok; have HB := Lib.hid hB; clear hok hB
    by_cases hlt : k < n
    · obtain ⟨b, o, rfl, hbl, hc0, hc1, hc2⟩ := HR.out.low HB.out k hlt
      have h64k := H64.out k hlt
      have hlk := catN_le big X k n hlt
      have hll := HL.out
      have hsucc : allOk (okN X) (k + 1) = (allOk (okN X) k && okN X k) := allOk_succ (okN X) k
      rw [HOK.out, Bool.true_and] at hsucc
      have HSU := Lib.hid hsucc
      have HOKK : Hid (okN X k = decide ((X k).ty < 4294967296)) := Lib.hid rfl
      have HNO : Hid (okN X k = false → putNV big X n = .tuple #[.string ⟨#[]⟩, .bool false]) := Lib.hid (fun h => by unfold putNV; rw [allOk_false hlt h]; rfl)
      have hsz : sizN (X k) = 12 + (X k).name.size + pad4 (X k).name.size + (X k).desc.size + pad4 (X k).desc.size := rfl
      have HCAT : Hid (catN big X (k + 1) = catN big X k ++ (Num.putL big (X k).name.size 4 ++ (Num.putL big (X k).desc.size 4 ++ (Num.putL big (X k).ty 4 ++ ((X k).name.data.toList ++ (zeroL (pad4 (X k).name.size) ++ ((X k).desc.data.toList ++ zeroL (pad4 (X k).desc.size)))))))) := Lib.hid rfl
      have hp1 := pad4_le (X k).name.size
      have hp2 := pad4_le (X k).desc.size
      rw [hsz] at hlk
      clear hsucc hsz
      generalize okN X k = oek at *
      generalize X k = r at *
      obtain ⟨ty, nm, ds⟩ := r
      dsimp only at hc0 hc1 hc2 h64k hlk HOKK HCAT hp1 hp2
      have k0 : (0 : Int) ≤ (k : Int) := by omega
      have k1 : (k : Int) < (n : Int) := by omega
      have k2 : k + 1 ≤ 1048576 := by omega
      by_cases hty : ty < 4294967296
      · have t1 : decide ((4294967296 : Int) ≤ (ty : Int)) = false := decide_eq_false (by omega)
        have hs0 := str_size (catN big X k)
        have hs1 : (ByteArray.mk (Num.putL big nm.size 4).toArray).size = 4 := by rw [str_size, putL4]
        have hs2 : (ByteArray.mk (Num.putL big ds.size 4).toArray).size = 4 := by rw [str_size, putL4]
        have hs3 : (ByteArray.mk (Num.putL big ty 4).toArray).size = 4 := by rw [str_size, putL4]
        have hs4 : (ByteArray.mk (nm.data.toList ++ zeroL (pad4 nm.size)).toArray).size = nm.size + pad4 nm.size := by rw [str_size, List.length_append, ba_len, zeroL_length]
        have hs5 : (ByteArray.mk (ds.data.toList ++ zeroL (pad4 ds.size)).toArray).size = ds.size + pad4 ds.size := by rw [str_size, List.length_append, ba_len, zeroL_length]
        have HEQ : Hid ((ByteArray.mk (catN big X k).toArray) ++ ((((ByteArray.mk (Num.putL big nm.size 4).toArray ++ ByteArray.mk (Num.putL big ds.size 4).toArray) ++ ByteArray.mk (Num.putL big ty 4).toArray) ++ ByteArray.mk (nm.data.toList ++ zeroL (pad4 nm.size)).toArray) ++ ByteArray.mk (ds.data.toList ++ zeroL (pad4 ds.size)).toArray) = ⟨(catN big X (k + 1)).toArray⟩) := Lib.hid (by
          rw [HCAT.out]
          apply ba_ext
          simp)
        have HP1 := Lib.hid (fun u => refPut_any big nm.size 4 u (by omega))
        have HP2 := Lib.hid (fun u => refPut_any big ds.size 4 u (by omega))
        have HP3 := Lib.hid (fun u => refPut_any big ty 4 u (by omega))
        have HTY := Lib.hid hty; clear hty h64k
        have HQ1 := Lib.hid (fun u => refpad_any nm (by omega) u)
        have HQ2 := Lib.hid (fun u => refpad_any ds (by omega) u)
        generalize (ByteArray.mk (Num.putL big nm.size 4).toArray) = p1 at *
        generalize (ByteArray.mk (Num.putL big ds.size 4).toArray) = p2 at *
        generalize (ByteArray.mk (Num.putL big ty 4).toArray) = p3 at *
        generalize (ByteArray.mk (nm.data.toList ++ zeroL (pad4 nm.size)).toArray) = p4 at *
        generalize (ByteArray.mk (ds.data.toList ++ zeroL (pad4 ds.size)).toArray) = p5 at *
        generalize hc : (ByteArray.mk (catN big X k).toArray) = c at *
        have HC := Lib.hid hc; clear hc
        have a1 := add_str p1 p2 (by omega)
        have a2 := add_str (p1 ++ p2) p3 (by rw [ByteArray.size_append]; omega)
        have a3 := add_str ((p1 ++ p2) ++ p3) p4 (by simp only [ByteArray.size_append]; omega)
        have a4 := add_str (((p1 ++ p2) ++ p3) ++ p4) p5 (by simp only [ByteArray.size_append]; omega)
        have a5 := add_str c ((((p1 ++ p2) ++ p3) ++ p4) ++ p5) (by simp only [ByteArray.size_append]; omega)
        have wa : IntKind.u64.wrap (nm.size : Int) = (nm.size : Int) := by rw [IntKind.wrap_u64]; omega
        have wb : IntKind.u64.wrap (ds.size : Int) = (ds.size : Int) := by rw [IntKind.wrap_u64]; omega
        have HX : Hid (∀ u, Below wr.heap.size wr u → u.cell? ⟨b, o + k * 3, none⟩ = some (.int .u64 (ty : Nat)) ∧ u.cell? ⟨b, o + k * 3 + 1, none⟩ = some (.string nm) ∧ u.cell? ⟨b, o + k * 3 + 2, none⟩ = some (.string ds)) := Lib.hid (fun u hu => ⟨(hu.cell (by exact hbl)).trans hc0, (hu.cell (by exact hbl)).trans hc1, (hu.cell (by exact hbl)).trans hc2⟩)
        clear hs0 hs1 hs2 hs3 hs4 hs5 hlk hll
        have X0 := Lib.hid (fun u h => (HX.out u h).1)
        have X1 := Lib.hid (fun u h => (HX.out u h).2.1)
        have X2 := Lib.hid (fun u h => (HX.out u h).2.2)
        clear hc1 hc2
        go_upto_region 7 with (fail)
        clear hc0
        refine wp_region_held_drew (S := fun w' => Below wr.heap.size wr w') (by kernel_rfl) ?_ (fun hHeld => ?_)
        · exact (Below.refl _ _).drew
        refine wpAnyH_take (i := 0) (oi := { dst := some 20, op := Go.Op.move (Go.Operand.tmp 6), type := 9, pos := "ref.go:50", after := #[], guard := none }) (v := ?_) rfl (by kernel_rfl) (by kernel_rfl) (by kernel_rfl) (fun _ _ _ h => h) (Or.inl ⟨by rfl, ?_⟩) (by assumption) ?_
        rotate_left
        · (intro w hSw; (try dsimp only at hSw); go_simp <;> with_reducible rfl)
        try simp only [Act.put, List.setIfInBounds_toArray, List.set_cons_zero, List.set_cons_succ]
        refine wpAnyH_take (i := 1) (oi := { dst := some 21, op := Go.Op.move (Go.Operand.tmp 0), type := 4, pos := "ref.go:50", after := #[], guard := none }) (v := ?_) rfl (by kernel_rfl) (by kernel_rfl) (by kernel_rfl) (fun _ _ _ h => h) (Or.inl ⟨by rfl, ?_⟩) (by assumption) ?_
        rotate_left
        · (intro w hSw; (try dsimp only at hSw); go_simp <;> with_reducible rfl)
        try simp only [Act.put, List.setIfInBounds_toArray, List.set_cons_zero, List.set_cons_succ]
        refine wpAnyH_take (i := 2) (oi := { dst := some 22, op := Go.Op.move (Go.Operand.tmp 1), type := 45, pos := "ref.go:50", after := #[], guard := none }) (v := ?_) rfl (by kernel_rfl) (by kernel_rfl) (by kernel_rfl) (fun _ _ _ h => h) (Or.inl ⟨by rfl, ?_⟩) (by assumption) ?_
        rotate_left
        · (intro w hSw; (try dsimp only at hSw); go_simp <;> with_reducible rfl)
        try simp only [Act.put, List.setIfInBounds_toArray, List.set_cons_zero, List.set_cons_succ]
        refine wpAnyH_take (i := 3) (oi := { dst := some 23, op := Go.Op.move (Go.Operand.tmp 7), type := 3, pos := "ref.go:50", after := #[], guard := none }) (v := ?_) rfl (by kernel_rfl) (by kernel_rfl) (by kernel_rfl) (fun _ _ _ h => h) (Or.inl ⟨by rfl, ?_⟩) (by assumption) ?_
        rotate_left
        · (intro w hSw; (try dsimp only at hSw); go_simp <;> with_reducible rfl)
        try simp only [Act.put, List.setIfInBounds_toArray, List.set_cons_zero, List.set_cons_succ]
        refine wpAnyH_take (i := 10) (oi := { dst := some 30, op := Go.Op.move (Go.Operand.tmp 0), type := 4, pos := "ref.go:50", after := #[], guard := none }) (v := ?_) rfl (by kernel_rfl) (by kernel_rfl) (by kernel_rfl) (fun _ _ _ h => h) (Or.inl ⟨by rfl, ?_⟩) (by assumption) ?_
        rotate_left
        · (intro w hSw; (try dsimp only at hSw); go_simp <;> with_reducible rfl)
        try simp only [Act.put, List.setIfInBounds_toArray, List.set_cons_zero, List.set_cons_succ]
        refine wpAnyH_take (i := 11) (oi := { dst := some 31, op := Go.Op.move (Go.Operand.tmp 1), type := 45, pos := "ref.go:50", after := #[], guard := none }) (v := ?_) rfl (by kernel_rfl) (by kernel_rfl) (by kernel_rfl) (fun _ _ _ h => h) (Or.inl ⟨by rfl, ?_⟩) (by assumption) ?_
        rotate_left
        · (intro w hSw; (try dsimp only at hSw); go_simp <;> with_reducible rfl)
        try simp only [Act.put, List.setIfInBounds_toArray, List.set_cons_zero, List.set_cons_succ]
        refine wpAnyH_take (i := 12) (oi := { dst := some 32, op := Go.Op.move (Go.Operand.tmp 7), type := 3, pos := "ref.go:50", after := #[], guard := none }) (v := ?_) rfl (by kernel_rfl) (by kernel_rfl) (by kernel_rfl) (fun _ _ _ h => h) (Or.inl ⟨by rfl, ?_⟩) (by assumption) ?_
        rotate_left
        · (intro w hSw; (try dsimp only at hSw); go_simp <;> with_reducible rfl)
        try simp only [Act.put, List.setIfInBounds_toArray, List.set_cons_zero, List.set_cons_succ]
        refine wpAnyH_take (i := 20) (oi := { dst := some 40, op := Go.Op.move (Go.Operand.tmp 0), type := 4, pos := "ref.go:50", after := #[], guard := none }) (v := ?_) rfl (by kernel_rfl) (by kernel_rfl) (by kernel_rfl) (fun _ _ _ h => h) (Or.inl ⟨by rfl, ?_⟩) (by assumption) ?_
        rotate_left
        · (intro w hSw; (try dsimp only at hSw); go_simp <;> with_reducible rfl)
        try simp only [Act.put, List.setIfInBounds_toArray, List.set_cons_zero, List.set_cons_succ]
        refine wpAnyH_take (i := 21) (oi := { dst := some 41, op := Go.Op.move (Go.Operand.tmp 1), type := 45, pos := "ref.go:50", after := #[], guard := none }) (v := ?_) rfl (by kernel_rfl) (by kernel_rfl) (by kernel_rfl) (fun _ _ _ h => h) (Or.inl ⟨by rfl, ?_⟩) (by assumption) ?_
        rotate_left
        · (intro w hSw; (try dsimp only at hSw); go_simp <;> with_reducible rfl)
        try simp only [Act.put, List.setIfInBounds_toArray, List.set_cons_zero, List.set_cons_succ]
        refine wpAnyH_take (i := 22) (oi := { dst := some 42, op := Go.Op.move (Go.Operand.tmp 7), type := 3, pos := "ref.go:50", after := #[], guard := none }) (v := ?_) rfl (by kernel_rfl) (by kernel_rfl) (by kernel_rfl) (fun _ _ _ h => h) (Or.inl ⟨by rfl, ?_⟩) (by assumption) ?_
        rotate_left
        · (intro w hSw; (try dsimp only at hSw); go_simp <;> with_reducible rfl)
        try simp only [Act.put, List.setIfInBounds_toArray, List.set_cons_zero, List.set_cons_succ]
        refine wpAnyH_take (i := 28) (oi := { dst := some 48, op := Go.Op.move (Go.Operand.tmp 1), type := 45, pos := "ref.go:50", after := #[], guard := none }) (v := ?_) rfl (by kernel_rfl) (by kernel_rfl) (by kernel_rfl) (fun _ _ _ h => h) (Or.inl ⟨by rfl, ?_⟩) (by assumption) ?_
        rotate_left
        · (intro w hSw; (try dsimp only at hSw); go_simp <;> with_reducible rfl)
        try simp only [Act.put, List.setIfInBounds_toArray, List.set_cons_zero, List.set_cons_succ]
        refine wpAnyH_take (i := 29) (oi := { dst := some 49, op := Go.Op.move (Go.Operand.tmp 7), type := 3, pos := "ref.go:50", after := #[], guard := none }) (v := ?_) rfl (by kernel_rfl) (by kernel_rfl) (by kernel_rfl) (fun _ _ _ h => h) (Or.inl ⟨by rfl, ?_⟩) (by assumption) ?_
        rotate_left
        · (intro w hSw; (try dsimp only at hSw); go_simp <;> with_reducible rfl)
        try simp only [Act.put, List.setIfInBounds_toArray, List.set_cons_zero, List.set_cons_succ]
        refine wpAnyH_take (i := 35) (oi := { dst := some 55, op := Go.Op.move (Go.Operand.tmp 1), type := 45, pos := "ref.go:50", after := #[], guard := none }) (v := ?_) rfl (by kernel_rfl) (by kernel_rfl) (by kernel_rfl) (fun _ _ _ h => h) (Or.inl ⟨by rfl, ?_⟩) (by assumption) ?_
        rotate_left
        · (intro w hSw; (try dsimp only at hSw); go_simp <;> with_reducible rfl)
        try simp only [Act.put, List.setIfInBounds_toArray, List.set_cons_zero, List.set_cons_succ]
        refine wpAnyH_take (i := 36) (oi := { dst := some 56, op := Go.Op.move (Go.Operand.tmp 7), type := 3, pos := "ref.go:50", after := #[], guard := none }) (v := ?_) rfl (by kernel_rfl) (by kernel_rfl) (by kernel_rfl) (fun _ _ _ h => h) (Or.inl ⟨by rfl, ?_⟩) (by assumption) ?_
        rotate_left
        · (intro w hSw; (try dsimp only at hSw); go_simp <;> with_reducible rfl)
        try simp only [Act.put, List.setIfInBounds_toArray, List.set_cons_zero, List.set_cons_succ]
        refine wpAnyH_take (i := 4) (oi := { dst := some 24, op := Go.Op.indexAddr 45 (Go.Operand.tmp 22) (Go.Operand.tmp 23), type := 0, pos := "ref.go:50", after := #[{ on := 2, ground := Go.Ground.data }, { on := 3, ground := Go.Ground.data }], guard := none }) (v := ?_) rfl (by kernel_rfl) (by kernel_rfl) (by kernel_rfl) (fun _ _ _ h => h) (Or.inl ⟨by rfl, ?_⟩) (by assumption) ?_
        rotate_left
        · (intro w hSw; (try dsimp only at hSw); go_simp <;> with_reducible rfl)
        try simp only [Act.put, List.setIfInBounds_toArray, List.set_cons_zero, List.set_cons_succ]
        refine wpAnyH_take (i := 13) (oi := { dst := some 33, op := Go.Op.indexAddr 45 (Go.Operand.tmp 31) (Go.Operand.tmp 32), type := 0, pos := "ref.go:50", after := #[{ on := 11, ground := Go.Ground.data }, { on := 12, ground := Go.Ground.data }], guard := none }) (v := ?_) rfl (by kernel_rfl) (by kernel_rfl) (by kernel_rfl) (fun _ _ _ h => h) (Or.inl ⟨by rfl, ?_⟩) (by assumption) ?_
        rotate_left
        · (intro w hSw; (try dsimp only at hSw); go_simp <;> with_reducible rfl)
        try simp only [Act.put, List.setIfInBounds_toArray, List.set_cons_zero, List.set_cons_succ]
        refine wpAnyH_take (i := 23) (oi := { dst := some 43, op := Go.Op.indexAddr 45 (Go.Operand.tmp 41) (Go.Operand.tmp 42), type := 0, pos := "ref.go:50", after := #[{ on := 21, ground := Go.Ground.data }, { on := 22, ground := Go.Ground.data }], guard := none }) (v := ?_) rfl (by kernel_rfl) (by kernel_rfl) (by kernel_rfl) (fun _ _ _ h => h) (Or.inl ⟨by rfl, ?_⟩) (by assumption) ?_
        rotate_left
        · (intro w hSw; (try dsimp only at hSw); go_simp <;> with_reducible rfl)
        try simp only [Act.put, List.setIfInBounds_toArray, List.set_cons_zero, List.set_cons_succ]
        refine wpAnyH_take (i := 30) (oi := { dst := some 50, op := Go.Op.indexAddr 45 (Go.Operand.tmp 48) (Go.Operand.tmp 49), type := 0, pos := "ref.go:50", after := #[{ on := 28, ground := Go.Ground.data }, { on := 29, ground := Go.Ground.data }], guard := none }) (v := ?_) rfl (by kernel_rfl) (by kernel_rfl) (by kernel_rfl) (fun _ _ _ h => h) (Or.inl ⟨by rfl, ?_⟩) (by assumption) ?_
        rotate_left
        · (intro w hSw; (try dsimp only at hSw); go_simp <;> with_reducible rfl)
        try simp only [Act.put, List.setIfInBounds_toArray, List.set_cons_zero, List.set_cons_succ]
        refine wpAnyH_take (i := 37) (oi := { dst := some 57, op := Go.Op.indexAddr 45 (Go.Operand.tmp 55) (Go.Operand.tmp 56), type := 0, pos := "ref.go:50", after := #[{ on := 35, ground := Go.Ground.data }, { on := 36, ground := Go.Ground.data }], guard := none }) (v := ?_) rfl (by kernel_rfl) (by kernel_rfl) (by kernel_rfl) (fun _ _ _ h => h) (Or.inl ⟨by rfl, ?_⟩) (by assumption) ?_
        rotate_left
        · (intro w hSw; (try dsimp only at hSw); go_simp <;> with_reducible rfl)
        try simp only [Act.put, List.setIfInBounds_toArray, List.set_cons_zero, List.set_cons_succ]
        refine wpAnyH_take (i := 5) (oi := { dst := some 25, op := Go.Op.fieldAddr 49 (Go.Operand.tmp 24) 1, type := 0, pos := "ref.go:50", after := #[{ on := 4, ground := Go.Ground.data }], guard := none }) (v := ?_) rfl (by kernel_rfl) (by kernel_rfl) (by kernel_rfl) (fun _ _ _ h => h) (Or.inl ⟨by rfl, ?_⟩) (by assumption) ?_
        rotate_left
        · (intro w hSw; (try dsimp only at hSw); go_simp <;> with_reducible rfl)
        try simp only [Act.put, List.setIfInBounds_toArray, List.set_cons_zero, List.set_cons_succ]
        refine wpAnyH_take (i := 14) (oi := { dst := some 34, op := Go.Op.fieldAddr 49 (Go.Operand.tmp 33) 2, type := 0, pos := "ref.go:50", after := #[{ on := 13, ground := Go.Ground.data }], guard := none }) (v := ?_) rfl (by kernel_rfl) (by kernel_rfl) (by kernel_rfl) (fun _ _ _ h => h) (Or.inl ⟨by rfl, ?_⟩) (by assumption) ?_
        rotate_left
        · (intro w hSw; (try dsimp only at hSw); go_simp <;> with_reducible rfl)
        try simp only [Act.put, List.setIfInBounds_toArray, List.set_cons_zero, List.set_cons_succ]
        refine wpAnyH_take (i := 24) (oi := { dst := some 44, op := Go.Op.fieldAddr 49 (Go.Operand.tmp 43) 0, type := 0, pos := "ref.go:50", after := #[{ on := 23, ground := Go.Ground.data }], guard := none }) (v := ?_) rfl (by kernel_rfl) (by kernel_rfl) (by kernel_rfl) (fun _ _ _ h => h) (Or.inl ⟨by rfl, ?_⟩) (by assumption) ?_
        rotate_left
        · (intro w hSw; (try dsimp only at hSw); go_simp <;> with_reducible rfl)
        try simp only [Act.put, List.setIfInBounds_toArray, List.set_cons_zero, List.set_cons_succ]
        refine wpAnyH_take (i := 31) (oi := { dst := some 51, op := Go.Op.fieldAddr 49 (Go.Operand.tmp 50) 1, type := 0, pos := "ref.go:50", after := #[{ on := 30, ground := Go.Ground.data }], guard := none }) (v := ?_) rfl (by kernel_rfl) (by kernel_rfl) (by kernel_rfl) (fun _ _ _ h => h) (Or.inl ⟨by rfl, ?_⟩) (by assumption) ?_
        rotate_left
        · (intro w hSw; (try dsimp only at hSw); go_simp <;> with_reducible rfl)
        try simp only [Act.put, List.setIfInBounds_toArray, List.set_cons_zero, List.set_cons_succ]
        refine wpAnyH_take (i := 38) (oi := { dst := some 58, op := Go.Op.fieldAddr 49 (Go.Operand.tmp 57) 2, type := 0, pos := "ref.go:50", after := #[{ on := 37, ground := Go.Ground.data }], guard := none }) (v := ?_) rfl (by kernel_rfl) (by kernel_rfl) (by kernel_rfl) (fun _ _ _ h => h) (Or.inl ⟨by rfl, ?_⟩) (by assumption) ?_
        rotate_left
        · (intro w hSw; (try dsimp only at hSw); go_simp <;> with_reducible rfl)
        try simp only [Act.put, List.setIfInBounds_toArray, List.set_cons_zero, List.set_cons_succ]
        refine wpAnyH_take (i := 6) (oi := { dst := some 26, op := Go.Op.load 9 (Go.Operand.tmp 25), type := 9, pos := "ref.go:50", after := #[{ on := 5, ground := Go.Ground.data }], guard := none }) (v := ?_) rfl (by kernel_rfl) (by kernel_rfl) (by kernel_rfl) (fun _ _ _ h => h) (Or.inl ⟨by rfl, ?_⟩) (by assumption) ?_
        rotate_left
        · (intro w hSw; have q0 := X1.out w hSw; (try dsimp only at hSw); go_simp <;> with_reducible rfl)
        try simp only [Act.put, List.setIfInBounds_toArray, List.set_cons_zero, List.set_cons_succ]
        refine wpAnyH_take (i := 15) (oi := { dst := some 35, op := Go.Op.load 9 (Go.Operand.tmp 34), type := 9, pos := "ref.go:50", after := #[{ on := 14, ground := Go.Ground.data }], guard := none }) (v := ?_) rfl (by kernel_rfl) (by kernel_rfl) (by kernel_rfl) (fun _ _ _ h => h) (Or.inl ⟨by rfl, ?_⟩) (by assumption) ?_
        rotate_left
        · (intro w hSw; have q0 := X2.out w hSw; (try dsimp only at hSw); go_simp <;> with_reducible rfl)
        try simp only [Act.put, List.setIfInBounds_toArray, List.set_cons_zero, List.set_cons_succ]
        refine wpAnyH_take (i := 25) (oi := { dst := some 45, op := Go.Op.load 31 (Go.Operand.tmp 44), type := 31, pos := "ref.go:50", after := #[{ on := 24, ground := Go.Ground.data }], guard := none }) (v := ?_) rfl (by kernel_rfl) (by kernel_rfl) (by kernel_rfl) (fun _ _ _ h => h) (Or.inl ⟨by rfl, ?_⟩) (by assumption) ?_
        rotate_left
        · (intro w hSw; have q0 := X0.out w hSw; (try dsimp only at hSw); go_simp <;> with_reducible rfl)
        try simp only [Act.put, List.setIfInBounds_toArray, List.set_cons_zero, List.set_cons_succ]
        refine wpAnyH_take (i := 32) (oi := { dst := some 52, op := Go.Op.load 9 (Go.Operand.tmp 51), type := 9, pos := "ref.go:50", after := #[{ on := 31, ground := Go.Ground.data }], guard := none }) (v := ?_) rfl (by kernel_rfl) (by kernel_rfl) (by kernel_rfl) (fun _ _ _ h => h) (Or.inl ⟨by rfl, ?_⟩) (by assumption) ?_
        rotate_left
        · (intro w hSw; have q0 := X1.out w hSw; (try dsimp only at hSw); go_simp <;> with_reducible rfl)
        try simp only [Act.put, List.setIfInBounds_toArray, List.set_cons_zero, List.set_cons_succ]
        refine wpAnyH_take (i := 39) (oi := { dst := some 59, op := Go.Op.load 9 (Go.Operand.tmp 58), type := 9, pos := "ref.go:50", after := #[{ on := 38, ground := Go.Ground.data }], guard := none }) (v := ?_) rfl (by kernel_rfl) (by kernel_rfl) (by kernel_rfl) (fun _ _ _ h => h) (Or.inl ⟨by rfl, ?_⟩) (by assumption) ?_
        rotate_left
        · (intro w hSw; have q0 := X2.out w hSw; (try dsimp only at hSw); go_simp <;> with_reducible rfl)
        try simp only [Act.put, List.setIfInBounds_toArray, List.set_cons_zero, List.set_cons_succ]
        refine wpAnyH_take (i := 7) (oi := { dst := some 27, op := Go.Op.call { callee := Go.Callee.builtin Go.Builtin.len, args := #[Go.Operand.tmp 26], argTypes := #[9] }, type := 3, pos := "ref.go:50", after := #[{ on := 6, ground := Go.Ground.data }], guard := none }) (v := ?_) rfl (by kernel_rfl) (by kernel_rfl) (by kernel_rfl) (fun _ _ _ h => h) (Or.inl ⟨by rfl, ?_⟩) (by assumption) ?_
        rotate_left
        · (intro w hSw; (try dsimp only at hSw); go_simp <;> with_reducible rfl)
        try simp only [Act.put, List.setIfInBounds_toArray, List.set_cons_zero, List.set_cons_succ]
        refine wpAnyH_take (i := 16) (oi := { dst := some 36, op := Go.Op.call { callee := Go.Callee.builtin Go.Builtin.len, args := #[Go.Operand.tmp 35], argTypes := #[9] }, type := 3, pos := "ref.go:50", after := #[{ on := 15, ground := Go.Ground.data }], guard := none }) (v := ?_) rfl (by kernel_rfl) (by kernel_rfl) (by kernel_rfl) (fun _ _ _ h => h) (Or.inl ⟨by rfl, ?_⟩) (by assumption) ?_
        rotate_left
        · (intro w hSw; (try dsimp only at hSw); go_simp <;> with_reducible rfl)
        try simp only [Act.put, List.setIfInBounds_toArray, List.set_cons_zero, List.set_cons_succ]
        refine wpAnyH_take (i := 8) (oi := { dst := some 28, op := Go.Op.convert 3 31 (Go.Operand.tmp 27), type := 31, pos := "ref.go:50", after := #[{ on := 7, ground := Go.Ground.data }], guard := none }) (v := ?_) rfl (by kernel_rfl) (by kernel_rfl) (by kernel_rfl) (fun _ _ _ h => h) (Or.inl ⟨by rfl, ?_⟩) (by assumption) ?_
        rotate_left
        · (intro w hSw; (try dsimp only at hSw); go_simp <;> with_reducible rfl)
        try simp only [Act.put, List.setIfInBounds_toArray, List.set_cons_zero, List.set_cons_succ]
        refine wpAnyH_take (i := 17) (oi := { dst := some 37, op := Go.Op.convert 3 31 (Go.Operand.tmp 36), type := 31, pos := "ref.go:50", after := #[{ on := 16, ground := Go.Ground.data }], guard := none }) (v := ?_) rfl (by kernel_rfl) (by kernel_rfl) (by kernel_rfl) (fun _ _ _ h => h) (Or.inl ⟨by rfl, ?_⟩) (by assumption) ?_
        rotate_left
        · (intro w hSw; (try dsimp only at hSw); go_simp <;> with_reducible rfl)
        try simp only [Act.put, List.setIfInBounds_toArray, List.set_cons_zero, List.set_cons_succ]
        refine wpAnyH_ready (rs := [9]) (by kernel_rfl) (by simp) ?_
        refine AllReadyH.cons (o := { dst := some 29, op := Go.Op.call { callee := Go.Callee.value (Go.Operand.func 29), args := #[Go.Operand.tmp 21, Go.Operand.tmp 28, Go.Operand.const (Go.Value.int Go.IntKind.i64 4)], argTypes := #[4, 31, 3] }, type := 9, pos := "ref.go:50", after := #[{ on := 1, ground := Go.Ground.data }, { on := 8, ground := Go.Ground.data }], guard := none }) rfl (fun K hK => ?_) AllReadyH.nil
        (first | go_at_call 29 | (go_simp; go_at_call 29))
        refine (HP1.out _).mono ?_
        rintro e w1 ⟨rfl, h1⟩
        try go_wp2_with fail
        refine hK.out _ _ ?_ (fun hHeld2 => ?_)
        · exact hHeld.trans (h1.mono hHeld.size)
        clear hK K
        try simp only [Act.put, List.setIfInBounds_toArray, List.set_cons_zero, List.set_cons_succ]
        refine wpAnyH_ready (rs := [18]) (by kernel_rfl) (by simp) ?_
        refine AllReadyH.cons (o := { dst := some 38, op := Go.Op.call { callee := Go.Callee.value (Go.Operand.func 29), args := #[Go.Operand.tmp 30, Go.Operand.tmp 37, Go.Operand.const (Go.Value.int Go.IntKind.i64 4)], argTypes := #[4, 31, 3] }, type := 9, pos := "ref.go:50", after := #[{ on := 10, ground := Go.Ground.data }, { on := 17, ground := Go.Ground.data }, { on := 9, ground := Go.Ground.chain }], guard := none }) rfl (fun K hK => ?_) AllReadyH.nil
        (first | go_at_call 29 | (go_simp; go_at_call 29))
        refine (HP2.out _).mono ?_
        rintro e w2 ⟨rfl, h2⟩
        try go_wp2_with fail
        refine hK.out _ _ ?_ (fun hHeld3 => ?_)
        · exact hHeld2.trans (h2.mono hHeld2.size)
        clear hK K
        try simp only [Act.put, List.setIfInBounds_toArray, List.set_cons_zero, List.set_cons_succ]
        refine wpAnyH_take (i := 19) (oi := { dst := some 39, op := Go.Op.binOp Go.BinOp.add 9 (Go.Operand.tmp 29) (Go.Operand.tmp 38) 9, type := 9, pos := "ref.go:50", after := #[{ on := 9, ground := Go.Ground.data }, { on := 18, ground := Go.Ground.data }], guard := none }) (v := ?_) rfl (by kernel_rfl) (by kernel_rfl) (by kernel_rfl) (fun _ _ _ h => h) (Or.inl ⟨by rfl, ?_⟩) (by assumption) ?_
        rotate_left
        · (intro w hSw; (try dsimp only at hSw); go_simp <;> with_reducible rfl)
        try simp only [Act.put, List.setIfInBounds_toArray, List.set_cons_zero, List.set_cons_succ]
        refine wpAnyH_ready (rs := [26]) (by kernel_rfl) (by simp) ?_
        refine AllReadyH.cons (o := { dst := some 46, op := Go.Op.call { callee := Go.Callee.value (Go.Operand.func 29), args := #[Go.Operand.tmp 40, Go.Operand.tmp 45, Go.Operand.const (Go.Value.int Go.IntKind.i64 4)], argTypes := #[4, 31, 3] }, type := 9, pos := "ref.go:50", after := #[{ on := 20, ground := Go.Ground.data }, { on := 25, ground := Go.Ground.data }, { on := 18, ground := Go.Ground.chain }], guard := none }) rfl (fun K hK => ?_) AllReadyH.nil
        (first | go_at_call 29 | (go_simp; go_at_call 29))
        refine (HP3.out _).mono ?_
        rintro e w3 ⟨rfl, h3⟩
        try go_wp2_with fail
        refine hK.out _ _ ?_ (fun hHeld4 => ?_)
        · exact hHeld3.trans (h3.mono hHeld3.size)
        clear hK K
        try simp only [Act.put, List.setIfInBounds_toArray, List.set_cons_zero, List.set_cons_succ]
        refine wpAnyH_take (i := 27) (oi := { dst := some 47, op := Go.Op.binOp Go.BinOp.add 9 (Go.Operand.tmp 39) (Go.Operand.tmp 46) 9, type := 9, pos := "ref.go:50", after := #[{ on := 19, ground := Go.Ground.data }, { on := 26, ground := Go.Ground.data }], guard := none }) (v := ?_) rfl (by kernel_rfl) (by kernel_rfl) (by kernel_rfl) (fun _ _ _ h => h) (Or.inl ⟨by rfl, ?_⟩) (by assumption) ?_
        rotate_left
        · (intro w hSw; (try dsimp only at hSw); go_simp <;> with_reducible rfl)
        try simp only [Act.put, List.setIfInBounds_toArray, List.set_cons_zero, List.set_cons_succ]
        refine wpAnyH_ready (rs := [33]) (by kernel_rfl) (by simp) ?_
        refine AllReadyH.cons (o := { dst := some 53, op := Go.Op.call { callee := Go.Callee.value (Go.Operand.func 30), args := #[Go.Operand.tmp 52], argTypes := #[9] }, type := 9, pos := "ref.go:50", after := #[{ on := 32, ground := Go.Ground.data }, { on := 26, ground := Go.Ground.chain }], guard := none }) rfl (fun K hK => ?_) AllReadyH.nil
        (first | go_at_call 30 | (go_simp; go_at_call 30))
        refine (HQ1.out _).mono ?_
        rintro e w9 ⟨rfl, rfl⟩
        try go_wp2_with fail
        refine hK.out _ _ ?_ (fun hHeld5 => ?_)
        · exact hHeld4
        clear hK K
        try simp only [Act.put, List.setIfInBounds_toArray, List.set_cons_zero, List.set_cons_succ]
        refine wpAnyH_take (i := 34) (oi := { dst := some 54, op := Go.Op.binOp Go.BinOp.add 9 (Go.Operand.tmp 47) (Go.Operand.tmp 53) 9, type := 9, pos := "ref.go:50", after := #[{ on := 27, ground := Go.Ground.data }, { on := 33, ground := Go.Ground.data }], guard := none }) (v := ?_) rfl (by kernel_rfl) (by kernel_rfl) (by kernel_rfl) (fun _ _ _ h => h) (Or.inl ⟨by rfl, ?_⟩) (by assumption) ?_
        rotate_left
        · (intro w hSw; (try dsimp only at hSw); go_simp <;> with_reducible rfl)
        try simp only [Act.put, List.setIfInBounds_toArray, List.set_cons_zero, List.set_cons_succ]
        refine wpAnyH_ready (rs := [40]) (by kernel_rfl) (by simp) ?_
        refine AllReadyH.cons (o := { dst := some 60, op := Go.Op.call { callee := Go.Callee.value (Go.Operand.func 30), args := #[Go.Operand.tmp 59], argTypes := #[9] }, type := 9, pos := "ref.go:50", after := #[{ on := 39, ground := Go.Ground.data }, { on := 33, ground := Go.Ground.chain }], guard := none }) rfl (fun K hK => ?_) AllReadyH.nil
        (first | go_at_call 30 | (go_simp; go_at_call 30))
        refine (HQ2.out _).mono ?_
        rintro e w9 ⟨rfl, rfl⟩
        try go_wp2_with fail
        refine hK.out _ _ ?_ (fun hHeld6 => ?_)
        · exact hHeld5
        clear hK K
        try simp only [Act.put, List.setIfInBounds_toArray, List.set_cons_zero, List.set_cons_succ]
        refine wpAnyH_take (i := 41) (oi := { dst := some 61, op := Go.Op.binOp Go.BinOp.add 9 (Go.Operand.tmp 54) (Go.Operand.tmp 60) 9, type := 9, pos := "ref.go:50", after := #[{ on := 34, ground := Go.Ground.data }, { on := 40, ground := Go.Ground.data }], guard := none }) (v := ?_) rfl (by kernel_rfl) (by kernel_rfl) (by kernel_rfl) (fun _ _ _ h => h) (Or.inl ⟨by rfl, ?_⟩) (by assumption) ?_
        rotate_left
        · (intro w hSw; (try dsimp only at hSw); go_simp <;> with_reducible rfl)
        try simp only [Act.put, List.setIfInBounds_toArray, List.set_cons_zero, List.set_cons_succ]
        refine wpAnyH_take (i := 42) (oi := { dst := some 62, op := Go.Op.binOp Go.BinOp.add 9 (Go.Operand.tmp 20) (Go.Operand.tmp 61) 9, type := 9, pos := "ref.go:50", after := #[{ on := 0, ground := Go.Ground.data }, { on := 41, ground := Go.Ground.data }], guard := none }) (v := ?_) rfl (by kernel_rfl) (by kernel_rfl) (by kernel_rfl) (fun _ _ _ h => h) (Or.inl ⟨by rfl, ?_⟩) (by assumption) ?_
        rotate_left
        · (intro w hSw; (try dsimp only at hSw); go_simp <;> with_reducible rfl)
        try simp only [Act.put, List.setIfInBounds_toArray, List.set_cons_zero, List.set_cons_succ]
        refine wpAnyH_take (i := 43) (oi := { dst := some 6, op := Go.Op.assign (Go.Operand.tmp 62), type := 9, pos := "ref.go:50", after := #[{ on := 42, ground := Go.Ground.data }, { on := 40, ground := Go.Ground.chain }, { on := 0, ground := Go.Ground.phase }, { on := 1, ground := Go.Ground.phase }, { on := 2, ground := Go.Ground.phase }, { on := 3, ground := Go.Ground.phase }, { on := 4, ground := Go.Ground.phase }, { on := 5, ground := Go.Ground.phase }, { on := 6, ground := Go.Ground.phase }, { on := 7, ground := Go.Ground.phase }, { on := 8, ground := Go.Ground.phase }, { on := 9, ground := Go.Ground.phase }, { on := 10, ground := Go.Ground.phase }, { on := 11, ground := Go.Ground.phase }, { on := 12, ground := Go.Ground.phase }, { on := 13, ground := Go.Ground.phase }, { on := 14, ground := Go.Ground.phase }, { on := 15, ground := Go.Ground.phase }, { on := 16, ground := Go.Ground.phase }, { on := 17, ground := Go.Ground.phase }, { on := 18, ground := Go.Ground.phase }, { on := 19, ground := Go.Ground.phase }, { on := 20, ground := Go.Ground.phase }, { on := 21, ground := Go.Ground.phase }, { on := 22, ground := Go.Ground.phase }, { on := 23, ground := Go.Ground.phase }, { on := 24, ground := Go.Ground.phase }, { on := 25, ground := Go.Ground.phase }, { on := 26, ground := Go.Ground.phase }, { on := 27, ground := Go.Ground.phase }, { on := 28, ground := Go.Ground.phase }, { on := 29, ground := Go.Ground.phase }, { on := 30, ground := Go.Ground.phase }, { on := 31, ground := Go.Ground.phase }, { on := 32, ground := Go.Ground.phase }, { on := 33, ground := Go.Ground.phase }, { on := 34, ground := Go.Ground.phase }, { on := 35, ground := Go.Ground.phase }, { on := 36, ground := Go.Ground.phase }, { on := 37, ground := Go.Ground.phase }, { on := 38, ground := Go.Ground.phase }, { on := 39, ground := Go.Ground.phase }, { on := 40, ground := Go.Ground.phase }, { on := 41, ground := Go.Ground.phase }, { on := 42, ground := Go.Ground.phase }], guard := none }) (v := ?_) rfl (by kernel_rfl) (by kernel_rfl) (by kernel_rfl) (fun _ _ _ h => h) (Or.inl ⟨by rfl, ?_⟩) (by assumption) ?_
        rotate_left
        · (intro w hSw; (try dsimp only at hSw); go_simp <;> with_reducible rfl)
        try simp only [Act.put, List.setIfInBounds_toArray, List.set_cons_zero, List.set_cons_succ]
        refine wpAnyH_done (by kernel_rfl) ?_ _
        have HB3 := Lib.hid (HB.out.trans (hHeld6.mono HB.out.size))
        clear a1 a2 a3 a4 a5 wa wb
        go_wp2
        exact ⟨⟨k + 1, by omega, by go_num, by rw [HEQ.out], by rw [HSU.out, HOKK.out]; exact decide_eq_true HTY.out, HB3.out⟩, by simp [intOf]; omega⟩
      · have t1 : decide ((4294967296 : Int) ≤ (ty : Int)) = true := decide_eq_true (by omega)
        have HTY := Lib.hid hty
        clear hlk hll hty h64k
        go_wp2
        go_ret2
        exact ⟨by rw [HNO.out (by rw [HOKK.out]; exact decide_eq_false HTY.out)]; rfl, HB.out⟩
    · obtain rfl : k = n := by omega
      have HV : Hid (putNV big X k = .tuple #[.string ⟨(catN big X k).toArray⟩, .bool true]) := Lib.hid (by unfold putNV; rw [HOK.out]; rfl)
      go_wp2
      go_ret2
      exact ⟨by rw [HV.out]; rfl, HB.out⟩
end Go.Proofs.YtnmklmaclmjfbaaDoor
