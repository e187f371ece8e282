/- Facts for NamesSections. Conditions: those written in each theorem. -/
import Derived.Test.YtedocnidgiglaaaTQ
import Derived.Test.YtedocnidgiglaaaJD
import Derived.Laws.OwnMore
namespace Go.Proofs.Ytedocnidgiglaaa
open Go.RowKit
set_option linter.unusedVariables false
theorem ok_small {wide : Bool} {zs : List Int} {ns : List Nat} {l : Nat} (hz : ∀ k, k < l → 2 ≤ fullZ wide (zs.getD k 0) ∧ fullZ wide (zs.getD k 0) ≤ 8) (hn : ∀ k, k < l → ns.getD k 0 < 65536) : ∀ k, k < l → okAt wide zs ns k := fun k hk => by
  obtain ⟨h1, h2⟩ := hz k hk
  refine ⟨by omega, h2, Nat.lt_of_lt_of_le (hn k hk) ?_⟩
  have h3 : 2 ≤ (fullZ wide (zs.getD k 0)).toNat := by omega
  have : 256 ^ 2 ≤ 256 ^ (fullZ wide (zs.getD k 0)).toNat := Nat.pow_le_pow_right (by decide) h3
  omega
theorem rec_true {big wide : Bool} {zs : List Int} {ns : List Nat} {l : Nat} {S : ByteArray} {ok : Bool} (h : RecIs big wide zs ns l l S ok) (ha : ∀ k, k < l → okAt wide zs ns k) : ok = true := by
  rcases h with ⟨h, _⟩ | ⟨_, _, _, h⟩ | ⟨_, ⟨k0, hk, _, h⟩, _⟩
  · exact absurd rfl h
  · exact h
  · exact absurd (ha k0 hk) h
theorem rec_size {big wide : Bool} {zs : List Int} {ns : List Nat} {l : Nat} {S : ByteArray} {ok : Bool} (h : RecIs big wide zs ns l l S ok) (hz : sizesOk wide zs l) (ho : offN (fullL wide zs l) l ≤ 64) : S.size ≤ 64 := by
  cases ok with
  | true => rw [(recIs_read h hz ⟨#[]⟩).1]; exact ho
  | false =>
    rcases h with ⟨_, rfl, _⟩ | ⟨_, _, _, h⟩ | ⟨_, _, rfl, _⟩
    · exact Nat.zero_le _
    · cases h
    · exact Nat.zero_le _
theorem e_two (wide : Bool) : ∀ k, k < 13 → 2 ≤ fullZ wide (eSizes.getD k 0) ∧ fullZ wide (eSizes.getD k 0) ≤ 8 := fun k hk => by
  have : ∀ wide : Bool, ∀ k : Fin 13, 2 ≤ fullZ wide (eSizes.getD k.1 0) ∧ fullZ wide (eSizes.getD k.1 0) ≤ 8 := by decide
  exact this wide ⟨k, hk⟩
theorem s_two (wide : Bool) : ∀ k, k < 10 → 2 ≤ fullZ wide (sSizes.getD k 0) ∧ fullZ wide (sSizes.getD k 0) ≤ 8 := fun k hk => by
  have : ∀ wide : Bool, ∀ k : Fin 10, 2 ≤ fullZ wide (sSizes.getD k.1 0) ∧ fullZ wide (sSizes.getD k.1 0) ≤ 8 := by decide
  exact this wide ⟨k, hk⟩
/-- What is known of the file of made. -/
def NPV (T : ByteArray) (kd ix nn : Nat) (R : Nat → Nat) (w : World) (v : Value) (x : ByteArray) (ok : Bool) (w' : World) : Prop :=
  (∃ (big wide : Bool) (abi ver : Nat) (pad : ByteArray) (h0 h1 h2 h3 h4 h5 h6 h7 h8 h9 h10 h11 h12 : Nat) (As : Option Addr) (ns cs : Nat) (Ap : Option Addr) (np cp : Nat) (nm : Nat), v = .agg #[.bool big, .bool wide, .int .u8 (abi : Nat), .int .u8 (ver : Nat), .string pad, .int .u64 (h0 : Nat), .int .u64 (h1 : Nat), .int .u64 (h2 : Nat), .int .u64 (h3 : Nat), .int .u64 (h4 : Nat), .int .u64 (h5 : Nat), .int .u64 (h6 : Nat), .int .u64 (h7 : Nat), .int .u64 (h8 : Nat), .int .u64 (h9 : Nat), .int .u64 (h10 : Nat), .int .u64 (h11 : Nat), .int .u64 (h12 : Nat), .slice As ns cs, .slice Ap np cp, .int .u64 (nm : Nat)]) ∧ (ok = true → ∃ (f : Nat → Nat → Nat) (bg : Nat), (∀ j k, f j k < 18446744073709551616) ∧ (∀ j, j < nn → ∀ k, k < 10 → f j k = (recN kd bg T.size R j).getD k 0) ∧ x.size ≤ 1048576 ∧ x.extract bg (bg + T.size) = T ∧ bg + T.size ≤ x.size ∧
    ∃ (big wide : Bool) (abi ver : Nat) (pad : ByteArray) (h0 h1 h2 h3 h4 h5 h6 h7 h8 h9 h10 h11 h12 : Nat) (cs : Nat) (Ap : Option Addr) (np cp : Nat) (b : Nat), v = .agg #[.bool big, .bool wide, .int .u8 (abi : Nat), .int .u8 (ver : Nat), .string pad, .int .u64 (h0 : Nat), .int .u64 (h1 : Nat), .int .u64 (h2 : Nat), .int .u64 (h3 : Nat), .int .u64 (h4 : Nat), .int .u64 (h5 : Nat), .int .u64 (h6 : Nat), .int .u64 (h7 : Nat), .int .u64 (h8 : Nat), .int .u64 (h9 : Nat), .int .u64 (h10 : Nat), .int .u64 (h11 : Nat), .int .u64 (h12 : Nat), .slice (some ⟨b, 0, none⟩) nn cs, .slice Ap np cp, .int .u64 (ix : Nat)] ∧ b < w'.heap.size ∧ w'.heap[b]? = some (.cells (rowU64 (flatF 10 f nn)) 52 (0, 0)))
theorem NPV.low {T : ByteArray} {kd ix nn : Nat} {R : Nat → Nat} {w : World} {v : Value} {x : ByteArray} {ok : Bool} {w1 w2 : World} (h : NPV T kd ix nn R w v x ok w1) (hb : Below w1.heap.size w1 w2) : NPV T kd ix nn R w v x ok w2 := by
  refine ⟨h.1, fun ho => ?_⟩
  obtain ⟨f, bg, q1, q2, q3, q4, q5, big, wide, abi, ver, pad, h0, h1, h2, h3, h4, h5, h6, h7, h8, h9, h10, h11, h12, cs, Ap, np, cp, b, e1, e2, e3⟩ := h.2 ho
  have e4 := heap_low e3 hb
  exact ⟨f, bg, q1, q2, q3, q4, q5, big, wide, abi, ver, pad, h0, h1, h2, h3, h4, h5, h6, h7, h8, h9, h10, h11, h12, cs, Ap, np, cp, b, e1, heap_lt e4, e4⟩
theorem nsec_made (p0 : Int) (big wide : Bool) (hb : (bits BinOp.and IntKind.i64 p0 1 == 1) = big) (hw : (bits BinOp.and IntKind.i64 p0 2 == 2) = wide) (T : ByteArray) (kd ix m cap : Nat) (A : Option Addr) (R : Nat → Nat) (hm : m ≤ 10) (hT : T.size ≤ 100) (hkd : kd ≤ 8) (hix : ix < m + 2) (hR64 : ∀ i, i < m → R i < 18446744073709551616) (w : World) (hR : RowU w A m R) :
    Calls Try.prog 30 #[.int .i64 p0, .string T, .int .u64 (kd : Nat), .slice A m cap, .int .u64 (ix : Nat)] w fun e w' => Below w.heap.size w w' ∧ ∃ v x ok, NPV T kd ix (m + 2) R w v x ok w' ∧ e = .returned (.tuple #[v, .string x, .bool ok]) := by
  obtain ⟨bg, hbg⟩ : ∃ bg, bg = 16 + eLen wide := ⟨_, rfl⟩
  obtain ⟨so, hso⟩ : ∃ so, so = bg + T.size := ⟨_, rfl⟩
  have hel : eLen wide ≤ 48 := by cases wide <;> decide
  obtain ⟨S0, o0, r0⟩ := recIs_exists big wide sSizes [0, 0, 0, 0, 0, 0, 0, 0, 0, 0] 10 10
  obtain ⟨S1, o1, r1⟩ := recIs_exists big wide sSizes [0, kd, 0, 0, bg, T.size, 0, 0, 0, 0] 10 10
  obtain ⟨SE, oE, rE⟩ := recIs_exists big wide eSizes [0, 0, 1, 0, 0, so, 0, ehs wide, phs wide, 0, shs wide, m + 2, ix] 13 13
  have each : ∀ i, ∃ S ok, RecIs big wide sSizes [R i, 8, 0, 0, 0, 0, 0, 0, 0, 0] 10 10 S ok := fun i => recIs_exists big wide sSizes [R i, 8, 0, 0, 0, 0, 0, 0, 0, 0] 10 10
  obtain ⟨SR, hSR⟩ := Classical.axiomOfChoice each
  obtain ⟨okR, hSO⟩ := Classical.axiomOfChoice hSR
  have hsz : ehs wide ≤ 64 ∧ phs wide ≤ 64 ∧ shs wide ≤ 64 := by cases wide <;> decide
  have t0 : o0 = true := rec_true r0 (ok_small (s_two wide) (by
    intro k hk
    have : ∀ k : Fin 10, ([0, 0, 0, 0, 0, 0, 0, 0, 0, 0] : List Nat).getD k.1 0 < 65536 := by decide
    exact this ⟨k, hk⟩))
  have t1 : o1 = true := rec_true r1 (ok_small (s_two wide) (by
    intro k hk
    match k, hk with
    | 0, _ => show 0 < 65536; omega
    | 1, _ => show kd < 65536; omega
    | 2, _ => show 0 < 65536; omega
    | 3, _ => show 0 < 65536; omega
    | 4, _ => show bg < 65536; omega
    | 5, _ => show T.size < 65536; omega
    | 6, _ => show 0 < 65536; omega
    | 7, _ => show 0 < 65536; omega
    | 8, _ => show 0 < 65536; omega
    | 9, _ => show 0 < 65536; omega))
  have tE : oE = true := rec_true rE (ok_small (e_two wide) (by
    intro k hk
    match k, hk with
    | 0, _ => show 0 < 65536; omega
    | 1, _ => show 0 < 65536; omega
    | 2, _ => show 1 < 65536; omega
    | 3, _ => show 0 < 65536; omega
    | 4, _ => show 0 < 65536; omega
    | 5, _ => show so < 65536; omega
    | 6, _ => show 0 < 65536; omega
    | 7, _ => show ehs wide < 65536; omega
    | 8, _ => show phs wide < 65536; omega
    | 9, _ => show 0 < 65536; omega
    | 10, _ => show shs wide < 65536; omega
    | 11, _ => show m + 2 < 65536; omega
    | 12, _ => show ix < 65536; omega))
  subst t0 t1 tE
  have hls : offN (fullL wide sSizes 10) 10 ≤ 64 := by rw [s_off]; cases wide <;> decide
  have hle : offN (fullL wide eSizes 13) 13 ≤ 64 := by rw [e_off]; omega
  have hzI : (⟨(identL big wide 0 0 []).toArray⟩ : ByteArray).size = 16 := by show (identL big wide 0 0 []).toArray.size = 16; rw [List.size_toArray, identL_length]
  have hmade := made_any (Pop.popF 64) (Lib.hid (fun x hx u => ones_any x u hx)) p0 big wide hb hw T S0 S1 SE ⟨(identL big wide 0 0 []).toArray⟩ true true true kd ix m cap bg so (m + 2) A R SR okR (by omega) (by omega) hbg hso rfl (rec_size r0 (s_ok wide) hls) (rec_size r1 (s_ok wide) hls) (rec_size rE (e_ok wide) hle) (by omega) (fun i => rec_size (hSO i) (s_ok wide) hls)
    (Lib.hid (fun u => sput big wide 0 0 0 0 0 0 0 0 0 0 (by decide) S0 true r0 u)) (Lib.hid (fun u => sput big wide 0 kd 0 0 bg T.size 0 0 0 0 (by simp <;> omega) S1 true r1 u)) (Lib.hid (fun i hi u => sput big wide (R i) 8 0 0 0 0 0 0 0 0 (by have := hR64 i hi; simp <;> omega) (SR i) (okR i) (hSO i) u))
    (Lib.hid (fun u => eput big wide 0 0 1 0 0 so 0 (ehs wide) (phs wide) 0 (shs wide) (m + 2) ix (by simp <;> omega) SE true rE u)) (Lib.hid (fun u => bytes_any big wide 0 0 ⟨#[]⟩ u)) w hR
  refine hmade.mono ?_
  rintro e w' ⟨hB, ⟨_, rfl⟩ | ⟨hall, v, k, hfi, rfl⟩⟩
  · exact ⟨hB, _, _, _, ⟨⟨false, false, 0, 0, ⟨#[]⟩, 0, 0, 0, 0, 0, 0, 0, 0, 0, 0, 0, 0, 0, none, 0, 0, none, 0, 0, 0, rfl⟩, fun h => by cases h⟩, rfl⟩
  · refine ⟨hB, _, _, _, ⟨hfi.form, fun hk => ?_⟩, rfl⟩
    obtain ⟨V, hV⟩ : ∃ V, V = (((⟨(identL big wide 0 0 []).toArray⟩ : ByteArray) ++ SE) ++ T) ++ recT S0 S1 SR m := ⟨_, rfl⟩
    rw [← hV] at hfi ⊢
    have hrr : ∀ i, i < m → RecIs big wide sSizes [R i, 8, 0, 0, 0, 0, 0, 0, 0, 0] 10 10 (SR i) true := fun i hi => by rw [← hall i hi]; exact hSO i
    obtain ⟨_, hhd, hf, hx⟩ := made_tells rfl rE r0 r1 hrr hbg hso rfl hV
    have e5 : hdN V 5 = so := hhd 5 (by decide)
    have e11 : hdN V 11 = m + 2 := hhd 11 (by decide)
    have e12 : hdN V 12 = ix := hhd 12 (by decide)
    have hns : nSec V = m + 2 := by
      unfold nSec secNum
      rw [e5, e11, if_neg (by omega), if_neg (by omega)]
    have hnm : nameS V = ix := by
      unfold nameS secNam
      rw [e5, e12, if_neg (by omega), if_neg (by omega)]
    have zI : (⟨(identL big wide 0 0 []).toArray⟩ : ByteArray).size ≤ 64 := by omega
    have hrl := recT_le (rec_size r0 (s_ok wide) hls) (rec_size r1 (s_ok wide) hls) (fun i => rec_size (hSO i) (s_ok wide) hls) m
    have hVs : V.size = 16 + SE.size + T.size + (recT S0 S1 SR m).size := by rw [hV, ByteArray.size_append, ByteArray.size_append, ByteArray.size_append, hzI]
    have hSEs : SE.size = eLen wide := by rw [(recIs_read rE (e_ok wide) ⟨#[]⟩).1, e_off]
    rcases hfi with ⟨h0, h1, _⟩ | ⟨_, _, A1, c1, b2, hA, _, _, _, hv⟩
    · rw [h1] at hk
      have : ((parseErr (Pop.popF 64) V : Nat) : Int) = 0 := by simpa using hk
      omega
    · rw [hns] at hA hv
      rw [hnm] at hv
      obtain ⟨b, _, e2, rfl, e4⟩ := hA (by omega)
      exact ⟨fSec V, bg, fSec_64 V, hf, by omega, hx, by omega, _, _, _, _, _, _, _, _, _, _, _, _, _, _, _, _, _, _, _, _, _, _, b, hv, e2, e4⟩
/-- All places: two of noughts, and those that come. -/
def allF (R : Nat → Nat) (i : Nat) : Nat := if i < 2 then 0 else R (i - 2)
def uV (f : Nat → Nat) (n : Nat) : List Value := (List.range n).map fun i => .int .u64 (f i : Nat)
theorem uV_all (R : Nat → Nat) (m : Nat) : [Value.int .u64 0, .int .u64 0] ++ uV R m = uV (allF R) (m + 2) := by
  unfold uV
  rw [List.range_succ_eq_map, List.range_succ_eq_map]
  simp [allF, Function.comp_def]
  intro a _
  rw [if_neg (by omega)]
theorem own_rowU {w : World} {base n : Nat} {v : Value} {f : Nat → Nat} (h : w.ownsRow base 29 1 v n (uV f n)) : ∃ A c, v = .slice A n c ∧ RowU w A n f := by
  rcases h.2 with ⟨rfl, rfl⟩ | ⟨g, cap, cur, rfl, _, hb, _, _, _, ht⟩
  · exact ⟨none, 0, rfl, fun i hi => absurd hi (Nat.not_lt_zero _)⟩
  · refine ⟨_, cap, rfl, fun i hi => ⟨g, 0, rfl, heap_lt hb, ?_⟩⟩
    rw [Lib.cell_of_heap hb, Nat.zero_add]
    show cur[i]? = _
    have h4 : cur.toList[i]? = (cur.toList.take (n * 1))[i]? := (List.getElem?_take_of_lt (by omega)).symm
    rw [← Array.getElem?_toList, h4, ht, uV, List.getElem?_map, List.getElem?_range hi]; rfl
/-- Numbers appended to a row of the call's own. -/
theorem app_u {o : Oper} {ac : Act} {K : Act → World → Prop} {Q : Exit → Act → World → Prop} {W0 u : World} (s x : Operand) (ho : o.op = .call { callee := .builtin .append, args := #[s, x], argTypes := #[76, 76] })
    (base : Nat) (v : Value) (hs : ac.eval s = v) (hown : u.ownsRow base 29 1 v 2 [.int .u64 0, .int .u64 0]) (hbase : base ≤ u.heap.size) (hB : Below W0.heap.size W0 u) (h0 : W0.heap.size ≤ base)
    (A : Option Addr) (m cap : Nat) (R : Nat → Nat) (hm : m ≤ 15) (hx : ac.eval x = .slice A m cap) (hA : A = none → m = 0 ∧ cap = 0) (hR : RowU u A m R)
    (h : ∀ v' u', u'.ownsRow base 29 1 v' (m + 2) (uV (allF R) (m + 2)) → Below W0.heap.size W0 u' → K (ac.put o.dst v') u') : o.wp Try.prog ac u K Q := by
  obtain ⟨i0, hi, hz0, hz1, hz2⟩ := info_parts infoU
  rcases A with _ | y
  · obtain ⟨rfl, rfl⟩ := hA rfl
    have hr := run_append_owned_none (P := Try.prog) (w := u) base 76 o.type 29 i0 1 Try.underlying76 hi v 2 _ hown
    unfold Oper.wp execOp
    simp only [ho, resolve, invoke, builtin, Sem.run_bind, Sem.run_pure, Result.andThen_ok, List.map_toArray, List.map_cons, List.map_nil, hs, hx, hr]
    exact h v u hown hB
  · refine wp_append_own u s x 76 ho base 29 i0 (.int .u64 0) 1 8 Try.underlying76 hi hz0 hz1 hz2 rfl (by decide) v 2 _ hs hown y m cap (uV R m) hx (by simp [uV]) (fun j z hj => ?_) (fun z hz => ?_) (by unfold maxLen; omega) (by omega) hbase (fun v' u' hown' hg _ => ?_)
    · unfold uV at hj
      rw [List.getElem?_map] at hj
      have hj' : j < m := by
        rcases Nat.lt_or_ge j m with h1 | h1
        · exact h1
        · rw [List.getElem?_eq_none (by simpa using h1)] at hj; cases hj
      rw [List.getElem?_range hj'] at hj
      cases hj
      obtain ⟨b, oo, e, _, hc⟩ := hR j hj'
      cases e
      rw [Go.WideShapes.add_plain]
      exact hc
    · simp only [uV, List.mem_map] at hz
      obtain ⟨i, _, rfl⟩ := hz
      rfl
    · rw [uV_all, Nat.add_comm] at hown'
      exact h v' u' hown' (hB.grown hg (by omega) (fun k hk => Nat.le_trans h0 (own_floor hown k hk)))
theorem two_own (w : World) : (w.alloc (.cells #[.int .u64 0, .int .u64 0] 29)).ownsRow w.heap.size 29 1 (.slice (some ⟨w.heap.size, 0, none⟩) 2 2) 2 [.int .u64 0, .int .u64 0] :=
  ⟨rfl, .inr ⟨w.heap.size, 2, #[.int .u64 0, .int .u64 0], rfl, Nat.le_refl _, heap_alloc_new w _, Nat.le_refl _, by unfold maxLen; decide, rfl, rfl⟩⟩
end Go.Proofs.Ytedocnidgiglaaa
