/- The contract of made of layer 12. Conditions: those written in each theorem. -/
import Derived.Test.YtedocnidgiglaaaTK
import Derived.Test.YtedocnidgiglaaaJD
import Derived.Test.YtedocnidgiglaaaJE
namespace Go.Proofs.Ytedocnidgiglaaa
open Go.RowKit
set_option linter.unusedVariables false
theorem results_ctt {fn : Func} {p a b : Tmp} {ty : TypeId} (h : fn.results = #[.cell p ty, .tmp a, .tmp b]) (tmps : Array Value) (P : Program) (w : World) :
    (results fn tmps).run P w = ((asAddr (tmps.getD p undef)).run P w).andThen fun x w1 => ((loadVar ty x).run P w1).andThen fun v w2 => .ok (.tuple #[v, tmps.getD a undef, tmps.getD b undef]) w2 := by
  simp only [results, h]
  simp [Sem.run_bind, Result.andThen]
theorem made_res {x y : Value} (tm : Array Value) (w : World) (T : Nat) (big wide : Bool) (abi ver : Nat) (pad : ByteArray) (h0 h1 h2 h3 h4 h5 h6 h7 h8 h9 h10 h11 h12 : Nat) (As : Option Addr) (ns cs : Nat) (Ap : Option Addr) (np cp : Nat) (nm : Nat) (r10 : tm.getD 10 undef = .pointer (some ⟨T, 0, none⟩)) (r11 : tm.getD 11 undef = x) (r12 : tm.getD 12 undef = y) (hT : w.heap[T]? = some (.cells #[.bool big, .bool wide, .int .u8 (abi : Nat), .int .u8 (ver : Nat), .string pad, .int .u64 (h0 : Nat), .int .u64 (h1 : Nat), .int .u64 (h2 : Nat), .int .u64 (h3 : Nat), .int .u64 (h4 : Nat), .int .u64 (h5 : Nat), .int .u64 (h6 : Nat), .int .u64 (h7 : Nat), .int .u64 (h8 : Nat), .int .u64 (h9 : Nat), .int .u64 (h10 : Nat), .int .u64 (h11 : Nat), .int .u64 (h12 : Nat), .slice As ns cs, .slice Ap np cp, .int .u64 (nm : Nat)] 42 (0, 0))) :
    (results Try.f30 tm).run Try.prog w = .ok (.tuple #[.agg #[.bool big, .bool wide, .int .u8 (abi : Nat), .int .u8 (ver : Nat), .string pad, .int .u64 (h0 : Nat), .int .u64 (h1 : Nat), .int .u64 (h2 : Nat), .int .u64 (h3 : Nat), .int .u64 (h4 : Nat), .int .u64 (h5 : Nat), .int .u64 (h6 : Nat), .int .u64 (h7 : Nat), .int .u64 (h8 : Nat), .int .u64 (h9 : Nat), .int .u64 (h10 : Nat), .int .u64 (h11 : Nat), .int .u64 (h12 : Nat), .slice As ns cs, .slice Ap np cp, .int .u64 (nm : Nat)], x, y]) w := by
  have hl : (loadVar 42 ⟨T, 0, none⟩).run Try.prog w = .ok (.agg #[.bool big, .bool wide, .int .u8 (abi : Nat), .int .u8 (ver : Nat), .string pad, .int .u64 (h0 : Nat), .int .u64 (h1 : Nat), .int .u64 (h2 : Nat), .int .u64 (h3 : Nat), .int .u64 (h4 : Nat), .int .u64 (h5 : Nat), .int .u64 (h6 : Nat), .int .u64 (h7 : Nat), .int .u64 (h8 : Nat), .int .u64 (h9 : Nat), .int .u64 (h10 : Nat), .int .u64 (h11 : Nat), .int .u64 (h12 : Nat), .slice As ns cs, .slice Ap np cp, .int .u64 (nm : Nat)]) w := run_loadVar_mid w T 0 42 [.bool big, .bool wide, .int .u8 (abi : Nat), .int .u8 (ver : Nat), .string pad, .int .u64 (h0 : Nat), .int .u64 (h1 : Nat), .int .u64 (h2 : Nat), .int .u64 (h3 : Nat), .int .u64 (h4 : Nat), .int .u64 (h5 : Nat), .int .u64 (h6 : Nat), .int .u64 (h7 : Nat), .int .u64 (h8 : Nat), .int .u64 (h9 : Nat), .int .u64 (h10 : Nat), .int .u64 (h11 : Nat), .int .u64 (h12 : Nat), .slice As ns cs, .slice Ap np cp, .int .u64 (nm : Nat)] _ (range_of hT (by rfl)) Try.underlying42 (by rfl) (by kernel_rfl)
  have ha : (asAddr (.pointer (some ⟨T, 0, none⟩))).run Try.prog w = .ok ⟨T, 0, none⟩ w := rfl
  rw [results_ctt Try.results30, r10, r11, r12, ha, Result.andThen_ok, hl, Result.andThen_ok]
structure Fr (w : World) (F : Nat) (big wide : Bool) (W : World) : Prop where
  t : W.heap[w.heap.size]? = some (.cells #[.bool false, .bool false, .int .u8 0, .int .u8 0, .string ⟨#[]⟩, .int .u64 0, .int .u64 0, .int .u64 0, .int .u64 0, .int .u64 0, .int .u64 0, .int .u64 0, .int .u64 0, .int .u64 0, .int .u64 0, .int .u64 0, .int .u64 0, .int .u64 0, .slice none 0 0, .slice none 0 0, .int .u64 0] 42 (0, 0))
  f : W.heap[F]? = some (.cells #[.bool big, .bool wide] 34 (0, 0))
  b : Below w.heap.size w W
theorem Fr.low {w : World} {F : Nat} {big wide : Bool} {W W' : World} (h : Fr w F big wide W) (hb : Below W.heap.size W W') : Fr w F big wide W' := ⟨heap_low h.t hb, heap_low h.f hb, h.b.trans (hb.mono h.b.size)⟩
theorem Fr.c0 {w : World} {F : Nat} {big wide : Bool} {W : World} (h : Fr w F big wide W) : W.cell? ⟨F, 0, none⟩ = some (.bool big) := by rw [Lib.cell_of_heap h.f]; rfl
theorem Fr.c1 {w : World} {F : Nat} {big wide : Bool} {W : World} (h : Fr w F big wide W) : W.cell? ⟨F, 1, none⟩ = some (.bool wide) := by rw [Lib.cell_of_heap h.f]; rfl
theorem Fr.only {w : World} {F H : Nat} {big wide : Bool} {W W' : World} (h : Fr w F big wide W) (ho : OnlyAt H W W') (h1 : w.heap.size ≠ H) (h2 : F ≠ H) (h3 : w.heap.size ≤ H) : Fr w F big wide W' := ⟨heap_only h.t ho h1, heap_only h.f ho h2, h.b.trans (ho.below h.b.size h3)⟩
/-- The bytes of the first sections' headers. -/
def recT (S0 S1 : ByteArray) (SR : Nat → ByteArray) : Nat → ByteArray
  | 0 => S0 ++ S1
  | k + 1 => recT S0 S1 SR k ++ SR k
theorem recT_le {S0 S1 : ByteArray} {SR : Nat → ByteArray} (h0 : S0.size ≤ 64) (h1 : S1.size ≤ 64) (hr : ∀ i, (SR i).size ≤ 64) : ∀ k, (recT S0 S1 SR k).size ≤ 128 + k * 64
  | 0 => by show (S0 ++ S1).size ≤ _; rw [ByteArray.size_append]; omega
  | k + 1 => by
    have := recT_le h0 h1 hr k
    have h2 := hr k
    show (recT S0 S1 SR k ++ SR k).size ≤ _
    rw [ByteArray.size_append, Nat.succ_mul]; omega
def MadePost (ones : Nat → Nat) (n : Nat) (okR : Nat → Bool) (V : ByteArray) (w : World) (e : Ending) (w' : World) : Prop :=
  Below w.heap.size w w' ∧ (((∃ i, i < n ∧ okR i = false) ∧ e = .returned (.tuple #[.agg #[.bool false, .bool false, .int .u8 0, .int .u8 0, .string ⟨#[]⟩, .int .u64 0, .int .u64 0, .int .u64 0, .int .u64 0, .int .u64 0, .int .u64 0, .int .u64 0, .int .u64 0, .int .u64 0, .int .u64 0, .int .u64 0, .int .u64 0, .int .u64 0, .slice none 0 0, .slice none 0 0, .int .u64 0], .string ⟨#[]⟩, .bool false])) ∨
    ((∀ i, i < n → okR i = true) ∧ ∃ v k, FileIs ones V w v k w' ∧ e = .returned (.tuple #[v, .string V, .bool (k == 0)])))
set_option maxRecDepth 1000000 in
set_option maxHeartbeats 8000000 in
theorem made_any (ones : Nat → Nat) (HON : Hid (∀ x, x < 18446744073709551616 → ∀ u, Calls Try.prog 96 #[.int .u64 (x : Nat)] u fun e w' => e = .returned (.int .i64 (ones x : Nat)) ∧ u = w'))
    (fl : Int) (big wide : Bool) (hb : (bits BinOp.and IntKind.i64 fl 1 == 1) = big) (hw : (bits BinOp.and IntKind.i64 fl 2 == 2) = wide) (tb S0 S1 SE IDB : ByteArray) (o0 o1 oE : Bool) (kd ix n cap bg so nn : Nat) (A : Option Addr) (R : Nat → Nat) (SR : Nat → ByteArray) (okR : Nat → Bool)
    (hn : n ≤ 100) (htb : tb.size ≤ 1000) (hbg : bg = 16 + eLen wide) (hso : so = bg + tb.size) (hnn : nn = n + 2) (z0 : S0.size ≤ 64) (z1 : S1.size ≤ 64) (zE : SE.size ≤ 64) (zI : IDB.size ≤ 64) (zR : ∀ i, (SR i).size ≤ 64)
    (H0 : Hid (∀ u, Calls Try.prog 47 #[.agg #[.bool big, .bool wide], .agg #[.int .u64 0, .int .u64 0, .int .u64 0, .int .u64 0, .int .u64 0, .int .u64 0, .int .u64 0, .int .u64 0, .int .u64 0, .int .u64 0]] u fun e w' => e = .returned (.tuple #[.string S0, .bool o0]) ∧ Below u.heap.size u w'))
    (H1 : Hid (∀ u, Calls Try.prog 47 #[.agg #[.bool big, .bool wide], .agg #[.int .u64 0, .int .u64 (kd : Nat), .int .u64 0, .int .u64 0, .int .u64 (bg : Nat), .int .u64 (tb.size : Nat), .int .u64 0, .int .u64 0, .int .u64 0, .int .u64 0]] u fun e w' => e = .returned (.tuple #[.string S1, .bool o1]) ∧ Below u.heap.size u w'))
    (HRR : Hid (∀ i, i < n → ∀ u, Calls Try.prog 47 #[.agg #[.bool big, .bool wide], .agg #[.int .u64 (R i : Nat), .int .u64 8, .int .u64 0, .int .u64 0, .int .u64 0, .int .u64 0, .int .u64 0, .int .u64 0, .int .u64 0, .int .u64 0]] u fun e w' => e = .returned (.tuple #[.string (SR i), .bool (okR i)]) ∧ Below u.heap.size u w'))
    (HE : Hid (∀ u, Calls Try.prog 49 #[.agg #[.bool big, .bool wide], .agg #[.int .u64 0, .int .u64 0, .int .u64 1, .int .u64 0, .int .u64 0, .int .u64 (so : Nat), .int .u64 0, .int .u64 (ehs wide : Nat), .int .u64 (phs wide : Nat), .int .u64 0, .int .u64 (shs wide : Nat), .int .u64 (nn : Nat), .int .u64 (ix : Nat)]] u fun e w' => e = .returned (.tuple #[.string SE, .bool oE]) ∧ Below u.heap.size u w'))
    (HI : Hid (∀ u, Calls Try.prog 25 #[.agg #[.bool big, .bool wide, .int .u8 0, .int .u8 0, .string ⟨#[]⟩]] u fun e w' => e = .returned (.string IDB) ∧ Below u.heap.size u w'))
    (w : World) (hR : RowU w A n R) :
    Calls Try.prog 30 #[.int .i64 fl, .string tb, .int .u64 (kd : Nat), .slice A n cap, .int .u64 (ix : Nat)] w (MadePost ones n okR (((IDB ++ SE) ++ tb) ++ recT S0 S1 SR n) w) := by
  have hrl := fun k => recT_le z0 z1 zR k
  have s1 : ∀ u, (Op.stringOp .add IDB SE).run Try.prog u = .ok (.string (IDB ++ SE)) u := fun u => run_string_add_sum u _ _ (by omega)
  have s2 : ∀ u, (Op.stringOp .add (IDB ++ SE) tb).run Try.prog u = .ok (.string ((IDB ++ SE) ++ tb)) u := fun u => run_string_add_sum u _ _ (by rw [ByteArray.size_append]; omega)
  have s3 : ∀ u, (Op.stringOp .add ((IDB ++ SE) ++ tb) (recT S0 S1 SR n)).run Try.prog u = .ok (.string (((IDB ++ SE) ++ tb) ++ recT S0 S1 SR n)) u := fun u => run_string_add_sum u _ _ (by have := hrl n; rw [ByteArray.size_append, ByteArray.size_append]; omega)
  have s0 : ∀ u, (Op.stringOp .add S0 S1).run Try.prog u = .ok (.string (recT S0 S1 SR 0)) u := fun u => run_string_add_sum u _ _ (by omega)
  have sk : ∀ k, k < n → ∀ u, (Op.stringOp .add (recT S0 S1 SR k) (SR k)).run Try.prog u = .ok (.string (recT S0 S1 SR (k + 1))) u := fun k hk u => run_string_add_sum u _ _ (by have := hrl k; have := zR k; omega)
  have hV : (((IDB ++ SE) ++ tb) ++ recT S0 S1 SR n).size ≤ 9223372036854775807 := by have := hrl n; rw [ByteArray.size_append, ByteArray.size_append, ByteArray.size_append]; omega
  have S1' := Lib.hid s1; have S2' := Lib.hid s2; have S3' := Lib.hid s3; have S0' := Lib.hid s0; have SK := Lib.hid sk; have HP := Lib.hid (fun u => parse_is ones HON _ hV u)
  generalize (((IDB ++ SE) ++ tb) ++ recT S0 S1 SR n) = V at *
  generalize ((IDB ++ SE) ++ tb) = A2 at *
  generalize (IDB ++ SE) = A1 at *
  clear s0 s1 s2 s3 sk hrl z0 z1 zE zI zR hV
  have hel : eLen wide ≤ 48 := by cases wide <;> decide
  have HR := Lib.hid hR; clear hR
  go_enter Try.func30, Try.ntmps30
  go_upto_region 2 with (fail)
  have hT0 : ((w.alloc (.cells #[.bool false, .bool false, .int .u8 0, .int .u8 0, .string ⟨#[]⟩, .int .u64 0, .int .u64 0, .int .u64 0, .int .u64 0, .int .u64 0, .int .u64 0, .int .u64 0, .int .u64 0, .int .u64 0, .int .u64 0, .int .u64 0, .int .u64 0, .int .u64 0, .slice none 0 0, .slice none 0 0, .int .u64 0] 42)).alloc (.cells #[.bool big, .bool wide] 34)).heap[w.heap.size]? = some (.cells #[.bool false, .bool false, .int .u8 0, .int .u8 0, .string ⟨#[]⟩, .int .u64 0, .int .u64 0, .int .u64 0, .int .u64 0, .int .u64 0, .int .u64 0, .int .u64 0, .int .u64 0, .int .u64 0, .int .u64 0, .int .u64 0, .int .u64 0, .int .u64 0, .slice none 0 0, .slice none 0 0, .int .u64 0] 42 (0, 0)) := heap_up _ (heap_alloc_new w _)
  have hF0 : ((w.alloc (.cells #[.bool false, .bool false, .int .u8 0, .int .u8 0, .string ⟨#[]⟩, .int .u64 0, .int .u64 0, .int .u64 0, .int .u64 0, .int .u64 0, .int .u64 0, .int .u64 0, .int .u64 0, .int .u64 0, .int .u64 0, .int .u64 0, .int .u64 0, .int .u64 0, .slice none 0 0, .slice none 0 0, .int .u64 0] 42)).alloc (.cells #[.bool big, .bool wide] 34)).heap[w.heap.size + 1]? = some (.cells #[.bool big, .bool wide] 34 (0, 0)) := by
    have q := heap_alloc_new (w.alloc (.cells #[.bool false, .bool false, .int .u8 0, .int .u8 0, .string ⟨#[]⟩, .int .u64 0, .int .u64 0, .int .u64 0, .int .u64 0, .int .u64 0, .int .u64 0, .int .u64 0, .int .u64 0, .int .u64 0, .int .u64 0, .int .u64 0, .int .u64 0, .int .u64 0, .slice none 0 0, .slice none 0 0, .int .u64 0] 42)) (.cells #[.bool big, .bool wide] 34)
    simpa using q
  have hU : Below w.heap.size w ((w.alloc (.cells #[.bool false, .bool false, .int .u8 0, .int .u8 0, .string ⟨#[]⟩, .int .u64 0, .int .u64 0, .int .u64 0, .int .u64 0, .int .u64 0, .int .u64 0, .int .u64 0, .int .u64 0, .int .u64 0, .int .u64 0, .int .u64 0, .int .u64 0, .int .u64 0, .slice none 0 0, .slice none 0 0, .int .u64 0] 42)).alloc (.cells #[.bool big, .bool wide] 34)) := below_more (below_more (Below.refl _ _) _) _
  have FR0 := Lib.hid (Fr.mk hT0 hF0 hU)
  generalize ((w.alloc (.cells #[.bool false, .bool false, .int .u8 0, .int .u8 0, .string ⟨#[]⟩, .int .u64 0, .int .u64 0, .int .u64 0, .int .u64 0, .int .u64 0, .int .u64 0, .int .u64 0, .int .u64 0, .int .u64 0, .int .u64 0, .int .u64 0, .int .u64 0, .int .u64 0, .slice none 0 0, .slice none 0 0, .int .u64 0] 42)).alloc (.cells #[.bool big, .bool wide] 34)) = W0 at *
  generalize hFe : w.heap.size + 1 = F at *
  have hwF : w.heap.size < F := by omega
  clear hT0 hF0 hU hFe hb hw
  refine mreg2 _ _ _ _ _ _ _ _ _ _ _ _ _ _ _ _ _ _ _ _ _ _ _ _ _ _ _ _ _ _ _ _ _ _ _ _ _ _ _ _ _ _ _ _ _ _ _ _ _ _ _ _ _ _ _ _ _ _ _ _ _ _ _ _ _ _ _ _ _ _ _ _ _ _ _ _ _ _ _ _ _ _ _ _ _ _ _ _ _ _ _ _ _ _ _ _ _ _ _ _ _ _ _ _ _ _ _ _ _ _ _ _ _ _ _ _ _ _ _ _ _ big wide F (ehs wide) (phs wide) (shs wide) W0 FR0.out.c0 FR0.out.c1 (Lib.hid (fun u => eplain big wide u)) (fun u36 u37 H w2 hH hWH b2 => ?_)
  have hFH : F < H := Nat.lt_of_lt_of_le (heap_lt FR0.out.f) hWH
  have FR2 := Lib.hid (FR0.out.low b2); have HH2 := Lib.hid hH; clear FR0 b2 hWH hH
  have c0 := FR2.out.c0
  have c1 := FR2.out.c1
  have hx : IntKind.u64.wrap (16 + (eLen wide : Int)) = (bg : Int) := by rw [IntKind.wrap_u64]; omega
  go_upto_region 4 with (go_at_call 44; with_reducible refine (esize big wide _).mono ?_; rintro e w3 ⟨rfl, b3⟩)
  have FR3 := Lib.hid (FR2.out.low b3); have HH3 := Lib.hid (heap_low HH2.out b3); clear FR2 HH2 b3 c0 c1 hx
  rw [show (16 : Int) + (eLen wide : Int) = (bg : Int) by omega]
  refine mreg4 _ _ _ _ _ _ _ _ _ _ _ _ _ _ _ _ _ _ _ _ _ _ _ _ _ _ _ _ _ _ _ _ _ _ _ _ _ _ _ _ _ _ _ _ _ _ _ _ _ _ _ _ _ _ _ _ _ _ _ _ _ _ _ _ _ _ _ _ _ _ _ _ _ _ _ _ _ _ _ _ _ _ _ _ _ _ _ _ _ _ _ _ _ _ _ _ _ _ _ _ _ _ _ _ _ _ _ _ _ _ _ _ _ _ _ _ _ H bg n cap ix (ehs wide) (phs wide) (shs wide) so nn A tb w3 HH3.out (by rw [IntKind.wrap_u64]; omega) (by rw [IntKind.wrap_u64]; omega) (by rw [IntKind.wrap_i64]; omega) (by rw [IntKind.wrap_u64]; omega) (fun u42 u43 u44 u45 u46 u47 u48 u49 u50 u51 u52 u53 u54 w4 hH o4 => ?_)
  have FR4 := Lib.hid (FR3.out.only o4 (by omega) (by omega) (by omega)); have HH4 := Lib.hid hH; clear FR3 HH3 o4 hH
  go_upto_region 5 with (fail)
  refine mreg5 _ _ _ _ _ _ _ _ _ _ _ _ _ _ _ _ _ _ _ _ _ _ _ _ _ _ _ _ _ _ _ _ _ _ _ _ _ _ _ _ _ _ _ _ _ _ _ _ _ _ _ _ _ _ _ _ _ _ _ _ _ _ _ _ _ _ _ _ _ _ _ _ _ _ _ _ _ _ _ _ _ _ _ _ _ _ _ _ _ _ _ _ _ _ _ _ _ _ _ _ _ _ _ _ _ _ _ _ _ _ _ _ _ _ _ _ _ _ _ _ _ big wide F S0 o0 w4 FR4.out.c0 FR4.out.c1 H0 (fun u55 u56 u57 u58 u59 u60 w5 b5 => ?_)
  have FR5 := Lib.hid (FR4.out.low b5); have HH5 := Lib.hid (heap_low HH4.out b5); clear FR4 HH4 b5
  go_upto_region 6 with (fail)
  refine mreg6 _ _ _ _ _ _ _ _ _ _ _ _ _ _ _ _ _ _ _ _ _ _ _ _ _ _ _ _ _ _ _ _ _ _ _ _ _ _ _ _ _ _ _ _ _ _ _ _ _ _ _ _ _ _ _ _ _ _ _ _ _ _ _ _ _ _ _ _ _ _ _ _ _ _ _ _ _ _ _ _ _ _ _ _ _ _ _ _ _ _ _ _ _ _ _ _ _ _ _ _ _ _ _ _ _ _ _ _ _ _ _ _ _ _ _ _ _ _ big wide F kd bg tb.size tb S1 o1 w5 FR5.out.c0 FR5.out.c1 (by rw [IntKind.wrap_u64]; omega) H1 (fun u61 u62 u63 u64 u65 u66 u67 u68 u69 u70 u71 w6 b6 => ?_)
  have FR6 := Lib.hid (FR5.out.low b6); have HH6 := Lib.hid (heap_low HH5.out b6); clear FR5 HH5 b6
  have sx := S0'.out
  go_wp2
  clear sx
  go_loopw [16, 20] (fun v i wr => ∃ k : Nat, k ≤ n ∧ i = .int .i64 (k : Int) ∧ (∀ j, j < k → okR j = true) ∧ v = .string (recT S0 S1 SR k) ∧ Fr w F big wide wr ∧ wr.heap[H]? = some (.cells #[.int .u64 0, .int .u64 0, .int .u64 1, .int .u64 0, .int .u64 0, .int .u64 (so : Nat), .int .u64 0, .int .u64 (ehs wide : Nat), .int .u64 (phs wide : Nat), .int .u64 0, .int .u64 (shs wide : Nat), .int .u64 (nn : Nat), .int .u64 (ix : Nat)] 38 (0, 0))) (fun _ i _ => n - (intOf i).toNat)
  case atStart => exact ⟨0, Nat.zero_le _, rfl, fun j hj => absurd hj (Nat.not_lt_zero _), rfl, FR6.out, HH6.out⟩
  case round =>
    obtain ⟨k, hk, rfl, hall, rfl, hfr, hh⟩ := hrel
    have HFR := Lib.hid hfr; have HH := Lib.hid hh; have HALL := Lib.hid hall; clear hfr hh hall
    by_cases hlt : k < n
    · obtain ⟨bb, o, rfl, hbl, hc0⟩ := (HR.out.low HFR.out.b) k hlt
      have HC0 := Lib.hid hc0; clear hc0
      have k0 : (0 : Int) ≤ (k : Int) := by omega
      have k1 : (k : Int) < (n : Int) := by omega
      have k2 : k + 1 ≤ 1048576 := by omega
      have sx := SK.out k hlt
      have SX := Lib.hid sx; clear sx
      have HK := Lib.hid (HRR.out k hlt)
      go_upto_region 11 with (fail)
      refine mreg11 _ _ _ _ _ _ _ _ _ _ _ _ _ _ _ _ _ _ _ _ _ _ _ _ _ _ _ _ _ _ _ _ _ _ _ _ _ _ _ _ _ _ _ _ _ _ _ _ _ _ _ _ _ _ _ _ _ _ _ _ _ _ _ _ _ _ _ _ _ _ _ _ _ _ _ _ _ _ _ _ _ _ _ _ _ _ _ _ _ _ _ _ _ _ _ _ _ _ _ _ _ _ _ _ _ _ _ _ _ _ _ _ _ _ _ _ _ _ _ big wide F bb o n cap k (R k) (SR k) (okR k) wr k0 k1 (Lib.hid (fun u hu => (HFR.out.low hu).c0)) (Lib.hid (fun u hu => (HFR.out.low hu).c1)) (Lib.hid (fun u hu => (hu.cell (p := ⟨bb, o + k, none⟩) hbl).trans HC0.out)) HK (fun _ _ _ _ _ h => h) (fun u81 u82 u83 u84 u85 u86 u87 u88 u89 u90 w7 b7 => ?_)
      have HFR7 := Lib.hid (HFR.out.low b7); have HH7 := Lib.hid (heap_low HH.out b7); clear b7 HFR HH HC0 hbl
      rcases hok : okR k with _ | _
      · have HNO : Hid (∃ i, i < n ∧ okR i = false) := Lib.hid ⟨k, hlt, hok⟩
        clear hok
        go_upto_region 13 with (fail)
        refine mreg13 _ _ _ _ _ _ _ _ _ _ _ _ _ _ _ _ _ _ _ _ _ _ _ _ _ _ _ _ _ _ _ _ _ _ _ _ _ _ _ _ _ _ _ _ _ _ _ _ _ _ _ _ _ _ _ _ _ _ _ _ _ _ _ _ _ _ _ _ _ _ _ _ _ _ _ _ _ _ _ _ _ _ _ _ _ _ _ _ _ _ _ _ _ _ _ _ _ _ _ _ _ _ _ _ _ _ _ _ _ _ _ _ _ _ _ _ _ _ _ _ _ w.heap.size w7 HFR7.out.t (fun u93 w8 hT8 b8 => ?_)
        have HB8 := Lib.hid (HFR7.out.b.trans b8); have HT8 := Lib.hid hT8; clear b8 hT8
        go_wp2
        exact bodyPost_ret (made_res _ _ w.heap.size false false 0 0 ⟨#[]⟩ 0 0 0 0 0 0 0 0 0 0 0 0 0 none 0 0 none 0 0 0 rfl rfl rfl HT8.out) rfl ⟨HB8.out, .inl ⟨HNO.out, rfl⟩⟩
      · have HAL : Hid (∀ j, j < k + 1 → okR j = true) := Lib.hid (fun j hj => by
          by_cases e : j = k
          · subst e; exact hok
          · exact HALL.out j (by omega))
        clear hok HALL
        have sx := SX.out
        go_wp2
        exact ⟨⟨k + 1, by omega, by go_num, HAL.out, rfl, HFR7.out, HH7.out⟩, by simp [intOf]; omega⟩
    · obtain rfl : k = n := by omega
      have sy := Lib.hid S3'.out
      generalize recT S0 S1 SR k = U at *
      go_upto_region 15 with (fail)
      refine mreg15 _ _ _ _ _ _ _ _ _ _ _ _ _ _ _ _ _ _ _ _ _ _ _ _ _ _ _ _ _ _ _ _ _ _ _ _ _ _ _ _ _ _ _ _ _ _ _ _ _ _ _ _ _ _ _ _ _ _ _ _ _ _ _ _ _ _ _ _ _ _ _ _ _ _ _ _ _ _ _ _ _ _ _ _ _ _ _ _ _ _ _ _ _ _ _ _ _ _ _ _ _ _ _ _ _ _ _ _ _ _ _ _ _ _ _ _ _ _ _ _ big wide F H (ehs wide) (phs wide) (shs wide) so nn ix SE oE wr HFR.out.c0 HFR.out.c1 HH.out HE (fun u97 u98 u99 u100 u101 u102 w7 b7 => ?_)
      have HFR7 := Lib.hid (HFR.out.low b7); clear b7 HFR HH
      go_upto_region 16 with (fail)
      refine mreg16 _ _ _ _ _ _ _ _ _ _ _ _ _ _ _ _ _ _ _ _ _ _ _ _ _ _ _ _ _ _ _ _ _ _ _ _ _ _ _ _ _ _ _ _ _ _ _ _ _ _ _ _ _ _ _ _ _ _ _ _ _ _ _ _ _ _ _ _ _ _ _ _ _ _ _ _ _ _ _ _ _ _ _ _ _ _ _ _ _ _ _ _ _ _ _ _ _ _ _ _ _ _ _ _ _ _ _ _ _ _ _ _ _ _ _ _ _ _ big wide F SE tb U IDB A1 A2 V w7 HFR7.out.c0 HFR7.out.c1 S1'.out S2'.out sy.out HI (fun u103 u104 u105 u106 u107 u108 u109 u110 u111 w8 b8 => ?_)
      have HFR8 := Lib.hid (HFR7.out.low b8); clear b8 HFR7
      go_upto_region 17 with (fail)
      refine mreg17 _ _ _ _ _ _ _ _ _ _ _ _ _ _ _ _ _ _ _ _ _ _ _ _ _ _ _ _ _ _ _ _ _ _ _ _ _ _ _ _ _ _ _ _ _ _ _ _ _ _ _ _ _ _ _ _ _ _ _ _ _ _ _ _ _ _ _ _ _ _ _ _ _ _ _ _ _ _ _ _ _ _ _ _ _ _ _ _ _ _ _ _ _ _ _ _ _ _ _ _ _ _ _ _ _ _ _ _ _ _ _ _ _ _ _ _ _ _ _ _ _ ones V w8 HP (fun u112 u113 u114 u115 u116 G big2 wide2 abi ver pad h0 h1 h2 h3 h4 h5 h6 h7 h8 h9 h10 h11 h12 As ns cs Ap np cp nm kk u9 w9 hfi hu hG hWG b9 => ?_)
      subst hu
      have HFR9 := Lib.hid (HFR8.out.low b9); have HFI := Lib.hid hfi; have HG := Lib.hid hG; clear hfi hG b9
      have hTG : w.heap.size < w8.heap.size := heap_lt HFR8.out.t
      go_upto_region 18 with (fail)
      refine mreg18 _ _ _ _ _ _ _ _ _ _ _ _ _ _ _ _ _ _ _ _ _ _ _ _ _ _ _ _ _ _ _ _ _ _ _ _ _ _ _ _ _ _ _ _ _ _ _ _ _ _ _ _ _ _ _ _ _ _ _ _ _ _ _ _ _ _ _ _ _ _ _ _ _ _ _ _ _ _ _ _ _ _ _ _ _ _ _ _ _ _ _ _ _ _ _ _ _ _ _ _ _ _ _ _ _ _ _ _ _ _ _ _ _ _ _ _ _ _ big2 wide2 abi ver pad h0 h1 h2 h3 h4 h5 h6 h7 h8 h9 h10 h11 h12 As ns cs Ap np cp nm w.heap.size G V kk w9 HFR9.out.t HG.out (fun u117 u118 u119 u120 w10 hT o10 => ?_)
      have HT10 := Lib.hid hT; have HB10 := Lib.hid (HFR9.out.b.trans (o10.below HFR9.out.b.size (Nat.le_refl _)))
      have HFI2 := Lib.hid ((HFI.out.stay (w2 := w10) (fun b hb1 hb2 => o10.block b hb2 (by omega))).base (w0 := w) HFR8.out.b.size)
      clear hT o10
      go_wp2
      exact bodyPost_ret (made_res _ _ w.heap.size big2 wide2 abi ver pad h0 h1 h2 h3 h4 h5 h6 h7 h8 h9 h10 h11 h12 As ns cs Ap np cp nm rfl rfl rfl HT10.out) rfl ⟨HB10.out, .inr ⟨HALL.out, _, kk, HFI2.out, rfl⟩⟩
end Go.Proofs.Ytedocnidgiglaaa
