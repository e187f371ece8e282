/- For TopRecords: records of small numbers are put, and read again with anything behind. Conditions: those written in each theorem. For TopRecords: a relocation of small numbers is put, and read again with anything behind. Conditions: those written in each theorem. Arguments that are structs or arrays of uint64, by value: their cells are numbers. Conditions: those written in each theorem. What comes in: a slice of arrays of three uint32. Conditions: those written in each theorem. Contracts for the laws through the layers: formOf, records. Conditions: those written in each theorem. For TopRecords: what the i-th record is, and what a file's beginning is read as. Conditions: those written in each theorem. -/
import Derived.Test.YtnmklmaclmjfbaaJA
import Derived.Test.YtnmklmaclmjfbaaMB
import Derived.Test.YtnmklmaclmjfbaaSB
import Derived.Test.YtnmklmaclmjfbaaSD
import Derived.Test.YtnmklmaclmjfbaaPB
import Derived.Test.YtnmklmaclmjfbaaPD
import Derived.Test.YtnmklmaclmjfbaaYB
import Derived.Test.YtnmklmaclmjfbaaYD
import Derived.Test.YtnmklmaclmjfbaaRC
import Derived.Deep.Fields
import Derived.ProofKit
import Derived.OpenShut
import Derived.Deep.Slices
import Derived.Test.YtnmklmaclmjfbaaEK
import Derived.Test.YtnmklmaclmjfbaaED
import Derived.Test.YtnmklmaclmjfbaaQB
import Derived.Laws.Bits64b
namespace Go.Proofs.Ytnmklmaclmjfbaa
open Go.RowKit
theorem rec_fits {big wide : Bool} {zs : List Int} {ns : List Nat} {n : Nat} (hz : sizesOk wide zs n) (h : ∀ k, k < n → ns.getD k 0 < 256 ^ (fullZ wide (zs.getD k 0)).toNat) : ∃ S, RecIs big wide zs ns n n S true :=
  ⟨_, .inr (.inl ⟨rfl, fun k hk => ⟨by have := hz k hk; omega, (hz k hk).2, h k hk⟩, rfl, rfl⟩)⟩
theorem pow_le (n m : Nat) (h : 4 ≤ m) (hn : n < 4294967296) : n < 256 ^ m := by
  have h1 : 256 ^ 4 ≤ 256 ^ m := Nat.pow_le_pow_right (by decide) h
  have h2 : (256 : Nat) ^ 4 = 4294967296 := by decide
  omega
theorem sec_is (big wide : Bool) (a b c : Nat) (ha : a < 4294967296) (hb : b < 4294967296) (hc : c < 4294967296) : ∃ S : ByteArray, S.size = sLen wide ∧
    (∀ w, Calls Try.prog 37 #[.agg #[.bool big, .bool wide], .agg #[.int .u64 (a : Nat), .int .u64 0, .int .u64 (b : Nat), .int .u64 0, .int .u64 (c : Nat), .int .u64 0, .int .u64 0, .int .u64 0, .int .u64 (a : Nat), .int .u64 0]] w fun e w' => e = .returned (.tuple #[.string S, .bool true]) ∧ Below w.heap.size w w') ∧
    ∀ M w, (S ++ M).size ≤ 1048576 → Calls Try.prog 45 #[.agg #[.bool big, .bool wide], .string (S ++ M)] w fun e w' => e = .returned (.tuple #[.agg #[.int .u64 (a : Nat), .int .u64 0, .int .u64 (b : Nat), .int .u64 0, .int .u64 (c : Nat), .int .u64 0, .int .u64 0, .int .u64 0, .int .u64 (a : Nat), .int .u64 0], .bool true]) ∧ Below w.heap.size w w' := by
  have hz0 : (0 : Nat) < 4294967296 := by decide
  obtain ⟨S, hr⟩ := rec_fits (big := big) (wide := wide) (zs := sSizes) (n := 10) (ns := [a, 0, b, 0, c, 0, 0, 0, a, 0]) (s_ok wide) (fun k hk => by
    have h4 : ∀ (wide : Bool) (k : Fin 10), 4 ≤ (fullZ wide (sSizes.getD k.1 0)).toNat := by decide
    refine pow_le _ _ (h4 wide ⟨k, hk⟩) ?_
    match k, hk with
    | 0, _ => exact ha
    | 1, _ => exact hz0
    | 2, _ => exact hb
    | 3, _ => exact hz0
    | 4, _ => exact hc
    | 5, _ => exact hz0
    | 6, _ => exact hz0
    | 7, _ => exact hz0
    | 8, _ => exact ha
    | 9, _ => exact hz0)
  have hsz := (recIs_read hr (s_ok wide) ⟨#[]⟩).1
  rw [s_off] at hsz
  refine ⟨S, hsz, fun w => sput big wide a 0 b 0 c 0 0 0 a 0 (fun n hn => ?_) S true hr w, fun M w hM => ?_⟩
  · simp only [List.mem_cons, List.not_mem_nil, or_false] at hn
    omega
  · have hk := (recIs_read hr (s_ok wide) M).2
    have h := sread_yes big wide (S ++ M) w hM (by rw [ByteArray.size_append]; omega)
    have e : ∀ k, k < 10 → numAt big (fullL wide sSizes 10) (S ++ M).data.toList k = [a, 0, b, 0, c, 0, 0, 0, a, 0].getD k 0 := hk
    rw [e 0 (by decide), e 1 (by decide), e 2 (by decide), e 3 (by decide), e 4 (by decide), e 5 (by decide), e 6 (by decide), e 7 (by decide), e 8 (by decide), e 9 (by decide)] at h
    exact h
theorem seg_t (big : Bool) (a b c : Nat) (ha : a < 4294967296) (hb : b < 4294967296) (hc : c < 4294967296) : ∃ S : ByteArray, S.size = 56 ∧
    (∀ w, Calls Try.prog 38 #[.agg #[.bool big, .bool true], .agg #[.int .u64 (a : Nat), .int .u64 (b : Nat), .int .u64 0, .int .u64 (c : Nat), .int .u64 0, .int .u64 0, .int .u64 0, .int .u64 (a : Nat)]] w fun e w' => e = .returned (.tuple #[.string S, .bool true]) ∧ Below w.heap.size w w') ∧
    ∀ M w, (S ++ M).size ≤ 1048576 → Calls Try.prog 47 #[.agg #[.bool big, .bool true], .string (S ++ M)] w fun e w' => e = .returned (.tuple #[.agg #[.int .u64 (a : Nat), .int .u64 (b : Nat), .int .u64 0, .int .u64 (c : Nat), .int .u64 0, .int .u64 0, .int .u64 0, .int .u64 (a : Nat)], .bool true]) ∧ Below w.heap.size w w' := by
  have hz0 : (0 : Nat) < 4294967296 := by decide
  obtain ⟨S, hr⟩ := rec_fits (big := big) (wide := true) (zs := ptSizes) (n := 8) (ns := [a, b, 0, c, 0, 0, 0, a]) pt_ok (fun k hk => by
    match k, hk with
    | 0, _ => exact pow_le a 4 (by decide) ha
    | 1, _ => exact pow_le b 4 (by decide) hb
    | 2, _ => exact Nat.pow_pos (by decide)
    | 3, _ => exact pow_le c 8 (by decide) hc
    | 4, _ => exact Nat.pow_pos (by decide)
    | 5, _ => exact Nat.pow_pos (by decide)
    | 6, _ => exact Nat.pow_pos (by decide)
    | 7, _ => exact pow_le a 8 (by decide) ha)
  have hsz := (recIs_read hr pt_ok ⟨#[]⟩).1
  rw [pt_off] at hsz
  refine ⟨S, hsz, fun w => ptput big a b 0 c 0 0 0 a (fun n hn => ?_) S true hr w, fun M w hM => ?_⟩
  · simp only [List.mem_cons, List.not_mem_nil, or_false] at hn
    omega
  · have hk := (recIs_read hr pt_ok M).2
    have h := ptread_yes big (S ++ M) w hM (by rw [ByteArray.size_append]; omega)
    have e : ∀ k, k < 8 → numAt big (fullL true ptSizes 8) (S ++ M).data.toList k = [a, b, 0, c, 0, 0, 0, a].getD k 0 := hk
    rw [e 0 (by decide), e 1 (by decide), e 2 (by decide), e 3 (by decide), e 4 (by decide), e 5 (by decide), e 6 (by decide), e 7 (by decide)] at h
    exact h
theorem seg_f (big : Bool) (a b c : Nat) (ha : a < 4294967296) (hb : b < 4294967296) (hc : c < 4294967296) : ∃ S : ByteArray, S.size = 32 ∧
    (∀ w, Calls Try.prog 38 #[.agg #[.bool big, .bool false], .agg #[.int .u64 (a : Nat), .int .u64 (b : Nat), .int .u64 0, .int .u64 (c : Nat), .int .u64 0, .int .u64 0, .int .u64 0, .int .u64 (a : Nat)]] w fun e w' => e = .returned (.tuple #[.string S, .bool true]) ∧ Below w.heap.size w w') ∧
    ∀ M w, (S ++ M).size ≤ 1048576 → Calls Try.prog 47 #[.agg #[.bool big, .bool false], .string (S ++ M)] w fun e w' => e = .returned (.tuple #[.agg #[.int .u64 (a : Nat), .int .u64 (b : Nat), .int .u64 0, .int .u64 (c : Nat), .int .u64 0, .int .u64 0, .int .u64 0, .int .u64 (a : Nat)], .bool true]) ∧ Below w.heap.size w w' := by
  have hz0 : (0 : Nat) < 4294967296 := by decide
  obtain ⟨S, hr⟩ := rec_fits (big := big) (wide := false) (zs := pfSizes) (n := 8) (ns := [a, 0, c, 0, 0, 0, b, a]) pf_ok (fun k hk => by
    match k, hk with
    | 0, _ => exact pow_le a 4 (by decide) ha
    | 1, _ => exact Nat.pow_pos (by decide)
    | 2, _ => exact pow_le c 4 (by decide) hc
    | 3, _ => exact Nat.pow_pos (by decide)
    | 4, _ => exact Nat.pow_pos (by decide)
    | 5, _ => exact Nat.pow_pos (by decide)
    | 6, _ => exact pow_le b 4 (by decide) hb
    | 7, _ => exact pow_le a 4 (by decide) ha)
  have hsz := (recIs_read hr pf_ok ⟨#[]⟩).1
  rw [pf_off] at hsz
  refine ⟨S, hsz, fun w => pfput big a b 0 c 0 0 0 a (fun n hn => ?_) S true hr w, fun M w hM => ?_⟩
  · simp only [List.mem_cons, List.not_mem_nil, or_false] at hn
    omega
  · have hk := (recIs_read hr pf_ok M).2
    have h := pfread_yes big (S ++ M) w hM (by rw [ByteArray.size_append]; omega)
    have e : ∀ k, k < 8 → numAt big (fullL false pfSizes 8) (S ++ M).data.toList k = [a, 0, c, 0, 0, 0, b, a].getD k 0 := hk
    rw [e 0 (by decide), e 1 (by decide), e 2 (by decide), e 3 (by decide), e 4 (by decide), e 5 (by decide), e 6 (by decide), e 7 (by decide)] at h
    exact h
theorem sym_t (big : Bool) (a c p q : Nat) (ha : a < 4294967296) (hc : c < 4294967296) (hp : p < 256) (hq : q < 65536) : ∃ S : ByteArray, S.size = 24 ∧
    (∀ w, Calls Try.prog 39 #[.agg #[.bool big, .bool true], .agg #[.int .u64 (a : Nat), .int .u64 (p : Nat), .int .u64 0, .int .u64 (q : Nat), .int .u64 (c : Nat), .int .u64 0]] w fun e w' => e = .returned (.tuple #[.string S, .bool true]) ∧ Below w.heap.size w w') ∧
    ∀ M w, (S ++ M).size ≤ 1048576 → Calls Try.prog 49 #[.agg #[.bool big, .bool true], .string (S ++ M)] w fun e w' => e = .returned (.tuple #[.agg #[.int .u64 (a : Nat), .int .u64 (p : Nat), .int .u64 0, .int .u64 (q : Nat), .int .u64 (c : Nat), .int .u64 0], .bool true]) ∧ Below w.heap.size w w' := by
  have hz0 : (0 : Nat) < 4294967296 := by decide
  obtain ⟨S, hr⟩ := rec_fits (big := big) (wide := true) (zs := ytSizes) (n := 6) (ns := [a, p, 0, q, c, 0]) yt_ok (fun k hk => by
    match k, hk with
    | 0, _ => exact pow_le a 4 (by decide) ha
    | 1, _ => exact hp
    | 2, _ => exact Nat.pow_pos (by decide)
    | 3, _ => exact hq
    | 4, _ => exact pow_le c 8 (by decide) hc
    | 5, _ => exact Nat.pow_pos (by decide))
  have hsz := (recIs_read hr yt_ok ⟨#[]⟩).1
  rw [yt_off] at hsz
  refine ⟨S, hsz, fun w => ytput big a p 0 q c 0 (fun n hn => ?_) S true hr w, fun M w hM => ?_⟩
  · simp only [List.mem_cons, List.not_mem_nil, or_false] at hn
    omega
  · have hk := (recIs_read hr yt_ok M).2
    have h := ytread_yes big (S ++ M) w hM (by rw [ByteArray.size_append]; omega)
    have e : ∀ k, k < 6 → numAt big (fullL true ytSizes 6) (S ++ M).data.toList k = [a, p, 0, q, c, 0].getD k 0 := hk
    rw [e 0 (by decide), e 1 (by decide), e 2 (by decide), e 3 (by decide), e 4 (by decide), e 5 (by decide)] at h
    exact h
theorem sym_f (big : Bool) (a c p q : Nat) (ha : a < 4294967296) (hc : c < 4294967296) (hp : p < 256) (hq : q < 65536) : ∃ S : ByteArray, S.size = 16 ∧
    (∀ w, Calls Try.prog 39 #[.agg #[.bool big, .bool false], .agg #[.int .u64 (a : Nat), .int .u64 (p : Nat), .int .u64 0, .int .u64 (q : Nat), .int .u64 (c : Nat), .int .u64 0]] w fun e w' => e = .returned (.tuple #[.string S, .bool true]) ∧ Below w.heap.size w w') ∧
    ∀ M w, (S ++ M).size ≤ 1048576 → Calls Try.prog 49 #[.agg #[.bool big, .bool false], .string (S ++ M)] w fun e w' => e = .returned (.tuple #[.agg #[.int .u64 (a : Nat), .int .u64 (p : Nat), .int .u64 0, .int .u64 (q : Nat), .int .u64 (c : Nat), .int .u64 0], .bool true]) ∧ Below w.heap.size w w' := by
  have hz0 : (0 : Nat) < 4294967296 := by decide
  obtain ⟨S, hr⟩ := rec_fits (big := big) (wide := false) (zs := yfSizes) (n := 6) (ns := [a, c, 0, p, 0, q]) yf_ok (fun k hk => by
    match k, hk with
    | 0, _ => exact pow_le a 4 (by decide) ha
    | 1, _ => exact pow_le c 4 (by decide) hc
    | 2, _ => exact Nat.pow_pos (by decide)
    | 3, _ => exact hp
    | 4, _ => exact Nat.pow_pos (by decide)
    | 5, _ => exact hq)
  have hsz := (recIs_read hr yf_ok ⟨#[]⟩).1
  rw [yf_off] at hsz
  refine ⟨S, hsz, fun w => yfput big a p 0 q c 0 (fun n hn => ?_) S true hr w, fun M w hM => ?_⟩
  · simp only [List.mem_cons, List.not_mem_nil, or_false] at hn
    omega
  · have hk := (recIs_read hr yf_ok M).2
    have h := yfread_yes big (S ++ M) w hM (by rw [ByteArray.size_append]; omega)
    have e : ∀ k, k < 6 → numAt big (fullL false yfSizes 6) (S ++ M).data.toList k = [a, c, 0, p, 0, q].getD k 0 := hk
    rw [e 0 (by decide), e 1 (by decide), e 2 (by decide), e 3 (by decide), e 4 (by decide), e 5 (by decide)] at h
    exact h
end Go.Proofs.Ytnmklmaclmjfbaa
namespace Go.Proofs.Ytnmklmaclmjfbaa
open Go.RowKit
theorem rel_is (big wide : Bool) (a b p q : Nat) (ha : a < 4294967296) (hb : b < 4294967296) (hp : p < 65536) (hq : q < 256) : ∃ S : ByteArray, S.size = rLen wide true ∧
    (∀ w, Calls Try.prog 40 #[.agg #[.bool big, .bool wide], .bool true, .agg #[.int .u64 (a : Nat), .int .u64 (p : Nat), .int .u64 (q : Nat), .int .u64 (b : Nat)]] w fun e w' => e = .returned (.tuple #[.string S, .bool true]) ∧ Below w.heap.size w w') ∧
    ∀ M w, (S ++ M).size ≤ 1048576 → Calls Try.prog 51 #[.agg #[.bool big, .bool wide], .bool true, .string (S ++ M)] w fun e w' => e = .returned (.tuple #[.agg #[.int .u64 (a : Nat), .int .u64 (p : Nat), .int .u64 (q : Nat), .int .u64 (b : Nat)], .bool true]) ∧ Below w.heap.size w w' := by
  have hP : 256 ≤ rP wide := by cases wide <;> decide
  have hQ : 65536 ≤ rQ wide := by cases wide <;> decide
  have hw : 4294967296 ≤ 256 ^ wordN wide := by cases wide <;> decide
  have hinf := pq wide p q (by omega) (by omega)
  have hput : PutIs big wide true a p q b ⟨(fieldsL big (fullL wide (rZ true) (rN true)) (rNs true a (p * rP wide + q) b) (rN true)).toArray⟩ true := by
    refine .inr ⟨by omega, by omega, (fun h => by cases h), .inr (.inl ⟨rfl, fun k hk => (okAt_r wide true _ k hk).2 ?_, rfl, rfl⟩)⟩
    generalize p * rP wide + q = x at *
    match k, hk with
    | 0, _ => exact Nat.lt_of_lt_of_le ha hw
    | 1, _ => exact hinf
    | 2, _ => exact Nat.lt_of_lt_of_le hb hw
  generalize ByteArray.mk (fieldsL big (fullL wide (rZ true) (rN true)) (rNs true a (p * rP wide + q) b) (rN true)).toArray = S at *
  refine ⟨S, (putIs_read hput ⟨#[]⟩).1, fun w => rput_is hput ⟨by omega, by omega⟩ w, fun M w hM => ?_⟩
  obtain ⟨e0, e1, e2, e3, e4⟩ := putIs_read hput M
  have h := rread_is big wide true (S ++ M) hM (by rw [ByteArray.size_append]; omega) w
  rw [e1, e2, e3, e4] at h
  exact h
end Go.Proofs.Ytnmklmaclmjfbaa
namespace Go.Proofs.Ytnmklmaclmjfbaa
open Go.RowKit Go.WideShapes Go.ChangeShapes Go.ChangeAt Go.Deep
theorem agg_nums (cs : Array Value) (h : ∀ j, j < cs.size → ∃ n : Nat, cs[j]? = some (.int .u64 (n : Int)) ∧ n < 2 ^ 64) :
    ∃ ns : List Nat, cs = rowU64 ns ∧ ns.length = cs.size ∧ ∀ n ∈ ns, n < 2 ^ 64 := by
  refine ⟨cs.toList.map fun v => (intOf v).toNat, ?_, by simp, ?_⟩
  · apply Array.ext
    · simp [rowU64]
    · intro i h1 h2
      obtain ⟨n, hn, _⟩ := h i h1
      rw [Array.getElem?_eq_getElem h1] at hn
      simp only [Option.some.injEq] at hn
      simp [rowU64, hn, intOf]
  · intro n hn
    simp only [List.mem_map] at hn
    obtain ⟨v, hv, rfl⟩ := hn
    obtain ⟨j, hj, rfl⟩ := List.getElem_of_mem hv
    obtain ⟨n, hn, hlt⟩ := h j (by simpa using hj)
    rw [Array.getElem?_eq_getElem (by simpa using hj)] at hn
    simp only [Option.some.injEq] at hn
    simp [hn, intOf]
    exact hlt
section
variable {H : Type} {enc : TypeId × Value → H} {P : Program} {w : World} {base : Nat} {spare : Nat → Bool} {held : Bool}
theorem open_nums_struct {r : Reach} {b0 : Nat} {t : TypeId} {fs : Array Field} {v : Value} {d : DataW H} {p : List MemPlace} (hs : P.underlying t = some (.struct fs)) (hone : oneCellFields P fs = true)
    {e : TypeId} (he : P.underlying e = some (.int .u64)) (hu : fs.all (fun f => f.type == e) = true) (hC : P.cellsOf t = fs.size)
    (hv : Value.okWide P w r b0 t v) (h : DataW.Trod enc P w base spare held t v d p) : ∃ ns : List Nat, v = .agg (rowU64 ns) ∧ ns.length = fs.size ∧ ∀ n ∈ ns, n < 2 ^ 64 := by
  obtain ⟨cs, rfl, hsz⟩ := okWide_struct hs hv
  obtain ⟨fuel, hf⟩ := h
  obtain ⟨xs, n, _, hx, _, hlen, hg⟩ := DataW.trod_struct hs hf
  rw [hC] at hsz
  obtain ⟨ns, h1, h2, h3⟩ := agg_nums cs (fun j hj => by
    have hjf : j < fs.size := by omega
    have hfj : fs[j]? = some fs[j] := Array.getElem?_eq_getElem hjf
    obtain ⟨ho, hk⟩ := hone_of hone j _ hfj
    have hgj := hg j _ hfj
    rw [ho, hk] at hgj
    have hut : P.underlying fs[j].type = some (.int .u64) := by
      have := (Array.all_eq_true.1 hu) j hjf
      simp only [beq_iff_eq] at this
      rw [this]; exact he
    rw [List.getElem?_eq_getElem (by omega)] at hgj
    obtain ⟨m, e1, _, hw⟩ := DataW.trod_int hut hgj
    have hb := bounds_u64 hw
    refine ⟨m.toNat, ?_, by omega⟩
    have e2 : (List.take 1 (List.drop j cs.toList)) = [cs[j]] := by
      rw [List.drop_eq_getElem_cons (by simpa using hj)]
      simp
    have e3 : (Value.agg cs).cells.toList = cs.toList := rfl
    rw [e3, e2] at e1
    simp only [List.cons.injEq, and_true] at e1
    rw [Array.getElem?_eq_getElem hj, e1]
    congr 2
    omega)
  exact ⟨ns, by rw [h1], by rw [h2, hsz], h3⟩
theorem open_nums_array {r : Reach} {b0 : Nat} {t e : TypeId} {k : Nat} {v : Value} {d : DataW H} {p : List MemPlace} (hs : P.underlying t = some (.array k e))
    (hu : P.underlying e = some (.int .u64)) (hce : P.cellsOf e = 1) (hC : P.cellsOf t = k)
    (hv : Value.okWide P w r b0 t v) (h : DataW.Trod enc P w base spare held t v d p) : ∃ ns : List Nat, v = .agg (rowU64 ns) ∧ ns.length = k ∧ ∀ n ∈ ns, n < 2 ^ 64 := by
  obtain ⟨cs, rfl, hsz⟩ : ∃ cs, v = .agg cs ∧ cs.size = P.cellsOf t := by
    simp only [Value.okWide, hs] at hv
    obtain ⟨cs, h1, h2, _⟩ := hv
    exact ⟨cs, h1, h2⟩
  obtain ⟨fuel, hf⟩ := h
  obtain ⟨xs, n, _, hx, _, hlen, hg⟩ := DataW.trod_array hs hf
  rw [hC] at hsz
  obtain ⟨ns, h1, h2, h3⟩ := agg_nums cs (fun j hj => by
    have hgj := hg j (by omega)
    rw [hce, Nat.mul_one, List.getElem?_eq_getElem (by omega)] at hgj
    obtain ⟨m, e1, _, hw⟩ := DataW.trod_int hu hgj
    have hb := bounds_u64 hw
    refine ⟨m.toNat, ?_, by omega⟩
    have e2 : (List.take 1 (List.drop j cs.toList)) = [cs[j]] := by
      rw [List.drop_eq_getElem_cons (by simpa using hj)]
      simp
    have e3 : (Value.agg cs).cells.toList = cs.toList := rfl
    rw [e3, e2] at e1
    simp only [List.cons.injEq, and_true] at e1
    rw [Array.getElem?_eq_getElem hj, e1]
    congr 2
    omega)
  exact ⟨ns, by rw [h1], by rw [h2, hsz], h3⟩
end
end Go.Proofs.Ytnmklmaclmjfbaa
namespace Go.Proofs.Ytnmklmaclmjfbaa
open Go.RowKit Go.WideShapes Go.ChangeShapes Go.ChangeAt Go.Deep
/-- n triples stand one behind the other where a slice begins. -/
def RowT3 (w : World) (A : Option Addr) (n : Nat) (R : Nat → Nat → Nat) : Prop := ∀ i, i < n → ∃ b o, A = some ⟨b, o, none⟩ ∧ b < w.heap.size ∧
  w.cell? ⟨b, o + i * 3, none⟩ = some (.int .u32 (R i 0 : Nat)) ∧ w.cell? ⟨b, o + i * 3 + 1, none⟩ = some (.int .u32 (R i 1 : Nat)) ∧ w.cell? ⟨b, o + i * 3 + 2, none⟩ = some (.int .u32 (R i 2 : Nat))
theorem RowT3.low {w w' : World} {A : Option Addr} {n : Nat} {R : Nat → Nat → Nat} (h : RowT3 w A n R) (hb : Below w.heap.size w w') : RowT3 w' A n R := fun i hi => by
  obtain ⟨b, o, e, hl, h0, h1, h2⟩ := h i hi
  exact ⟨b, o, e, Nat.lt_of_lt_of_le hl hb.size, (hb.cell (p := ⟨b, _, none⟩) hl).trans h0, (hb.cell (p := ⟨b, _, none⟩) hl).trans h1, (hb.cell (p := ⟨b, _, none⟩) hl).trans h2⟩
theorem threes_row {w : World} {a : Addr} {len : Nat} {R : Nat → Nat → Nat} (h : ∀ i, i < len → ∀ j, j < 3 → w.cell? ((a.add (i * 3)).add j) = some (.int .u32 (R i j : Nat))) : RowT3 w (some a) len R := fun i hi => by
  have hc0 := h i hi 0 (by omega)
  obtain ⟨b, off, spot⟩ := a
  have hspot : spot = none := by
    have := World.cell?_spot (show w.cell? (((⟨b, off, spot⟩ : Addr).add (0 * 3)).add 0) = some (.int .u32 (R 0 0 : Nat)) from h 0 (by omega) 0 (by omega))
    simpa [Addr.add] using this
  subst hspot
  have e : ∀ j, ((⟨b, off, none⟩ : Addr).add (i * 3)).add j = ⟨b, off + i * 3 + j, none⟩ := fun j => by rw [add_plain, add_plain]
  have hb : b < w.heap.size := by
    rcases Nat.lt_or_ge b w.heap.size with h3 | h3
    · exact h3
    · rw [e 0] at hc0
      simp [World.cell?, Array.getElem?_eq_none h3] at hc0
  refine ⟨b, off, rfl, hb, ?_, ?_, ?_⟩
  · have := h i hi 0 (by omega); rw [e 0] at this; exact this
  · have := h i hi 1 (by omega); rw [e 1] at this; exact this
  · have := h i hi 2 (by omega); rw [e 2] at this; exact this
section
variable {H : Type} {enc : TypeId × Value → H} {P : Program} {w : World} {base : Nat} {spare : Nat → Bool} {held : Bool}
theorem open_three {e u : TypeId} (he : P.underlying e = some (.array 3 u)) (hu : P.underlying u = some (.int .u32)) (hcu : P.cellsOf u = 1)
    {n : Nat} {cs : List Value} {x : DataW H × List MemPlace} (hcl : cs.length = 3) (h : DataW.trod enc P w base spare held n e cs = some x) : ∀ j, j < 3 → ∃ m : Nat, cs[j]? = some (.int .u32 (m : Nat)) ∧ m < 4294967296 := by
  obtain ⟨xs, k, _, _, _, _, hg⟩ := DataW.trod_array he h
  intro j hj
  have hgj := hg j (by omega)
  rw [hcu, Nat.mul_one] at hgj
  have e2 : (List.take 1 (List.drop j cs)) = [cs[j]'(by omega)] := by
    rw [List.drop_eq_getElem_cons (by omega)]
    rfl
  rw [e2] at hgj
  cases hx : xs[j]? with
  | none =>
    rw [hx] at hgj
    have h5 := List.getElem?_eq_none_iff.1 hx
    omega
  | some y =>
    rw [hx] at hgj
    obtain ⟨m, e1, _, hw⟩ := DataW.trod_int hu hgj
    have hb := bounds_u32 hw
    refine ⟨m.toNat, ?_, by omega⟩
    simp only [List.cons.injEq, and_true] at e1
    rw [List.getElem?_eq_getElem (by omega), e1]
    congr 2
    omega
theorem open_threes {t e u : TypeId} (ht : P.underlying t = some (.slice e)) (he : P.underlying e = some (.array 3 u)) (hu : P.underlying u = some (.int .u32)) (hcu : P.cellsOf u = 1) (hC : P.cellsOf e = 3)
    {fuel : Nat} {cs : List Value} {x : DataW H × List MemPlace} (h : DataW.trod enc P w base spare held fuel t cs = some x) :
    cs = [.slice none 0 0] ∨ ∃ (a : Addr) (len cap : Nat) (R : Nat → Nat → Nat), cs = [.slice (some a) len cap] ∧ len ≤ maxLen ∧ RowT3 w (some a) len R ∧ ∀ i, i < len → ∀ j, j < 3 → R i j < 4294967296 := by
  rcases Go.Deep.open_slice ht h with ⟨h0, _⟩ | ⟨a, len, cap, m, n, D, Pl, hcs, _, hl, hm, hmm, _, hi⟩
  · exact .inl h0
  · have hlm : len ≤ m := by rw [hmm]; split <;> omega
    have each : ∀ i j, ∃ v : Nat, i < len → j < 3 → w.cell? ((a.add (i * 3)).add j) = some (.int .u32 (v : Nat)) ∧ v < 4294967296 := fun i j => by
      by_cases hil : i < len
      · by_cases hj : j < 3
        · obtain ⟨cs', hc, ht'⟩ := hi i (by omega)
          rw [hC] at hc
          obtain ⟨_, hcl, hat⟩ := World.cells?_some hc
          obtain ⟨v, h1, h2⟩ := open_three he hu hcu hcl ht' j hj
          exact ⟨v, fun _ _ => ⟨(hat j hj).trans h1, h2⟩⟩
        · exact ⟨0, fun _ h => absurd h hj⟩
      · exact ⟨0, fun h _ => absurd h hil⟩
    refine .inr ⟨a, len, cap, fun i j => Classical.choose (each i j), hcs, by omega, threes_row (fun i hi j hj => (Classical.choose_spec (each i j) hi hj).1), fun i hi j hj => (Classical.choose_spec (each i j) hi hj).2⟩
end
end Go.Proofs.Ytnmklmaclmjfbaa
namespace Go.Proofs.Ytnmklmaclmjfbaa
open Go.RowKit
theorem tform (fl : Int) (big wide : Bool) (hb : (bits BinOp.and IntKind.i64 fl 1 == 1) = big) (hw : (bits BinOp.and IntKind.i64 fl 2 == 2) = wide) (w : World) :
    Calls Try.prog 34 #[.int .i64 fl] w fun e w' => e = .returned (.agg #[.bool big, .bool wide]) ∧ Below w.heap.size w w' := by
  subst hb hw
  go_enter Try.func34, Try.ntmps34
  go_wp2
  generalize (bits BinOp.and IntKind.i64 fl 1 == 1) = big
  generalize (bits BinOp.and IntKind.i64 fl 2 == 2) = wide
  exact bodyPost_ret (v := .agg #[.bool big, .bool wide]) (by simp [results, Try.results34, go_sem]) rfl ⟨rfl, (Below.refl _ _).alloc (Nat.le_refl _) _⟩
theorem tform3 (w : World) : Calls Try.prog 34 #[.int .i64 3] w fun e w' => e = .returned (.agg #[.bool true, .bool true]) ∧ Below w.heap.size w w' := tform 3 true true (by decide) (by decide) w
def tS : ByteArray := ⟨#[0, 0, 0, 0, 0, 0, 0, 1, 0, 0, 0, 0, 0, 0, 0, 0, 0, 0, 0, 0, 0, 0, 0, 0, 0, 0, 0, 0, 0, 0, 0, 0, 0, 0, 0, 0, 0, 0, 0, 0, 0, 0, 0, 0, 0, 0, 0, 0, 0, 0, 0, 0, 0, 0, 0, 0, 0, 0, 0, 0, 0, 0, 0, 0]⟩
theorem tS_rec : RecIs true true sSizes [0, 1, 0, 0, 0, 0, 0, 0, 0, 0] 10 10 tS true := by
  right; left
  refine ⟨rfl, ?_, by kernel_rfl, rfl⟩
  intro k hk
  have : ∀ k : Fin 10, 0 ≤ fullZ true (sSizes.getD k.1 0) ∧ fullZ true (sSizes.getD k.1 0) ≤ 8 ∧ ([0, 1, 0, 0, 0, 0, 0, 0, 0, 0] : List Nat).getD k.1 0 < 256 ^ (fullZ true (sSizes.getD k.1 0)).toNat := by decide
  exact this ⟨k, hk⟩
theorem tput1 (w : World) : Calls Try.prog 37 #[.agg #[.bool true, .bool true], .agg #[.int .u64 0, .int .u64 1, .int .u64 0, .int .u64 0, .int .u64 0, .int .u64 0, .int .u64 0, .int .u64 0, .int .u64 0, .int .u64 0]] w fun e w' => e = .returned (.tuple #[.string ⟨#[0, 0, 0, 0, 0, 0, 0, 1, 0, 0, 0, 0, 0, 0, 0, 0, 0, 0, 0, 0, 0, 0, 0, 0, 0, 0, 0, 0, 0, 0, 0, 0, 0, 0, 0, 0, 0, 0, 0, 0, 0, 0, 0, 0, 0, 0, 0, 0, 0, 0, 0, 0, 0, 0, 0, 0, 0, 0, 0, 0, 0, 0, 0, 0]⟩, .bool true]) ∧ Below w.heap.size w w' :=
  sput true true 0 1 0 0 0 0 0 0 0 0 (by decide) tS true tS_rec w
theorem tread1 (w : World) : Calls Try.prog 45 #[.agg #[.bool true, .bool true], .string ⟨#[0, 0, 0, 0, 0, 0, 0, 1, 0, 0, 0, 0, 0, 0, 0, 0, 0, 0, 0, 0, 0, 0, 0, 0, 0, 0, 0, 0, 0, 0, 0, 0, 0, 0, 0, 0, 0, 0, 0, 0, 0, 0, 0, 0, 0, 0, 0, 0, 0, 0, 0, 0, 0, 0, 0, 0, 0, 0, 0, 0, 0, 0, 0, 0]⟩] w fun e w' => e = .returned (.tuple #[.agg #[.int .u64 0, .int .u64 1, .int .u64 0, .int .u64 0, .int .u64 0, .int .u64 0, .int .u64 0, .int .u64 0, .int .u64 0, .int .u64 0], .bool true]) ∧ Below w.heap.size w w' := by
  refine (sread_yes true true tS w (by decide) (by decide)).mono fun e w' ⟨he, hb⟩ => ⟨?_, hb⟩
  have hr := (recIs_read tS_rec (s_ok true) ⟨#[]⟩).2
  have e0 : (tS ++ ⟨#[]⟩) = tS := by apply ByteArray.ext; simp
  rw [e0] at hr
  rw [he, hr 0 (by decide), hr 1 (by decide), hr 2 (by decide), hr 3 (by decide), hr 4 (by decide), hr 5 (by decide), hr 6 (by decide), hr 7 (by decide), hr 8 (by decide), hr 9 (by decide)]
  rfl
set_option maxRecDepth 100000 in
set_option maxHeartbeats 2000000 in
theorem trecords (w : World) : Calls Try.prog 33 #[] w fun e w' => e = .returned (.bool true) ∧ Below w.heap.size w w' := by
  go_enter Try.func33, Try.ntmps33
  go_wp2_with fail
  refine (tform3 _).mono ?_
  rintro e w1 ⟨rfl, h1⟩
  go_wp2_with fail
  refine (tput1 _).mono ?_
  rintro e w2 ⟨rfl, h2⟩
  have g2 : Below w.heap.size w w2 := h1.trans (h2.mono h1.size)
  clear h1 h2
  go_wp2_with fail
  refine (tform3 _).mono ?_
  rintro e w3 ⟨rfl, h3⟩
  go_wp2_with fail
  refine (tread1 _).mono ?_
  rintro e w4 ⟨rfl, h4⟩
  have g4 : Below w.heap.size w w4 := (g2.trans (h3.mono g2.size)).trans (h4.mono (g2.trans (h3.mono g2.size)).size)
  clear g2 h3 h4
  go_wp2
  go_ret
  exact ⟨rfl, g4.alloc g4.size _⟩
end Go.Proofs.Ytnmklmaclmjfbaa
namespace Go.Proofs.Ytnmklmaclmjfbaa
open Go.RowKit
theorem and_lt (b m : Nat) (hb : b < 18446744073709551616) (hm : m < 18446744073709551616) : ∃ p : Nat, bits BinOp.and IntKind.u64 (b : Int) (m : Int) = (p : Nat) ∧ p ≤ m :=
  ⟨b &&& m, bits_and_u64_nat b m hb hm, Nat.and_le_right⟩
theorem and255 (b : Nat) (hb : b < 4294967296) : ∃ p : Nat, bits BinOp.and IntKind.u64 (b : Int) 255 = (p : Nat) ∧ p < 256 := by
  obtain ⟨p, h1, h2⟩ := and_lt b 255 (by omega) (by decide)
  exact ⟨p, h1, by omega⟩
theorem and65535 (b : Nat) (hb : b < 4294967296) : ∃ p : Nat, bits BinOp.and IntKind.u64 (b : Int) 65535 = (p : Nat) ∧ p < 65536 := by
  obtain ⟨p, h1, h2⟩ := and_lt b 65535 (by omega) (by decide)
  exact ⟨p, h1, by omega⟩
def sizA (wide : Bool) : Nat → Nat
  | 0 => sLen wide
  | 1 => if wide then 56 else 32
  | 2 => if wide then 24 else 16
  | _ => rLen wide true
theorem sizA_le (wide : Bool) (i : Nat) : 8 ≤ sizA wide i ∧ sizA wide i ≤ 64 := by
  match i with
  | 0 => cases wide <;> decide
  | 1 => cases wide <;> decide
  | 2 => cases wide <;> decide
  | n + 3 =>
    have h : 8 ≤ rLen wide true ∧ rLen wide true ≤ 64 := by cases wide <;> decide
    exact h
/-- The text of three numbers, as the i-th record (i by four): it is put, and read again with anything behind. -/
def RecP (big wide : Bool) (i a b c : Nat) (S : ByteArray) : Prop := S.size = sizA wide i ∧
  (i = 0 → (∀ w, Calls Try.prog 37 #[.agg #[.bool big, .bool wide], .agg #[.int .u64 (a : Nat), .int .u64 0, .int .u64 (b : Nat), .int .u64 0, .int .u64 (c : Nat), .int .u64 0, .int .u64 0, .int .u64 0, .int .u64 (a : Nat), .int .u64 0]] w fun e w' => e = .returned (.tuple #[.string S, .bool true]) ∧ Below w.heap.size w w') ∧
    ∀ M w, (S ++ M).size ≤ 1048576 → Calls Try.prog 45 #[.agg #[.bool big, .bool wide], .string (S ++ M)] w fun e w' => e = .returned (.tuple #[.agg #[.int .u64 (a : Nat), .int .u64 0, .int .u64 (b : Nat), .int .u64 0, .int .u64 (c : Nat), .int .u64 0, .int .u64 0, .int .u64 0, .int .u64 (a : Nat), .int .u64 0], .bool true]) ∧ Below w.heap.size w w') ∧
  (i = 1 → (∀ w, Calls Try.prog 38 #[.agg #[.bool big, .bool wide], .agg #[.int .u64 (a : Nat), .int .u64 (b : Nat), .int .u64 0, .int .u64 (c : Nat), .int .u64 0, .int .u64 0, .int .u64 0, .int .u64 (a : Nat)]] w fun e w' => e = .returned (.tuple #[.string S, .bool true]) ∧ Below w.heap.size w w') ∧
    ∀ M w, (S ++ M).size ≤ 1048576 → Calls Try.prog 47 #[.agg #[.bool big, .bool wide], .string (S ++ M)] w fun e w' => e = .returned (.tuple #[.agg #[.int .u64 (a : Nat), .int .u64 (b : Nat), .int .u64 0, .int .u64 (c : Nat), .int .u64 0, .int .u64 0, .int .u64 0, .int .u64 (a : Nat)], .bool true]) ∧ Below w.heap.size w w') ∧
  (i = 2 → ∃ p q : Nat, bits BinOp.and IntKind.u64 (b : Int) 255 = (p : Nat) ∧ bits BinOp.and IntKind.u64 (c : Int) 65535 = (q : Nat) ∧
    (∀ w, Calls Try.prog 39 #[.agg #[.bool big, .bool wide], .agg #[.int .u64 (a : Nat), .int .u64 (p : Nat), .int .u64 0, .int .u64 (q : Nat), .int .u64 (c : Nat), .int .u64 0]] w fun e w' => e = .returned (.tuple #[.string S, .bool true]) ∧ Below w.heap.size w w') ∧
    ∀ M w, (S ++ M).size ≤ 1048576 → Calls Try.prog 49 #[.agg #[.bool big, .bool wide], .string (S ++ M)] w fun e w' => e = .returned (.tuple #[.agg #[.int .u64 (a : Nat), .int .u64 (p : Nat), .int .u64 0, .int .u64 (q : Nat), .int .u64 (c : Nat), .int .u64 0], .bool true]) ∧ Below w.heap.size w w') ∧
  (3 ≤ i → ∃ p q : Nat, bits BinOp.and IntKind.u64 (b : Int) 65535 = (p : Nat) ∧ bits BinOp.and IntKind.u64 (c : Int) 255 = (q : Nat) ∧
    (∀ w, Calls Try.prog 40 #[.agg #[.bool big, .bool wide], .bool true, .agg #[.int .u64 (a : Nat), .int .u64 (p : Nat), .int .u64 (q : Nat), .int .u64 (b : Nat)]] w fun e w' => e = .returned (.tuple #[.string S, .bool true]) ∧ Below w.heap.size w w') ∧
    ∀ M w, (S ++ M).size ≤ 1048576 → Calls Try.prog 51 #[.agg #[.bool big, .bool wide], .bool true, .string (S ++ M)] w fun e w' => e = .returned (.tuple #[.agg #[.int .u64 (a : Nat), .int .u64 (p : Nat), .int .u64 (q : Nat), .int .u64 (b : Nat)], .bool true]) ∧ Below w.heap.size w w')
theorem recP_ex (big wide : Bool) (i a b c : Nat) (ha : a < 4294967296) (hb : b < 4294967296) (hc : c < 4294967296) : ∃ S, RecP big wide i a b c S := by
  match i with
  | 0 =>
    obtain ⟨S, h1, h2, h3⟩ := sec_is big wide a b c ha hb hc
    exact ⟨S, h1, fun _ => ⟨h2, h3⟩, fun h => absurd h (by decide), fun h => absurd h (by decide), fun h => absurd h (by decide)⟩
  | 1 =>
    cases wide
    · obtain ⟨S, h1, h2, h3⟩ := seg_f big a b c ha hb hc
      exact ⟨S, h1, fun h => absurd h (by decide), fun _ => ⟨h2, h3⟩, fun h => absurd h (by decide), fun h => absurd h (by decide)⟩
    · obtain ⟨S, h1, h2, h3⟩ := seg_t big a b c ha hb hc
      exact ⟨S, h1, fun h => absurd h (by decide), fun _ => ⟨h2, h3⟩, fun h => absurd h (by decide), fun h => absurd h (by decide)⟩
  | 2 =>
    obtain ⟨p, hp, hp2⟩ := and255 b hb
    obtain ⟨q, hq, hq2⟩ := and65535 c hc
    cases wide
    · obtain ⟨S, h1, h2, h3⟩ := sym_f big a c p q ha hc hp2 hq2
      exact ⟨S, h1, fun h => absurd h (by decide), fun h => absurd h (by decide), fun _ => ⟨p, q, hp, hq, h2, h3⟩, fun h => absurd h (by decide)⟩
    · obtain ⟨S, h1, h2, h3⟩ := sym_t big a c p q ha hc hp2 hq2
      exact ⟨S, h1, fun h => absurd h (by decide), fun h => absurd h (by decide), fun _ => ⟨p, q, hp, hq, h2, h3⟩, fun h => absurd h (by decide)⟩
  | i + 3 =>
    obtain ⟨p, hp, hp2⟩ := and65535 b hb
    obtain ⟨q, hq, hq2⟩ := and255 c hc
    obtain ⟨S, h1, h2, h3⟩ := rel_is big wide a b p q ha hb hp2 hq2
    exact ⟨S, h1, fun h => absurd h (by omega), fun h => absurd h (by omega), fun h => absurd h (by omega), fun _ => ⟨p, q, hp, hq, h2, h3⟩⟩
/-- A plain header is put, and read again with anything behind. -/
theorem head_is (big wide : Bool) : ∃ S : ByteArray, S.size = eLen wide ∧
    (∀ w, Calls Try.prog 35 #[.agg #[.bool big, .bool wide], .agg #[.int .u64 0, .int .u64 0, .int .u64 1, .int .u64 0, .int .u64 0, .int .u64 0, .int .u64 0, .int .u64 (ehs wide : Nat), .int .u64 (phs wide : Nat), .int .u64 0, .int .u64 (shs wide : Nat), .int .u64 0, .int .u64 0]] w fun e w' => e = .returned (.tuple #[.string S, .bool true]) ∧ Below w.heap.size w w') ∧
    ∀ M w, (S ++ M).size ≤ 1048576 → Calls Try.prog 42 #[.agg #[.bool big, .bool wide], .string (S ++ M)] w fun e w' => e = .returned (.tuple #[.agg #[.int .u64 0, .int .u64 0, .int .u64 1, .int .u64 0, .int .u64 0, .int .u64 0, .int .u64 0, .int .u64 (ehs wide : Nat), .int .u64 (phs wide : Nat), .int .u64 0, .int .u64 (shs wide : Nat), .int .u64 0, .int .u64 0], .bool true]) ∧ Below w.heap.size w w' := by
  have hfit : ∀ (wide : Bool) (k : Fin 13), [0, 0, 1, 0, 0, 0, 0, ehs wide, phs wide, 0, shs wide, 0, 0].getD k.1 0 < 256 ^ (fullZ wide (eSizes.getD k.1 0)).toNat := by decide
  have h64 : ∀ (wide : Bool), ∀ n ∈ [0, 0, 1, 0, 0, 0, 0, ehs wide, phs wide, 0, shs wide, 0, 0], n < 2 ^ 64 := by decide
  obtain ⟨S, hr⟩ := rec_fits (big := big) (wide := wide) (zs := eSizes) (n := 13) (ns := [0, 0, 1, 0, 0, 0, 0, ehs wide, phs wide, 0, shs wide, 0, 0]) (e_ok wide) (fun k hk => hfit wide ⟨k, hk⟩)
  have hsz := (recIs_read hr (e_ok wide) ⟨#[]⟩).1
  rw [e_off] at hsz
  refine ⟨S, hsz, fun w => eput big wide 0 0 1 0 0 0 0 (ehs wide) (phs wide) 0 (shs wide) 0 0 (h64 wide) S true hr w, fun M w hM => ?_⟩
  have hk := (recIs_read hr (e_ok wide) M).2
  have h := eread_yes big wide (S ++ M) w hM (by rw [ByteArray.size_append]; omega)
  have e : ∀ k, k < 13 → numAt big (fullL wide eSizes 13) (S ++ M).data.toList k = [0, 0, 1, 0, 0, 0, 0, ehs wide, phs wide, 0, shs wide, 0, 0].getD k 0 := hk
  rw [e 0 (by decide), e 1 (by decide), e 2 (by decide), e 3 (by decide), e 4 (by decide), e 5 (by decide), e 6 (by decide), e 7 (by decide), e 8 (by decide), e 9 (by decide), e 10 (by decide), e 11 (by decide), e 12 (by decide)] at h
  exact h
theorem check_ok (big wide : Bool) (w : World) : Calls Try.prog 43 #[.agg #[.int .u64 0, .int .u64 0, .int .u64 1, .int .u64 0, .int .u64 0, .int .u64 0, .int .u64 0, .int .u64 (ehs wide : Nat), .int .u64 (phs wide : Nat), .int .u64 0, .int .u64 (shs wide : Nat), .int .u64 0, .int .u64 0], .agg #[.bool big, .bool wide]] w fun e w' => e = .returned (.int .i64 0) ∧ Below w.heap.size w w' :=
  echeck big wide 0 0 1 0 0 0 0 (ehs wide) (phs wide) 0 (shs wide) 0 0 false false false false false false (by decide) (by simp) (by decide) (by simp) (by decide) (by simp) w
/-- What a file begins with is read as its form. -/
theorem read_top (big wide : Bool) (rest : List UInt8) (hl : rest.length ≤ 2000) (w : World) :
    Calls Try.prog 41 #[.string ⟨(identL big wide 0 0 [] ++ rest).toArray⟩] w fun e w' => e = .returned (.tuple #[.agg #[.bool big, .bool wide, .int .u8 0, .int .u8 0, .string ⟨#[0, 0, 0, 0, 0, 0, 0]⟩], .int .i64 0]) ∧ Below w.heap.size w w' := by
  have hz : (ByteArray.mk (identL big wide 0 0 [] ++ rest).toArray).size = 16 + rest.length := by
    simp only [ByteArray.size, List.size_toArray, List.length_append, identL_length]
  have h16 : 16 ≤ (ByteArray.mk (identL big wide 0 0 [] ++ rest).toArray).size := by omega
  have hm : isMagic ⟨(identL big wide 0 0 [] ++ rest).toArray⟩ = true := by
    unfold isMagic
    rw [toList_data, ByteArray.data_extract, Array.toList_extract, List.extract_eq_take_drop]
    rfl
  have e4 : ((ByteArray.mk (identL big wide 0 0 [] ++ rest).toArray)[4]'(by omega)).toNat = if wide then 2 else 1 := by cases wide <;> rfl
  have e5 : ((ByteArray.mk (identL big wide 0 0 [] ++ rest).toArray)[5]'(by omega)).toNat = if big then 2 else 1 := by cases big <;> rfl
  have e6 : ((ByteArray.mk (identL big wide 0 0 [] ++ rest).toArray)[6]'(by omega)).toNat = 1 := by rfl
  have e7 : ((ByteArray.mk (identL big wide 0 0 [] ++ rest).toArray)[7]'(by omega)).toNat = 0 := by rfl
  have e8 : ((ByteArray.mk (identL big wide 0 0 [] ++ rest).toArray)[8]'(by omega)).toNat = 0 := by rfl
  have ep : (ByteArray.mk (identL big wide 0 0 [] ++ rest).toArray).extract 9 16 = ⟨#[0, 0, 0, 0, 0, 0, 0]⟩ := by
    apply ByteArray.ext
    apply Array.toList_inj.1
    rw [ByteArray.data_extract, Array.toList_extract, List.extract_eq_take_drop]
    rfl
  have h := read_ok _ w h16 (by rw [hz]; unfold maxLen; omega) hm (by rw [e4]; cases wide <;> simp) (by rw [e5]; cases big <;> simp) (by rw [e6]; rfl)
  rw [e4, e5, e7, e8, ep] at h
  cases big <;> cases wide <;> exact h
/-- The texts from k on, one behind the other. -/
def tailR (T : Nat → ByteArray) (m k : Nat) : ByteArray := ⟨((catR T m).drop (catR T k).length).toArray⟩
theorem catR_more (T : Nat → ByteArray) (k : Nat) : ∀ m, k < m → ∃ t, catR T m = catR T k ++ ((T k).data.toList ++ t)
  | 0, h => absurd h (Nat.not_lt_zero _)
  | m + 1, h => by
    by_cases hk : k = m
    · subst hk; exact ⟨[], by simp [catR]⟩
    · obtain ⟨t, ht⟩ := catR_more T k m (by omega)
      exact ⟨t ++ (T m).data.toList, by simp [catR, ht]⟩
theorem tail_step (T : Nat → ByteArray) (m k : Nat) (h : k < m) : tailR T m k = T k ++ tailR T m (k + 1) := by
  obtain ⟨t, ht⟩ := catR_more T k m h
  unfold tailR
  apply ByteArray.ext
  apply Array.toList_inj.1
  rw [ht, List.drop_left]
  have e : (catR T (k + 1)).length = (catR T k).length + (T k).data.toList.length := by simp [catR]
  rw [e, ← List.drop_drop, List.drop_left, List.drop_left]
  simp
theorem tail_end (T : Nat → ByteArray) (m : Nat) : tailR T m m = ⟨#[]⟩ := by
  unfold tailR
  rw [List.drop_length]
theorem tail_all (T : Nat → ByteArray) (m : Nat) : tailR T m 0 = ⟨(catR T m).toArray⟩ := by
  unfold tailR
  rfl
theorem cut_head (s t : ByteArray) (n : Nat) (hn : s.size = n) : (s ++ t).extract n (s ++ t).size = t := by
  apply ByteArray.ext
  apply Array.toList_inj.1
  rw [ext_list']
  have : (s ++ t).data.toList = s.data.toList ++ t.data.toList := by simp
  rw [this]
  have hl : s.data.toList.length = n := by rw [← hn]; simp
  rw [← hl, List.drop_left]
theorem app_mk (l : List UInt8) (t : ByteArray) : (ByteArray.mk l.toArray) ++ t = ⟨(l ++ t.data.toList).toArray⟩ := by
  apply ByteArray.ext
  apply Array.toList_inj.1
  simp
theorem app_asc (a b c : ByteArray) : a ++ b ++ c = a ++ (b ++ c) := by
  apply ByteArray.ext
  apply Array.toList_inj.1
  simp
theorem bytes0 (big wide : Bool) (w : World) : Calls Try.prog 22 #[.agg #[.bool big, .bool wide, .int .u8 0, .int .u8 0, .string ⟨#[]⟩]] w fun e w' => e = .returned (.string ⟨(identL big wide 0 0 []).toArray⟩) ∧ Below w.heap.size w w' := bytes_any big wide 0 0 ⟨#[]⟩ w
theorem szA0 (big wide : Bool) (w : World) : Calls Try.prog 46 #[.agg #[.bool big, .bool wide]] w fun e w' => e = .returned (.int .i64 (sizA wide 0 : Nat)) ∧ Below w.heap.size w w' := ssize big wide w
theorem szA1 (big wide : Bool) (w : World) : Calls Try.prog 48 #[.agg #[.bool big, .bool wide]] w fun e w' => e = .returned (.int .i64 (sizA wide 1 : Nat)) ∧ Below w.heap.size w w' := by
  cases wide
  · exact pfsize big w
  · exact ptsize big w
theorem szA2 (big wide : Bool) (w : World) : Calls Try.prog 50 #[.agg #[.bool big, .bool wide]] w fun e w' => e = .returned (.int .i64 (sizA wide 2 : Nat)) ∧ Below w.heap.size w w' := by
  cases wide
  · exact yfsize big w
  · exact ytsize big w
theorem szA3 (big wide : Bool) (w : World) : Calls Try.prog 52 #[.agg #[.bool big, .bool wide], .bool true] w fun e w' => e = .returned (.int .i64 (sizA wide 3 : Nat)) ∧ Below w.heap.size w w' := rsize_any big wide true w
/-- The text so far: what a file begins with, its header, the first records. -/
def upR (big wide : Bool) (H : ByteArray) (T : Nat → ByteArray) (k : Nat) : ByteArray := ⟨(identL big wide 0 0 [] ++ (H.data.toList ++ catR T k)).toArray⟩
theorem upR_zero (big wide : Bool) (H : ByteArray) (T : Nat → ByteArray) : (ByteArray.mk (identL big wide 0 0 []).toArray) ++ H = upR big wide H T 0 := by
  unfold upR
  rw [app_mk]
  simp [catR]
theorem upR_succ (big wide : Bool) (H : ByteArray) (T : Nat → ByteArray) (k : Nat) : upR big wide H T k ++ T k = upR big wide H T (k + 1) := by
  unfold upR
  rw [app_mk]
  simp [catR]
theorem upR_size (big wide : Bool) (H : ByteArray) (T : Nat → ByteArray) (k : Nat) : (upR big wide H T k).size = 16 + H.size + (catR T k).length := by
  unfold upR
  simp only [ByteArray.size, List.size_toArray, List.length_append, identL_length]
  have : H.data.toList.length = H.data.size := by simp
  omega
theorem upR_16 (big wide : Bool) (H : ByteArray) (T : Nat → ByteArray) (m : Nat) : (upR big wide H T m).extract 16 (upR big wide H T m).size = H ++ tailR T m 0 := by
  apply ByteArray.ext
  apply Array.toList_inj.1
  rw [ext_list', tail_all]
  have e : (upR big wide H T m).data.toList = identL big wide 0 0 [] ++ (H.data.toList ++ catR T m) := rfl
  rw [e, ← identL_length big wide 0 0 [], List.drop_left]
  simp
theorem upR_cut (big wide : Bool) (H : ByteArray) (T : Nat → ByteArray) (m n : Nat) (hn : H.size = n) : (upR big wide H T m).extract (16 + n) (upR big wide H T m).size = tailR T m 0 := by
  rw [← ext_ext', upR_16]
  exact cut_head _ _ _ hn
theorem read_upR (big wide : Bool) (H : ByteArray) (T : Nat → ByteArray) (m : Nat) (hl : H.size + (catR T m).length ≤ 2000) (w : World) :
    Calls Try.prog 41 #[.string (upR big wide H T m)] w fun e w' => e = .returned (.tuple #[.agg #[.bool big, .bool wide, .int .u8 0, .int .u8 0, .string ⟨#[0, 0, 0, 0, 0, 0, 0]⟩], .int .i64 0]) ∧ Below w.heap.size w w' :=
  read_top big wide _ (by
    rw [List.length_append]
    have : H.data.toList.length = H.size := by simp
    omega) w
end Go.Proofs.Ytnmklmaclmjfbaa
