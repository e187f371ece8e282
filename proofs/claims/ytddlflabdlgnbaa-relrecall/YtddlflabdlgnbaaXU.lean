/- What comes in: relocations, a slice of structs of four numbers. Conditions: those written in each theorem. -/
import Derived.Test.YtddlflabdlgnbaaXT
import Derived.Test.YtddlflabdlgnbaaON
import Derived.Deep.Slices
namespace Go.Proofs.Ytddlflabdlgnbaa
open Go.RowKit Go.WideShapes Go.ChangeShapes Go.ChangeAt Go.Deep
theorem rls_row {w : World} {a : Addr} {len : Nat} {R : Nat → Rl} (h : ∀ i, i < len → ∀ j, j < 4 → w.cell? ((a.add (i * 4)).add j) = (cellsR (R i))[j]?) : RowR w (some a) len R := fun i hi => by
  have hc0 : w.cell? ((a.add (i * 4)).add 0) = some (.int .u64 ((R i).off : Nat)) := h i hi 0 (by omega)
  obtain ⟨b, off, spot⟩ := a
  have hspot : spot = none := by
    have := World.cell?_spot (show w.cell? (((⟨b, off, spot⟩ : Addr).add (0 * 4)).add 0) = some (.int .u64 ((R 0).off : Nat)) from h 0 (by omega) 0 (by omega))
    simpa [Addr.add] using this
  subst hspot
  have e : ∀ j, ((⟨b, off, none⟩ : Addr).add (i * 4)).add j = ⟨b, off + i * 4 + j, none⟩ := fun j => by rw [add_plain, add_plain]
  have hb : b < w.heap.size := by
    rcases Nat.lt_or_ge b w.heap.size with h3 | h3
    · exact h3
    · rw [e 0] at hc0
      simp [World.cell?, Array.getElem?_eq_none h3] at hc0
  refine ⟨b, off, rfl, hb, ?_, ?_, ?_, ?_⟩
  · have := h i hi 0 (by omega); rw [e 0] at this; exact this
  · have := h i hi 1 (by omega); rw [e 1] at this; exact this
  · have := h i hi 2 (by omega); rw [e 2] at this; exact this
  · have := h i hi 3 (by omega); rw [e 3] at this; exact this
section
variable {H : Type} {enc : TypeId × Value → H} {P : Program} {w : World} {base : Nat} {spare : Nat → Bool} {held : Bool}
theorem open_rl {e u : TypeId} {fs : Array Field} (he : P.underlying e = some (.struct fs)) (hone : oneCellFields P fs = true) (hu : P.underlying u = some (.int .u64)) (hall : fs.all (fun f => f.type == u) = true) (h4 : fs.size = 4)
    {n : Nat} {cs : List Value} {x : DataW H × List MemPlace} (hcl : cs.length = 4) (h : DataW.trod enc P w base spare held n e cs = some x) : ∃ r : Rl, cs = cellsR r ∧ r.off < 2 ^ 64 ∧ r.add < 2 ^ 64 := by
  obtain ⟨xs, k, _, _, _, _, hg⟩ := DataW.trod_struct he h
  have key : ∀ j, j < 4 → ∃ m : Nat, cs[j]? = some (.int .u64 (m : Nat)) ∧ m < 2 ^ 64 := fun j hj => by
    have hjf : j < fs.size := by omega
    have hfj : fs[j]? = some fs[j] := Array.getElem?_eq_getElem hjf
    obtain ⟨ho, hk⟩ := hone_of hone j _ hfj
    have hgj := hg j _ hfj
    rw [ho, hk] at hgj
    have hut : P.underlying fs[j].type = some (.int .u64) := by
      have := (Array.all_eq_true.1 hall) j hjf
      simp only [beq_iff_eq] at this
      rw [this]; exact hu
    have e2 : (List.take 1 (List.drop j cs)) = [cs[j]'(by omega)] := by
      rw [List.drop_eq_getElem_cons (by omega)]
      rfl
    rw [e2] at hgj
    cases hx : xs[j]? with
    | none =>
      rw [hx] at hgj
      have h5 := List.getElem?_eq_none_iff.1 hx
      omega
    | some y =>
      rw [hx] at hgj
      obtain ⟨m, e1, _, hw⟩ := DataW.trod_int hut hgj
      have hb := bounds_u64 hw
      refine ⟨m.toNat, ?_, by omega⟩
      simp only [List.cons.injEq, and_true] at e1
      rw [List.getElem?_eq_getElem (by omega), e1]
      congr 2
      omega
  obtain ⟨c0, c1, c2, c3, rfl⟩ : ∃ c0 c1 c2 c3, cs = [c0, c1, c2, c3] := by
    match cs, hcl with
    | [c0, c1, c2, c3], _ => exact ⟨c0, c1, c2, c3, rfl⟩
  obtain ⟨m0, e0, l0⟩ := key 0 (by omega)
  obtain ⟨m1, e1, _⟩ := key 1 (by omega)
  obtain ⟨m2, e2, _⟩ := key 2 (by omega)
  obtain ⟨m3, e3, l3⟩ := key 3 (by omega)
  refine ⟨⟨m0, m1, m2, m3⟩, ?_, l0, l3⟩
  simp at e0 e1 e2 e3
  simp [cellsR, e0, e1, e2, e3]
theorem open_rls {t e u : TypeId} {fs : Array Field} (ht : P.underlying t = some (.slice e)) (he : P.underlying e = some (.struct fs)) (hone : oneCellFields P fs = true) (hu : P.underlying u = some (.int .u64)) (hall : fs.all (fun f => f.type == u) = true) (h4 : fs.size = 4) (hC : P.cellsOf e = 4)
    {fuel : Nat} {cs : List Value} {x : DataW H × List MemPlace} (h : DataW.trod enc P w base spare held fuel t cs = some x) :
    cs = [.slice none 0 0] ∨ ∃ (a : Addr) (len cap : Nat) (R : Nat → Rl), cs = [.slice (some a) len cap] ∧ len ≤ maxLen ∧ RowR w (some a) len R ∧ ∀ i, i < len → (R i).off < 2 ^ 64 ∧ (R i).add < 2 ^ 64 := by
  rcases Go.Deep.open_slice ht h with ⟨h0, _⟩ | ⟨a, len, cap, m, n, D, Pl, hcs, _, hl, hm, hmm, _, hi⟩
  · exact .inl h0
  · have hlm : len ≤ m := by rw [hmm]; split <;> omega
    have each : ∀ i, i < len → ∃ r : Rl, (∀ j, j < 4 → w.cell? ((a.add (i * 4)).add j) = (cellsR r)[j]?) ∧ r.off < 2 ^ 64 ∧ r.add < 2 ^ 64 := fun i hil => by
      obtain ⟨cs', hc, ht'⟩ := hi i (by omega)
      rw [hC] at hc
      obtain ⟨_, hcl, hat⟩ := World.cells?_some hc
      obtain ⟨r, rfl, h1, h2⟩ := open_rl he hone hu hall h4 hcl ht'
      exact ⟨r, fun j hj => hat j hj, h1, h2⟩
    refine .inr ⟨a, len, cap, fun i => if h : i < len then Classical.choose (each i h) else ⟨0, 0, 0, 0⟩, hcs, by omega, rls_row (fun i hi j hj => ?_), fun i hi => ?_⟩
    · rw [dif_pos hi]; exact (Classical.choose_spec (each i hi)).1 j hj
    · simp only [dif_pos hi]; exact (Classical.choose_spec (each i hi)).2
end
theorem rall_law (fl : Int) (A : Option Addr) (len cap : Nat) (R : Nat → Rl) (s : ByteArray) (hlc : len ≤ 9223372036854775807) (hn : ∀ i, i < len → (R i).off < 2 ^ 64 ∧ (R i).add < 2 ^ 64) (w : World) (hR : RowR w A len R) :
    Calls Try.prog 9 #[.int .i64 fl, .slice A len cap, .string s] w fun e w' => e = .returned (.bool true) ∧ Below w.heap.size w w' := by
  have hex : ∀ i, ∃ x : ByteArray × Bool, PutR (bits BinOp.and IntKind.i64 fl 1 == 1) (bits BinOp.and IntKind.i64 fl 2 == 2) (bits BinOp.and IntKind.i64 fl 4 == 4) (R i) x.1 x.2 := fun i => by
    obtain ⟨S, ok, h⟩ := putIs_exists (bits BinOp.and IntKind.i64 fl 1 == 1) (bits BinOp.and IntKind.i64 fl 2 == 2) (bits BinOp.and IntKind.i64 fl 4 == 4) (R i).off (R i).sym (R i).ty (R i).add
    exact ⟨(S, ok), h⟩
  exact rall_t fl A len cap (min len 10) R s (min s.size 100) (by omega) hlc (by omega) hn _ _ _ rfl rfl rfl (fun i => (Classical.choose (hex i)).1) (fun i => (Classical.choose (hex i)).2) (fun i => Classical.choose_spec (hex i)) w hR
end Go.Proofs.Ytddlflabdlgnbaa
