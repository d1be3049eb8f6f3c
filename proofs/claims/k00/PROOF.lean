import PyProof.Rows.All
import Wide.All
import OpenK.AllK
import Wide.FinOn
import PySem.Challenge.RW_gatewords_k00_errors_of_all_parts
import HandS.ForMost
import HandS.TupAny
import HandS.IsInst
import HandS.Conv
import PyProof.ReprReads
import HandS.Walk
import KE.GoesMore
import PyProof.EnumMake
import HandS.Style
import KE.KRevSl
import HandS.Lambda
import PyProof.ReprBulk
import PyProof.ReprRoads
import HandS.SortKw
import HandS.ExcOwn
import KE.DataMinKey
import KE.SortData
import HandS.Exc
import HandS.ExcValue
import HandS.WordsExc
import HandS.CallLocal
import HandS.ExcIs
import KE.KExcSuper
import KE.KExcIs
import HandS.ExcInit
import HandS.TupMul
import PyProof.RowDictHeap
import PyProof.InstEq
import HandS.DictComp
import HandS.EndOwn
set_option Elab.async false
set_option linter.all false
set_option maxRecDepth 100000
set_option maxHeartbeats 4000000
namespace Gw
open PySem PySem.Spec PyProof.Rows L2

/-! ### views: G is the part of the heap that never changes -/
structure Nx (G H G' H' : Hp) : Prop where
  gg : Same G G'
  gh : Same G' H'
  hh : Same H H'
  fr : ∀ a, H a ≠ none → G' a = G a
theorem ne_none {H : Hp} {a : Addr} {o : HO} (h : H a = some o) : H a ≠ none := by rw [h]; exact fun z => nomatch z
theorem same_none {H H' : Hp} (e : Same H H') {a : Addr} (h : H a ≠ none) : H' a ≠ none := by
  cases q : H a with
  | none => exact absurd q h
  | some o => exact ne_none (e a o q)
theorem Nx.refl {G H : Hp} (h : Same G H) : Nx G H G H := ⟨Same.refl G, h, Same.refl H, fun _ _ => rfl⟩
theorem Nx.trans {G H G1 H1 G2 H2 : Hp} (a : Nx G H G1 H1) (b : Nx G1 H1 G2 H2) : Nx G H G2 H2 :=
  ⟨a.gg.trans b.gg, b.gh, a.hh.trans b.hh, fun x h => (b.fr x (same_none a.hh h)).trans (a.fr x h)⟩
theorem Nx.new {G H : Hp} {p : Addr} {o : HO} (h : Same G H) (hp : H p = none) : Nx G H (upd G p o) (upd H p o) := by
  have gp : G p = none := h.free hp
  refine ⟨fun b u e => ?_, fun b u e => ?_, fun b u e => ?_, fun b hb => ?_⟩
  · rw [upd_ne (ne_of_none e gp)]; exact e
  · by_cases hb : b = p
    · subst hb; rw [upd_same] at e ⊢; exact e
    · rw [upd_ne hb] at e ⊢; exact h b u e
  · rw [upd_ne (ne_of_none e hp)]; exact e
  · by_cases hq : b = p
    · subst hq; exact absurd hp hb
    · rw [upd_ne hq]
/-- a new object that is not told to the view -/
theorem Nx.lay {G H : Hp} {p : Addr} {o : HO} (h : Same G H) (hp : H p = none) : Nx G H G (upd H p o) :=
  ⟨Same.refl G, fun b u e => by rw [upd_ne (ne_of_none (h b u e) hp)]; exact h b u e, fun b u e => by rw [upd_ne (ne_of_none e hp)]; exact e, fun _ _ => rfl⟩
theorem same_tup {K : PySem.W.Frag} {H H' : Hp} {a : Addr} {xs : List V} (e : Same H H') (h : SqT K H a xs) : SqT K H' a xs := by
  rcases h with (h | ⟨o, h⟩) | h
  · exact .inl (.inl (e _ _ h))
  · exact .inl (.inr ⟨o, e _ _ h⟩)
  · exact .inr h

/-! ### data in a view -/
mutual
theorem dp_mono {K : PySem.W.Frag} {H H' : Hp} (e : Same H H') : ∀ (d : PyData) {v : V}, Dp K H v d → Dp K H' v d
  | .none, _, .non => .non
  | .bool b, _, .bl _ => .bl b
  | .int i, _, .int _ => .int i
  | .str x, _, .str _ => .str x
  | .list ds, _, .lst hs ha => .lst (e.seq hs) (dpa_mono e ds ha)
  | .tuple ds, _, .tup hs ha => .tup (same_tup e hs) (dpa_mono e ds ha)
theorem dpa_mono {K : PySem.W.Frag} {H H' : Hp} (e : Same H H') : ∀ (ds : List PyData) {vs : List V}, DpAll K H vs ds → DpAll K H' vs ds
  | [], _, .nil => .nil
  | d :: ds, _, .cons h t => .cons (dp_mono e d h) (dpa_mono e ds t)
end
theorem dpa_length {K : PySem.W.Frag} {H : Hp} : ∀ {vs : List V} {ds : List PyData}, DpAll K H vs ds → vs.length = ds.length
  | _, _, .nil => rfl
  | _, _, .cons _ t => by rw [List.length_cons, List.length_cons, dpa_length t]
theorem dpa_get {K : PySem.W.Frag} {H : Hp} : ∀ {vs : List V} {ds : List PyData} {i : Nat} {v : V}, DpAll K H vs ds → vs[i]? = some v → ∃ d, ds[i]? = some d ∧ Dp K H v d
  | _, _, _, _, .nil, e => by simp at e
  | _, _, 0, _, .cons r _, e => by simp at e; subst e; exact ⟨_, rfl, r⟩
  | _, _, i + 1, _, .cons _ t, e => by
    obtain ⟨u, h1, h2⟩ := dpa_get (i := i) t (by simpa using e)
    exact ⟨u, by simpa using h1, h2⟩
theorem dpa_at {K : PySem.W.Frag} {H : Hp} : ∀ {vs : List V} {ds : List PyData} {i : Nat} {d : PyData}, DpAll K H vs ds → ds[i]? = some d → ∃ v, vs[i]? = some v ∧ Dp K H v d
  | _, _, _, _, .nil, e => by simp at e
  | _, _, 0, _, .cons r _, e => by simp at e; subst e; exact ⟨_, rfl, r⟩
  | _, _, i + 1, _, .cons _ t, e => by
    obtain ⟨u, h1, h2⟩ := dpa_at (i := i) t (by simpa using e)
    exact ⟨u, by simpa using h1, h2⟩
theorem dpa_append {K : PySem.W.Frag} {H : Hp} : ∀ {vs ws : List V} {ds es : List PyData}, DpAll K H vs ds → DpAll K H ws es → DpAll K H (vs ++ ws) (ds ++ es)
  | _, _, _, _, .nil, h => h
  | _, _, _, _, .cons r t, h => .cons r (dpa_append t h)
theorem dpa_take {K : PySem.W.Frag} {H : Hp} : ∀ {vs : List V} {ds : List PyData} (n : Nat), DpAll K H vs ds → DpAll K H (vs.take n) (ds.take n)
  | _, _, 0, _ => .nil
  | _, _, _ + 1, .nil => .nil
  | _, _, n + 1, .cons r t => .cons r (dpa_take n t)
theorem dpa_drop {K : PySem.W.Frag} {H : Hp} : ∀ {vs : List V} {ds : List PyData} (n : Nat), DpAll K H vs ds → DpAll K H (vs.drop n) (ds.drop n)
  | _, _, 0, r => r
  | _, _, _ + 1, .nil => .nil
  | _, _, n + 1, .cons _ t => dpa_drop n t
theorem dpa_reverse {K : PySem.W.Frag} {H : Hp} : ∀ {vs : List V} {ds : List PyData}, DpAll K H vs ds → DpAll K H vs.reverse ds.reverse
  | _, _, .nil => .nil
  | _, _, .cons r t => by rw [List.reverse_cons, List.reverse_cons]; exact dpa_append (dpa_reverse t) (.cons r .nil)
theorem dpa_ints {K : PySem.W.Frag} {H : Hp} : ∀ ns : List Int, DpAll K H (ns.map V.int) (ns.map PyData.int)
  | [] => .nil
  | n :: ns => .cons (.int n) (dpa_ints ns)
theorem dp_int {K : PySem.W.Frag} {H : Hp} {v : V} {i : Int} (h : Dp K H v (.int i)) : v = .int i := by cases h; rfl
theorem dp_bl {K : PySem.W.Frag} {H : Hp} {v : V} {i : Bool} (h : Dp K H v (.bool i)) : v = .bl i := by cases h; rfl
theorem dp_non {K : PySem.W.Frag} {H : Hp} {v : V} (h : Dp K H v .none) : v = .non := by cases h; rfl
theorem dp_str {K : PySem.W.Frag} {H : Hp} {v : V} {i : Str} (h : Dp K H v (.str i)) : v = .str i := by cases h; rfl
theorem dpa_ints_inv {K : PySem.W.Frag} {H : Hp} : ∀ {vs : List V} {ns : List Int}, DpAll K H vs (ns.map PyData.int) → vs = ns.map V.int
  | [], [], _ => rfl
  | [], _ :: _, h => nomatch h
  | _ :: _, [], h => nomatch h
  | v :: vs, n :: ns, .cons h t => by rw [dp_int h, dpa_ints_inv t]; rfl
theorem dp_ints_l {K : PySem.W.Frag} {H : Hp} {v : V} {ns : List Int} (h : Dp K H v (.list (ns.map .int))) : ∃ a, v = .ref a ∧ SqL K H a (ns.map V.int) := by
  cases h with
  | lst hs ha => rw [dpa_ints_inv ha] at hs; exact ⟨_, rfl, hs⟩
theorem dp_ints_t {K : PySem.W.Frag} {H : Hp} {v : V} {ns : List Int} (h : Dp K H v (.tuple (ns.map .int))) : ∃ a, v = .ref a ∧ SqT K H a (ns.map V.int) := by
  cases h with
  | tup hs ha => rw [dpa_ints_inv ha] at hs; exact ⟨_, rfl, hs⟩

/-! ### what an expression evaluates to, whatever else stands in the heap -/
def EvD (K : PySem.W.Frag) (te : TE) (σ : L2.St) (G : Hp) (d : PyData) : Prop := ∀ H, Same G H → ∀ Q : VK, (∀ v G' H', Nx G H G' H' → Dp K G' v d → Q v H') → te σ H Q
def EvA (K : PySem.W.Frag) (ta : TA) (σ : L2.St) (G : Hp) (ds : List PyData) : Prop := ∀ H, Same G H → ∀ Q : List V → Hp → Prop, (∀ vs G' H', Nx G H G' H' → DpAll K G' vs ds → Q vs H') → ta σ H Q
def EvB (K : PySem.W.Frag) (tt : TT) (σ : L2.St) (G : Hp) (b : Bool) : Prop := ∀ H, Same G H → ∀ Q : Bool → Hp → Prop, (∀ G' H', Nx G H G' H' → Q b H') → tt σ H Q
def RtD (K : PySem.W.Frag) (ts : TS) (σ : L2.St) (G : Hp) (d : PyData) : Prop := ∀ H, Same G H → ∀ D : Ends, (∀ v G' H', Nx G H G' H' → Dp K G' v d → D.rt v H') → ts D σ H
/-- a greater view over the same heap -/
theorem Nx.over {G G1 H G' H' : Hp} (g : Same G G1) (h : Same G1 H) (n : Nx G H G' H') : ∃ G2, Nx G1 H G2 H' ∧ Same G' G2 := by
  refine ⟨fun a => match H a with | none => G' a | some _ => G1 a, ⟨fun a o e => ?_, fun a o e => ?_, n.hh, fun a e => ?_⟩, fun a o e => ?_⟩
  · have : H a = some o := h a o e
    simp only [this]; exact e
  · cases q : H a with
    | none => simp only [q] at e; exact n.gh a o e
    | some u =>
      simp only [q] at e
      exact n.hh a o (h a o e)
  · cases q : H a with
    | none => exact absurd q e
    | some u => rfl
  · cases q : H a with
    | none => simp only [q]; exact e
    | some u =>
      simp only [q]
      rw [n.fr a (ne_none q)] at e
      exact g a o e
section
variable {K : PySem.W.Frag} {σ : L2.St} {G G1 : Hp} {te ta tb : TE} {tt tu : TT} {tA tR : TA} {d e x y z : PyData} {ds es : List PyData} {t u : TS}
theorem EvD.mono (h : EvD K te σ G d) (g : Same G G1) : EvD K te σ G1 d := fun H s Q q => h H (g.trans s) Q fun v G' H' n hd => by
  obtain ⟨G2, n2, s2⟩ := n.over g s
  exact q v G2 H' n2 (dp_mono s2 d hd)
theorem EvA.mono (h : EvA K tA σ G ds) (g : Same G G1) : EvA K tA σ G1 ds := fun H s Q q => h H (g.trans s) Q fun v G' H' n hd => by
  obtain ⟨G2, n2, s2⟩ := n.over g s
  exact q v G2 H' n2 (dpa_mono s2 ds hd)
theorem EvB.mono {b : Bool} (h : EvB K tt σ G b) (g : Same G G1) : EvB K tt σ G1 b := fun H s Q q => h H (g.trans s) Q fun G' H' n => by
  obtain ⟨G2, n2, s2⟩ := n.over g s
  exact q G2 H' n2
theorem RtD.mono (h : RtD K t σ G d) (g : Same G G1) : RtD K t σ G1 d := fun H s D q => h H (g.trans s) D fun v G' H' n hd => by
  obtain ⟨G2, n2, s2⟩ := n.over g s
  exact q v G2 H' n2 (dp_mono s2 d hd)
theorem EvD.cast (h : EvD K te σ G d) (e : d = z) : EvD K te σ G z := e ▸ h
theorem EvB.cast {b c : Bool} (h : EvB K tt σ G b) (e : b = c) : EvB K tt σ G c := e ▸ h
theorem RtD.cast (h : RtD K t σ G d) (e : d = z) : RtD K t σ G z := e ▸ h

theorem ed_var {i : Nat} {v : V} (h : σ[i]? = some (some v)) (hd : Dp K G v d) : EvD K (tVar i) σ G d := fun H s _ q => ⟨v, h, q v G H (Nx.refl s) hd⟩
theorem ed_c {v : V} (hd : Dp K G v d) : EvD K (tC v) σ G d := fun H s _ q => q v G H (Nx.refl s) hd
theorem ed_int {i : Int} : EvD K (tC (.int i)) σ G (.int i) := ed_c (.int i)
theorem ed_bl {i : Bool} : EvD K (tC (.bl i)) σ G (.bool i) := ed_c (.bl i)
theorem ed_str {i : Str} : EvD K (tC (.str i)) σ G (.str i) := ed_c (.str i)
theorem ed_non : EvD K (tC .non) σ G .none := ed_c .non

/-- an operation on two data -/
def ROp (K : PySem.W.Frag) (r : R2) (x y z : PyData) : Prop := ∀ G H, Same G H → ∀ vx vy, Dp K G vx x → Dp K G vy y → ∀ Q : VK, (∀ v G' H', Nx G H G' H' → Dp K G' v z → Q v H') → r vx vy H Q
theorem ed_op {r : R2} (ha : EvD K ta σ G x) (hb : EvD K tb σ G y) (hr : ROp K r x y z) : EvD K (tOp r ta tb) σ G z := fun H s Q q =>
  ha H s _ fun vx G1 H1 n1 hx => (hb.mono n1.gg) H1 n1.gh _ fun vy G2 H2 n2 hy => hr G2 H2 n2.gh vx vy (dp_mono n2.gg x hx) hy Q fun v G3 H3 n3 hd => q v G3 H3 ((n1.trans n2).trans n3) hd
theorem ro_I0 {g : Int → Int → V} {i j : Int} (hz : ∀ G, Dp K G (g i j) z) : ROp K (rI0 g) (.int i) (.int j) z := fun G H s vx vy hx hy Q q => by
  rw [dp_int hx, dp_int hy]
  exact ⟨i, j, rfl, rfl, q _ G H (Nx.refl s) (hz G)⟩
theorem ro_I {C : Int → Int → Prop} {g : Int → Int → V} {i j : Int} (hc : C i j) (hz : ∀ G, Dp K G (g i j) z) : ROp K (rI C g) (.int i) (.int j) z := fun G H s vx vy hx hy Q q => by
  rw [dp_int hx, dp_int hy]
  exact ⟨i, j, rfl, rfl, hc, q _ G H (Nx.refl s) (hz G)⟩
theorem ro_i {f : Int → Int → Int} {i j : Int} : ROp K (rI0 fun i j => .int (f i j)) (.int i) (.int j) (.int (f i j)) := ro_I0 fun _ => .int _
theorem ro_b {f : Int → Int → Bool} {i j : Int} : ROp K (rI0 fun i j => .bl (f i j)) (.int i) (.int j) (.bool (f i j)) := ro_I0 fun _ => .bl _
theorem ro_ic {C : Int → Int → Prop} {f : Int → Int → Int} {i j : Int} (hc : C i j) : ROp K (rI C fun i j => .int (f i j)) (.int i) (.int j) (.int (f i j)) := ro_I hc fun _ => .int _
theorem ro_eqI {i j : Int} : ROp K rEq (.int i) (.int j) (.bool (decide (i = j))) := fun G H s vx vy hx hy Q q => by
  rw [dp_int hx, dp_int hy]
  refine ⟨rfl, ?_⟩
  have e : decide (V.int i = V.int j) = decide (i = j) := by simp
  rw [e]
  exact q _ G H (Nx.refl s) (.bl _)
theorem ro_neI {i j : Int} : ROp K rNe (.int i) (.int j) (.bool (!decide (i = j))) := fun G H s vx vy hx hy Q q => by
  rw [dp_int hx, dp_int hy]
  refine ⟨rfl, ?_⟩
  have e : decide (V.int i = V.int j) = decide (i = j) := by simp
  rw [e]
  exact q _ G H (Nx.refl s) (.bl _)
theorem ro_eqD (hx : SeqAt.shaped x = true) (hy : SeqAt.shaped y = true) : ROp K (rEqD K) x y (.bool (PyData.eqv x y)) := fun G H s vx vy dx dy Q q =>
  ⟨x, y, dp_mono s x dx, dp_mono s y dy, hx, hy, q _ G H (Nx.refl s) (.bl _)⟩
theorem ro_neD (hx : SeqAt.shaped x = true) (hy : SeqAt.shaped y = true) : ROp K (rNeD K) x y (.bool (!PyData.eqv x y)) := fun G H s vx vy dx dy Q q =>
  ⟨x, y, dp_mono s x dx, dp_mono s y dy, hx, hy, q _ G H (Nx.refl s) (.bl _)⟩
/-- s[i] -/
theorem ro_ixL {i : Int} {k : Nat} (hi : i = (k : Int)) (hk : ds[k]? = some z) : ROp K (rIxL K) (.list ds) (.int i) z := fun G H s vx vy dx dy Q q => by
  cases dx with
  | lst hs ha =>
    obtain ⟨v, h1, h2⟩ := dpa_at ha hk
    rw [dp_int dy]
    exact ⟨_, _, i, v, rfl, rfl, s.seq hs, by rw [hi]; exact atI_nat h1, q v G H (Nx.refl s) h2⟩
theorem ro_ixT {i : Int} {k : Nat} (hi : i = (k : Int)) (hk : ds[k]? = some z) : ROp K (rIxT K) (.tuple ds) (.int i) z := fun G H s vx vy dx dy Q q => by
  cases dx with
  | tup hs ha =>
    obtain ⟨v, h1, h2⟩ := dpa_at ha hk
    rw [dp_int dy]
    exact ⟨_, _, i, v, rfl, rfl, same_tup s hs, by rw [hi]; exact atI_nat h1, q v G H (Nx.refl s) h2⟩
/-- t + u -/
theorem ro_cat (hz : ds.length + es.length ≤ sizeLine) : ROp K (rCatA K) (.tuple ds) (.tuple es) (.tuple (ds ++ es)) := fun G H s vx vy dx dy Q q => by
  cases dx with
  | @tup a xs _ hs ha =>
    cases dy with
    | @tup b ys _ hs' hb =>
      have l1 := dpa_length ha
      have l2 := dpa_length hb
      refine ⟨a, b, xs, ys, rfl, rfl, same_tup s hs, same_tup s hs', by omega, fun e => ?_, fun _ e => ?_, fun _ _ p hp => ?_⟩
      · subst e; cases ha; exact q _ G H (Nx.refl s) (.tup hs' hb)
      · subst e; cases hb; rw [List.append_nil] at q; exact q _ G H (Nx.refl s) (.tup hs ha)
      · have n := Nx.new (o := .tup (xs ++ ys)) s hp
        exact q _ _ _ n (.tup (SqT.of upd_same) (dpa_append (dpa_mono n.gg _ ha) (dpa_mono n.gg _ hb)))

/-! ### arguments, displays -/
theorem ea_nil : EvA K tNil σ G [] := fun H s _ q => q [] G H (Nx.refl s) .nil
theorem ea_cons (h : EvD K te σ G d) (hr : EvA K tR σ G ds) : EvA K (tCons te tR) σ G (d :: ds) := fun H s Q q =>
  h H s _ fun v G1 H1 n1 hv => (hr.mono n1.gg) H1 n1.gh _ fun vs G2 H2 n2 hvs => q (v :: vs) G2 H2 (n1.trans n2) (.cons (dp_mono n2.gg d hv) hvs)
theorem ed_tup (h : EvA K tA σ G ds) (hz : ds.length ≤ sizeLine) : EvD K (tTup tA) σ G (.tuple ds) := fun H s Q q =>
  h H s _ fun vs G1 H1 n1 hv => ⟨by rw [dpa_length hv]; exact hz, fun p hp => by
    have n := Nx.new (o := .tup vs) n1.gh hp
    exact q _ _ _ (n1.trans n) (.tup (SqT.of upd_same) (dpa_mono n.gg _ hv))⟩
theorem ed_lst (h : EvA K tA σ G ds) (hz : ds.length ≤ sizeLine) : EvD K (tLst tA) σ G (.list ds) := fun H s Q q =>
  h H s _ fun vs G1 H1 n1 hv => ⟨by rw [dpa_length hv]; exact hz, fun p hp => by
    have n := Nx.new (o := .lst vs) n1.gh hp
    exact q _ _ _ (n1.trans n) (.lst (SqL.of upd_same) (dpa_mono n.gg _ hv))⟩

/-! ### calls of built-ins and of defs -/
def RCl (K : PySem.W.Frag) (r : List V → Hp → VK → Prop) (ds : List PyData) (z : PyData) : Prop := ∀ G H, Same G H → ∀ vs, DpAll K G vs ds → ∀ Q : VK, (∀ v G' H', Nx G H G' H' → Dp K G' v z → Q v H') → r vs H Q
theorem ed_cb {r : List V → Hp → VK → Prop} (ha : EvA K tA σ G ds) (hr : RCl K r ds z) : EvD K (tCB r tA) σ G z := fun H s Q q =>
  ha H s _ fun vs G1 H1 n1 hv => hr G1 H1 n1.gh vs hv Q fun v G2 H2 n2 hd => q v G2 H2 (n1.trans n2) hd
/-- a def's promise by data: R says of which arguments it hands back what -/
def SpD (K : PySem.W.Frag) (R : List PyData → PyData → Prop) : Sp := fun vs H Q _ => ∃ G ds d, Same G H ∧ DpAll K G vs ds ∧ R ds d ∧ ∀ v G' H', Nx G H G' H' → Dp K G' v d → Q v H'
theorem ed_call {R : List PyData → PyData → Prop} {E : XK} (ha : EvA K tA σ G ds) (hr : R ds z) : EvD K (tCall (SpD K R) [] E tA) σ G z := fun H s Q q =>
  ha H s _ fun vs G1 H1 n1 hv => ⟨G1, ds, z, n1.gh, by rw [List.append_nil]; exact hv, hr, fun v G2 H2 n2 hd => q v G2 H2 (n1.trans n2) hd⟩
/-- by keywords: the values in the order of the call, put in that of the parameters -/
theorem ed_callK {R : List PyData → PyData → Prop} {E : XK} {tk : TA} {gV : List V → List V → List V} {gd : List PyData} (ha : EvA K tA σ G ds) (hk : EvA K tk σ G es)
    (hg : ∀ G' vs zs, DpAll K G' vs ds → DpAll K G' zs es → DpAll K G' (gV vs zs) gd) (hr : R gd z) : EvD K (tCallK (SpD K R) gV E tA tk) σ G z := fun H s Q q =>
  ha H s _ fun vs G1 H1 n1 hv => (hk.mono n1.gg) H1 n1.gh _ fun zs G2 H2 n2 hz => ⟨G2, gd, z, n2.gh, hg G2 vs zs (dpa_mono n2.gg _ hv) hz, hr, fun v G3 H3 n3 hd => q v G3 H3 ((n1.trans n2).trans n3) hd⟩

/-! ### tests -/
theorem eb_test {b : Bool} (h : EvD K te σ G (.bool b)) : EvB K (tTest te) σ G b := fun H s Q q => h H s _ fun v G1 H1 n1 hv => ⟨b, dp_bl hv, q G1 H1 n1⟩
theorem eb_B {b : Bool} (h : EvD K te σ G (.bool b)) : EvB K (tB te) σ G b := fun H s Q q => h H s _ fun v G1 H1 n1 hv => ⟨b, dp_bl hv, q G1 H1 n1⟩
theorem eb_not {b : Bool} (h : EvB K tt σ G b) : EvB K (tNot tt) σ G (!b) := fun H s Q q => h H s _ fun G1 H1 n1 => q G1 H1 n1
theorem eb_and {a b : Bool} (h1 : EvB K tt σ G a) (h2 : a = true → EvB K tu σ G b) : EvB K (tAnd tt tu) σ G (a && b) := fun H s Q q => h1 H s _ fun G1 H1 n1 => by
  cases a with
  | true => exact (show tu σ H1 Q from ((h2 rfl).mono n1.gg) H1 n1.gh Q fun G2 H2 n2 => q G2 H2 (n1.trans n2))
  | false => exact (show Q false H1 from q G1 H1 n1)
theorem eb_or {a b : Bool} (h1 : EvB K tt σ G a) (h2 : a = false → EvB K tu σ G b) : EvB K (tOr tt tu) σ G (a || b) := fun H s Q q => h1 H s _ fun G1 H1 n1 => by
  cases a with
  | true => exact (show Q true H1 from q G1 H1 n1)
  | false => exact (show tu σ H1 Q from ((h2 rfl).mono n1.gg) H1 n1.gh Q fun G2 H2 n2 => q G2 H2 (n1.trans n2))
theorem ed_and {a b : Bool} (h1 : EvD K ta σ G (.bool a)) (h2 : a = true → EvD K tb σ G (.bool b)) : EvD K (tAndV ta tb) σ G (.bool (a && b)) := fun H s Q q => h1 H s _ fun v G1 H1 n1 hv => ⟨a, dp_bl hv, by
  cases a with
  | true => exact (show tb σ H1 Q from ((h2 rfl).mono n1.gg) H1 n1.gh Q fun v2 G2 H2 n2 hd => q v2 G2 H2 (n1.trans n2) hd)
  | false => exact (show Q (.bl false) H1 from q _ G1 H1 n1 (.bl _))⟩
theorem ed_or {a b : Bool} (h1 : EvD K ta σ G (.bool a)) (h2 : a = false → EvD K tb σ G (.bool b)) : EvD K (tOrV ta tb) σ G (.bool (a || b)) := fun H s Q q => h1 H s _ fun v G1 H1 n1 hv => ⟨a, dp_bl hv, by
  cases a with
  | true => exact (show Q (.bl true) H1 from q _ G1 H1 n1 (.bl _))
  | false => exact (show tb σ H1 Q from ((h2 rfl).mono n1.gg) H1 n1.gh Q fun v2 G2 H2 n2 hd => q v2 G2 H2 (n1.trans n2) hd)⟩
theorem ed_not {a : Bool} (h1 : EvD K ta σ G (.bool a)) : EvD K (tNotV ta) σ G (.bool (!a)) := fun H s Q q => h1 H s _ fun v G1 H1 n1 hv => ⟨a, dp_bl hv, q _ G1 H1 n1 (.bl _)⟩
theorem ed_if {b : Bool} (h : EvB K tt σ G b) (h1 : b = true → EvD K ta σ G d) (h2 : b = false → EvD K tb σ G d) : EvD K (tIf tt ta tb) σ G d := fun H s Q q => h H s _ fun G1 H1 n1 => by
  cases b with
  | true => exact (show ta σ H1 Q from ((h1 rfl).mono n1.gg) H1 n1.gh Q fun v2 G2 H2 n2 hd => q v2 G2 H2 (n1.trans n2) hd)
  | false => exact (show tb σ H1 Q from ((h2 rfl).mono n1.gg) H1 n1.gh Q fun v2 G2 H2 n2 hd => q v2 G2 H2 (n1.trans n2) hd)
/-- a < b < c, of ints -/
theorem ed_chain {r r' : R2} {tc : TE} {b c : Bool} (ha : EvD K ta σ G x) (hb : EvD K tb σ G y) (hr : ROp K r x y (.bool b)) (hc : b = true → EvD K tc σ G z) (hr' : b = true → ROp K r' y z (.bool c)) : EvD K (tChain r r' ta tb tc) σ G (.bool (b && c)) := fun H s Q q =>
  ha H s _ fun vx G1 H1 n1 hx => (hb.mono n1.gg) H1 n1.gh _ fun vy G2 H2 n2 hy => hr G2 H2 n2.gh vx vy (dp_mono n2.gg x hx) hy _ fun v G3 H3 n3 hd => ⟨b, dp_bl hd, by
    have n13 := (n1.trans n2).trans n3
    cases b with
    | true => exact (show tc σ H3 _ from ((hc rfl).mono n13.gg) H3 n13.gh _ fun vz G4 H4 n4 hz => (hr' rfl) G4 H4 n4.gh vy vz (dp_mono (n3.gg.trans n4.gg) y hy) hz Q fun v5 G5 H5 n5 hd5 => q v5 G5 H5 ((n13.trans n4).trans n5) hd5)
    | false => exact (show Q (.bl false) H3 from q _ G3 H3 n13 (.bl _))⟩

/-! ### statements that hand back -/
theorem rd_ret (h : EvD K te σ G d) : RtD K (tRet te) σ G d := fun H s D q => h H s _ fun v G1 H1 n hd => q v G1 H1 n hd
theorem rd_if {b : Bool} (h : EvB K tt σ G b) (h1 : b = true → RtD K t σ G d) (h2 : b = false → RtD K u σ G d) : RtD K (tIfS tt t u) σ G d := fun H s D q => h H s _ fun G1 H1 n1 => by
  cases b with
  | true => exact (show t D σ H1 from ((h1 rfl).mono n1.gg) H1 n1.gh D fun v2 G2 H2 n2 hd => q v2 G2 H2 (n1.trans n2) hd)
  | false => exact (show u D σ H1 from ((h2 rfl).mono n1.gg) H1 n1.gh D fun v2 G2 H2 n2 hd => q v2 G2 H2 (n1.trans n2) hd)
theorem rd_seqIf {b : Bool} (h : EvB K tt σ G b) (h1 : b = true → RtD K t σ G d) (h2 : b = false → RtD K u σ G d) : RtD K (tSeq (tIfS tt t tNext) u) σ G d := fun H s D q => h H s _ fun G1 H1 n1 => by
  cases b with
  | true => exact (show t { D with nx := u D } σ H1 from ((h1 rfl).mono n1.gg) H1 n1.gh { D with nx := u D } fun v2 G2 H2 n2 hd => q v2 G2 H2 (n1.trans n2) hd)
  | false => exact (show u D σ H1 from ((h2 rfl).mono n1.gg) H1 n1.gh D fun v2 G2 H2 n2 hd => q v2 G2 H2 (n1.trans n2) hd)
theorem rd_set {i : Nat} (h : EvD K te σ G e) (h1 : ∀ v G', Same G G' → Dp K G' v e → RtD K u (σ.set i (some v)) G' d) : RtD K (tSeq (tAsg te (gName i)) u) σ G d := fun H s D q => h H s _ fun v G1 H1 n1 hv =>
  h1 v G1 n1.gg hv H1 n1.gh D fun v2 G2 H2 n2 hd => q v2 G2 H2 (n1.trans n2) hd
theorem rd_drop (h : EvD K te σ G e) (h1 : RtD K u σ G d) : RtD K (tSeq (tDrop te) u) σ G d := fun H s D q => h H s _ fun v G1 H1 n1 hv =>
  (h1.mono n1.gg) H1 n1.gh D fun v2 G2 H2 n2 hd => q v2 G2 H2 (n1.trans n2) hd
/-- nothing behind the last statement: None -/
theorem rd_never (h : False) : RtD K t σ G d := h.elim
end
/-- a def whose body hands back by data -/
theorem okD {P : Program} {w : World} {K : PySem.W.Frag} {mg : Str → Option Value} {base : Heap} {x qual : Str} {st : Stmt} {f : Addr} {fd : FuncData} {N ps : List Str} {k : Nat} {R : List PyData → PyData → Prop}
    (F : Fun K x qual st f fd) (S : FnScope N ps (defScope st)) (len : ∀ ds d, R ds d → ds.length = ps.length)
    (hbody : ∀ (cdv : Value) (A : Around) (outer : List Env) (s : Shared) (H : Hp), Room k (A.deeper (envOfC qual (defScope st) s.heap.objs.size f cdv)) →
      ∃ t, PSs (cxOf CX0 P w K mg base N qual (defScope st) f cdv A outer s H E0).nox (defBody st) t ∧ ∀ G ds d vs, R ds d → DpAll K G vs ds → ∀ H, Same G H → ∀ D : Ends, (∀ v G' H', Nx G H G' H' → Dp K G' v d → D.rt v H') → (∀ σ G' H', Nx G H G' H' → d = .none → D.nx σ H') → t D (start N vs) H) : FnOk P w K mg base CX0 (k + 1) f fd ps (SpD K R) := by
  refine F.ok S (fun vs H Q E h => ?_) (fun cdv A outer s H vs Q E hr h => ?_)
  · obtain ⟨G, ds, d, _, ha, hr, _⟩ := h
    rw [dpa_length ha]; exact len ds d hr
  · obtain ⟨G, ds, d, hs, ha, hR, q⟩ := h
    obtain ⟨t, ht, hq⟩ := hbody cdv A outer s H hr
    exact ⟨t, ht, hq G ds d vs hR ha H hs _ (fun v G' H' n hd => q v G' H' n hd) (fun _ G' H' n e => q .non G' H' n (by rw [e]; exact .non))⟩
end Gw
namespace Gw
open PySem PySem.Spec PyProof.Rows L2

/-! ### kinds -/
def tyOf : PyData → String
  | .none => "NoneType" | .bool _ => "bool" | .int _ => "int" | .str _ => "str" | .list _ => "list" | .tuple _ => "tuple" | .dict _ => "dict"
theorem dp_ty {K : PySem.W.Frag} {G H : Hp} (s : Same G H) : ∀ {d : PyData} {v : V}, Dp K G v d → TyX K H v (.type (tyOf d))
  | _, _, .non => .base .non
  | _, _, .bl b => .base (.bl b)
  | _, _, .int i => .base (.int i)
  | _, _, .str x => .base (.str x)
  | _, _, .lst hs _ => by
    rcases hs with (h | ⟨o, h⟩) | ⟨o, its, n, h, c, _⟩
    · exact .base (.lst (s _ _ h))
    · exact .base (.frz (s _ _ h))
    · exact .kList h c
  | _, _, .tup hs _ => by
    rcases hs with (h | ⟨o, h⟩) | ⟨o, its, n, h, c, _⟩
    · exact .base (.tup (s _ _ h))
    · exact .fTuple (s _ _ h)
    · exact .kTuple h c
section
variable {K : PySem.W.Frag} {σ : L2.St} {G G1 : Hp} {te ta tb tl : TE} {tt tu : TT} {tA tR : TA} {d e x y z : PyData} {ds es : List PyData} {t u : TS}
theorem ed_isi {n : String} {b : Bool} (h : EvD K te σ G d) (hk : kitB (tyOf d) n = some b) : EvD K (tCB (rIsi K) (tCons te (tCons (tC (.ty n)) tNil))) σ G (.bool b) := fun H s Q q =>
  h H s _ fun v G1 H1 n1 hv => ⟨v, .ty n, .type (tyOf d), .type n, b, rfl, .ty n, dp_ty n1.gh hv, kit_ty hk, q _ G1 H1 n1 (.bl b)⟩
theorem rcl_len {K : PySem.W.Frag} {ds : List PyData} : RCl K (fun xs H Q => ∃ p ys, xs = [.ref p] ∧ (SqL K H p ys ∨ SqT K H p ys) ∧ Q (.int ys.length) H) [.tuple ds] (.int ds.length) := fun G H s vs hv Q q => by
  cases hv with
  | cons h t =>
    cases t
    cases h with
    | tup hs ha =>
      refine ⟨_, _, rfl, .inr (same_tup s hs), ?_⟩
      rw [dpa_length ha]
      exact q _ G H (Nx.refl s) (.int _)
theorem rcl_lenL {K : PySem.W.Frag} {ds : List PyData} : RCl K (fun xs H Q => ∃ p ys, xs = [.ref p] ∧ (SqL K H p ys ∨ SqT K H p ys) ∧ Q (.int ys.length) H) [.list ds] (.int ds.length) := fun G H s vs hv Q q => by
  cases hv with
  | cons h t =>
    cases t
    cases h with
    | lst hs ha =>
      refine ⟨_, _, rfl, .inl (s.seq hs), ?_⟩
      rw [dpa_length ha]
      exact q _ G H (Nx.refl s) (.int _)
theorem dpa_bools {K : PySem.W.Frag} {H : Hp} : ∀ {vs : List V} {bs : List Bool}, DpAll K H vs (bs.map PyData.bool) → vs = bs.map V.bl
  | [], [], _ => rfl
  | [], _ :: _, h => nomatch h
  | _ :: _, [], h => nomatch h
  | v :: vs, n :: ns, .cons h t => by rw [dp_bl h, dpa_bools t]; rfl
theorem rcl_all {bs : List Bool} : RCl K (rAll K) [.list (bs.map .bool)] (.bool (bs.all id)) := fun G H s vs hv Q q => by
  cases hv with
  | cons h t =>
    cases t
    cases h with
    | lst hs ha =>
      rw [dpa_bools ha] at hs
      exact ⟨_, bs, rfl, s.seq hs, q _ G H (Nx.refl s) (.bl _)⟩
theorem rcl_tupleL : RCl K (fun xs H Q => ∃ p ys, xs = [.ref p] ∧ ((SqL K H p ys ∧ ∀ l, H l = none → Q (.ref l) (upd H l (.tup ys))) ∨ (SqT K H p ys ∧ Q (.ref p) H))) [.list ds] (.tuple ds) := fun G H s vs hv Q q => by
  cases hv with
  | cons h t =>
    cases t
    cases h with
    | @lst a xs _ hs ha =>
      refine ⟨_, _, rfl, .inl ⟨s.seq hs, fun l hl => ?_⟩⟩
      have n := Nx.new (o := .tup xs) s hl
      exact q _ _ _ n (.tup (SqT.of upd_same) (dpa_mono n.gg _ ha))
theorem rcl_listL : RCl K (fun xs H Q => ∃ p ys, xs = [.ref p] ∧ (SqL K H p ys ∨ SqT K H p ys) ∧ ∀ l, H l = none → Q (.ref l) (upd H l (.lst ys))) [.list ds] (.list ds) := fun G H s vs hv Q q => by
  cases hv with
  | cons h t =>
    cases t
    cases h with
    | @lst a xs _ hs ha =>
      refine ⟨_, _, rfl, .inl (s.seq hs), fun l hl => ?_⟩
      have n := Nx.new (o := .lst xs) s hl
      exact q _ _ _ n (.lst (SqL.of upd_same) (dpa_mono n.gg _ ha))

/-! ### slices -/
def EvO (K : PySem.W.Frag) (to : TO) (σ : L2.St) (G : Hp) (o : Option Int) : Prop := ∀ H, Same G H → ∀ Q : Option Int → Hp → Prop, (∀ G' H', Nx G H G' H' → Q o H') → to σ H Q
theorem eo_none : EvO K tNoPart σ G none := fun H s _ q => q G H (Nx.refl s)
theorem eo_some {i : Int} (h : EvD K te σ G (.int i)) : EvO K (tPart te) σ G (some i) := fun H s _ q => h H s _ fun v G1 H1 n hv => ⟨i, dp_int hv, q G1 H1 n⟩
theorem EvO.mono {to : TO} {o : Option Int} (h : EvO K to σ G o) (g : Same G G1) : EvO K to σ G1 o := fun H s Q q => h H (g.trans s) Q fun G' H' n => by
  obtain ⟨G2, n2, s2⟩ := n.over g s
  exact q G2 H' n2
def cutD (xs : List PyData) (lo hi : Option Int) : List PyData := (xs.drop (HT.sIx xs.length 0 lo)).take (HT.sIx xs.length xs.length hi - HT.sIx xs.length 0 lo)
theorem dpa_cut {H : Hp} {vs : List V} (lo hi : Option Int) (h : DpAll K H vs ds) : DpAll K H (cutV vs lo hi) (cutD ds lo hi) := by
  unfold cutV cutD
  rw [dpa_length h]
  exact dpa_take _ (dpa_drop _ h)
theorem cutD_whole {lo hi : Option Int} (h : HT.sIx ds.length 0 lo = 0 ∧ HT.sIx ds.length ds.length hi = ds.length) : cutD ds lo hi = ds := by
  unfold cutD
  rw [h.1, h.2, List.drop_zero, Nat.sub_zero, List.take_length]
theorem cutD_to {k : Nat} : cutD ds none (some (k : Int)) = ds.take k := by
  unfold cutD
  rw [HT.sIx_none, HT.sIx_nat, List.drop_zero, Nat.sub_zero]
  by_cases h : k ≤ ds.length
  · rw [Nat.min_eq_left h]
  · rw [Nat.min_eq_right (by omega), List.take_length, List.take_of_length_le (by omega)]
theorem cutD_from {k : Nat} : cutD ds (some (k : Int)) none = ds.drop k := by
  unfold cutD
  rw [HT.sIx_none, HT.sIx_nat]
  by_cases h : k ≤ ds.length
  · rw [Nat.min_eq_left h, List.take_of_length_le (by rw [List.length_drop]; omega)]
  · rw [Nat.min_eq_right (by omega), Nat.sub_self, List.take_zero, List.drop_eq_nil_of_le (by omega)]
theorem cutD_mid {k j : Nat} (hkj : k ≤ j) (hj : j ≤ ds.length) : cutD ds (some (k : Int)) (some (j : Int)) = (ds.take j).drop k := by
  unfold cutD
  have hk : min k ds.length = k := Nat.min_eq_left (by omega)
  have hj' : min j ds.length = j := Nat.min_eq_left hj
  rw [HT.sIx_nat, HT.sIx_nat, hk, hj', List.drop_take]
theorem ed_slT {tl th : TO} {lo hi : Option Int} (h : EvD K te σ G (.tuple ds)) (h1 : EvO K tl σ G lo) (h2 : EvO K th σ G hi) : EvD K (tSl (rSlA K) te tl th) σ G (.tuple (cutD ds lo hi)) := fun H s Q q =>
  h H s _ fun v G1 H1 n1 hv => (h1.mono n1.gg) H1 n1.gh _ fun G2 H2 n2 => (h2.mono (n1.gg.trans n2.gg)) H2 n2.gh _ fun G3 H3 n3 => by
    have n := (n1.trans n2).trans n3
    cases hv with
    | @tup a xs _ hs ha =>
      have g3 := n2.gg.trans n3.gg
      refine ⟨_, _, rfl, same_tup (g3.trans n3.gh) hs, fun hw => ?_, fun _ p hp => ?_⟩
      · rw [dpa_length ha] at hw
        rw [cutD_whole hw] at q
        exact q _ G3 H3 n (.tup (same_tup g3 hs) (dpa_mono g3 _ ha))
      · have m := Nx.new (o := .tup (cutV xs lo hi)) n3.gh hp
        exact q _ _ _ (n.trans m) (.tup (SqT.of upd_same) (dpa_mono (g3.trans m.gg) _ (dpa_cut lo hi ha)))
theorem ed_slL {tl th : TO} {lo hi : Option Int} (h : EvD K te σ G (.list ds)) (h1 : EvO K tl σ G lo) (h2 : EvO K th σ G hi) : EvD K (tSl (rSlL K) te tl th) σ G (.list (cutD ds lo hi)) := fun H s Q q =>
  h H s _ fun v G1 H1 n1 hv => (h1.mono n1.gg) H1 n1.gh _ fun G2 H2 n2 => (h2.mono (n1.gg.trans n2.gg)) H2 n2.gh _ fun G3 H3 n3 => by
    have n := (n1.trans n2).trans n3
    cases hv with
    | @lst a xs _ hs ha =>
      have g3 := n2.gg.trans n3.gg
      refine ⟨_, _, rfl, (g3.trans n3.gh).seq hs, fun p hp => ?_⟩
      have m := Nx.new (o := .lst (cutV xs lo hi)) n3.gh hp
      exact q _ _ _ (n.trans m) (.lst (SqL.of upd_same) (dpa_mono (g3.trans m.gg) _ (dpa_cut lo hi ha)))

/-! ### comprehensions: the list stands at D, apart from the view -/
structure LcI (K : PySem.W.Frag) (G1 H1 : Hp) (D : Addr) (ds : List PyData) (Hc : Hp) : Prop where
  ex : ∃ Gi acc, Nx G1 H1 Gi Hc ∧ Gi D = none ∧ Hc D = some (.lst acc) ∧ DpAll K Gi acc ds
theorem LcI.start {H1 : Hp} {D : Addr} (s : Same G1 H1) (hD : H1 D = none) : LcI K G1 H1 D [] (upd H1 D (.lst [])) :=
  ⟨G1, [], Nx.lay s hD, s.free hD, upd_same, .nil⟩
theorem LcI.fin {H1 Hc : Hp} {D : Addr} (hD : H1 D = none) (h : LcI K G1 H1 D ds Hc) : ∃ G', Nx G1 H1 G' Hc ∧ Dp K G' (.ref D) (.list ds) := by
  obtain ⟨Gi, acc, n, g, e, ha⟩ := h.ex
  have gi : Same Gi (upd Gi D (.lst acc)) := fun b u q => by rw [upd_ne (ne_of_none q g)]; exact q
  refine ⟨upd Gi D (.lst acc), ⟨n.gg.trans gi, fun b u q => ?_, n.hh, fun b hb => ?_⟩, .lst (SqL.of upd_same) (dpa_mono gi _ ha)⟩
  · by_cases hq : b = D
    · subst hq; rw [upd_same] at q; rw [e]; exact q
    · rw [upd_ne hq] at q; exact n.gh b u q
  · by_cases hq : b = D
    · subst hq; exact absurd hD hb
    · rw [upd_ne hq]; exact n.fr b hb
/-- a new list, apart from the view -/
def EvN (K : PySem.W.Frag) (te : TE) (σ : L2.St) (G : Hp) (ds : List PyData) : Prop := ∀ H, Same G H → ∀ Q : VK, (∀ p vs G' H', Nx G H G' H' → H p = none → G' p = none → H' p = some (.lst vs) → DpAll K G' vs ds → Q (.ref p) H') → te σ H Q
theorem Nx.tell {H G' H' : Hp} {p : Addr} {o : HO} (n : Nx G H G' H') (hp : H p = none) (gp : G' p = none) (e : H' p = some o) : Nx G H (upd G' p o) H' ∧ Same G' (upd G' p o) := by
  have gi : Same G' (upd G' p o) := fun b u q => by rw [upd_ne (ne_of_none q gp)]; exact q
  refine ⟨⟨n.gg.trans gi, fun b u q => ?_, n.hh, fun b hb => ?_⟩, gi⟩
  · by_cases hq : b = p
    · subst hq; rw [upd_same] at q; rw [e]; exact q
    · rw [upd_ne hq] at q; exact n.gh b u q
  · by_cases hq : b = p
    · subst hq; exact absurd hp hb
    · rw [upd_ne hq]; exact n.fr b hb
theorem EvN.toD (h : EvN K te σ G ds) : EvD K te σ G (.list ds) := fun H s Q q => h H s Q fun p vs G' H' n hp gp e ha => by
  obtain ⟨m, gi⟩ := n.tell hp gp e
  exact q _ _ _ m (.lst (SqL.of upd_same) (dpa_mono gi _ ha))
theorem EvN.mono (h : EvN K te σ G ds) (g : Same G G1) : EvN K te σ G1 ds := fun H s Q q => h H (g.trans s) Q fun p vs G' H' n hp gp e ha => by
  have hG1 : G1 p = none := s.free hp
  refine q p vs (fun a => match H a with | none => G' a | some _ => G1 a) H' ⟨fun a o ea => ?_, fun a o ea => ?_, n.hh, fun a ea => ?_⟩ hp (by simp only [hp]; exact gp) e (dpa_mono (fun a o ea => ?_) _ ha)
  · have := s a o ea
    simp only [this]; exact ea
  · cases q2 : H a with
    | none => simp only [q2] at ea; exact n.gh a o ea
    | some u =>
      simp only [q2] at ea
      exact n.hh a o (s a o ea)
  · cases q2 : H a with
    | none => exact absurd q2 ea
    | some u => rfl
  · cases q2 : H a with
    | none => simp only [q2]; exact ea
    | some u =>
      simp only [q2]
      rw [n.fr a (ne_none q2)] at ea
      exact g a o ea
theorem EvN.cast (h : EvN K te σ G ds) (e : ds = es) : EvN K te σ G es := e ▸ h
theorem en_lst (h : EvA K tA σ G ds) (hz : ds.length ≤ sizeLine) : EvN K (tLst tA) σ G ds := fun H s Q q =>
  h H s _ fun vs G1 H1 n1 hv => ⟨by rw [dpa_length hv]; exact hz, fun p hp => by
    have hp0 : H p = none := n1.hh.free hp
    refine q p vs G1 _ (n1.trans (Nx.lay n1.gh hp)) hp0 (n1.gh.free hp) upd_same hv⟩
theorem LcI.finN {H H1 Hc : Hp} {D : Addr} {Q : VK} (n1 : Nx G H G1 H1) (hD : H1 D = none) (h : LcI K G1 H1 D ds Hc) (q : ∀ p vs G' H', Nx G H G' H' → H p = none → G' p = none → H' p = some (.lst vs) → DpAll K G' vs ds → Q (.ref p) H') : Q (.ref D) Hc := by
  obtain ⟨Gi, acc, n, g, e, ha⟩ := h.ex
  exact q D acc Gi Hc (n1.trans n) (n1.hh.free hD) g e ha
/-- one turn: b the test's answer, then the element -/
theorem LcI.turn {H1 Hc : Hp} {D : Addr} {σ2 : L2.St} {b : Bool} {e : PyData} {Nxt : Hp → Prop} (hD : H1 D = none) (h : LcI K G1 H1 D ds Hc) (hz : ds.length < sizeLine)
    (ht : ∀ Gi, Same G1 Gi → EvB K tt σ2 Gi b) (he : b = true → ∀ Gi, Same G1 Gi → EvD K te σ2 Gi e)
    (hn : ∀ H', LcI K G1 H1 D (if b = true then ds ++ [e] else ds) H' → Nxt H') :
    tt σ2 Hc fun b H3 => if b = true then te σ2 H3 fun y H4 => ∃ acc, H4 D = some (.lst acc) ∧ acc.length < sizeLine ∧ Nxt (upd H4 D (.lst (acc ++ [y]))) else Nxt H3 := by
  obtain ⟨Gi, acc, n, g, e0, ha⟩ := h.ex
  refine ht Gi n.gg Hc n.gh _ fun G3 H3 n3 => ?_
  have hDc : Hc D ≠ none := ne_none e0
  have g3 : G3 D = none := (n3.fr D hDc).trans g
  have e3 : H3 D = some (.lst acc) := n3.hh D _ e0
  cases b with
  | false =>
    refine (show Nxt H3 from hn H3 ?_)
    exact ⟨G3, acc, n.trans n3, g3, e3, dpa_mono n3.gg _ ha⟩
  | true =>
    refine (show te σ2 H3 _ from he rfl G3 (n.gg.trans n3.gg) H3 n3.gh _ fun y G4 H4 n4 hy => ?_)
    have g4 : G4 D = none := (n4.fr D (ne_none e3)).trans g3
    refine ⟨acc, n4.hh D _ e3, by rw [dpa_length ha]; exact hz, hn _ ?_⟩
    have n14 := (n.trans n3).trans n4
    refine ⟨G4, acc ++ [y], ⟨n14.gg, fun b u q => ?_, fun b u q => ?_, n14.fr⟩, g4, upd_same, dpa_append (dpa_mono (n3.gg.trans n4.gg) _ ha) (.cons hy .nil)⟩
    · rw [upd_ne (ne_of_none q g4)]; exact n4.gh b u q
    · rw [upd_ne (ne_of_none q hD)]; exact n14.hh b u q
theorem fm_take {α β : Type} (f : α → Option β) (l : List α) (i : Nat) (a : α) (h : l[i]? = some a) : (l.take (i + 1)).filterMap f = (l.take i).filterMap f ++ (f a).toList := by
  have hi := (List.getElem?_eq_some_iff.mp h)
  obtain ⟨h1, h2⟩ := hi
  rw [List.take_succ, h, List.filterMap_append]
  cases hf : f a <;> simp [List.filterMap_cons, hf]
theorem en_lcT {i : Nat} {vs : List Nat} (f : PyData → Option PyData) (h : EvD K tl σ G (.tuple ds)) (hw : ∀ v, wipe ((wipe σ vs).set i (some v)) vs = wipe σ vs) (hz : ds.length ≤ sizeLine)
    (ht : ∀ d v Gi, d ∈ ds → Same G Gi → Dp K Gi v d → EvB K tt ((wipe σ vs).set i (some v)) Gi (f d).isSome)
    (he : ∀ d v e Gi, d ∈ ds → f d = some e → Same G Gi → Dp K Gi v d → EvD K te ((wipe σ vs).set i (some v)) Gi e) : EvN K (tLc (iTup K tl) (gName i) tt te vs) σ G (ds.filterMap f) := fun H s Q q =>
  h H s _ fun v G1 H1 n1 hv => by
    cases hv with
    | @tup a xs _ hs ha =>
      refine ⟨a, rfl, ⟨xs, same_tup n1.gh hs⟩, fun D hD => ?_⟩
      refine lc_tup (K := K) (a := a) (xs := xs) (fun k Hc => LcI K G1 H1 D ((ds.take k).filterMap f) Hc) (LcI.start n1.gh hD) (fun k Hc _ p => ?_) (fun k x Hc hk p => ?_) fun Hc p => ?_
      · obtain ⟨Gi, acc, n, _⟩ := p.ex
        exact same_tup (n1.gh.trans n.hh) hs
      · obtain ⟨dk, hdk, hdx⟩ := dpa_get ha hk
        have hm : dk ∈ ds := List.mem_of_getElem? hdk
        refine ⟨hw x, ?_⟩
        refine LcI.turn (b := (f dk).isSome) (e := (f dk).getD .none) hD p (Nat.lt_of_le_of_lt (List.length_filterMap_le _ _) ?_) (fun Gi g => ht dk x Gi hm (n1.gg.trans g) (dp_mono g _ hdx)) (fun hb Gi g => ?_) fun H' p' => ?_
        · have := (List.getElem?_eq_some_iff.mp hdk).1
          rw [List.length_take]; omega
        · obtain ⟨e, hee⟩ := Option.isSome_iff_exists.mp hb
          rw [hee]
          exact he dk x e Gi hm hee (n1.gg.trans g) (dp_mono g _ hdx)
        · rw [fm_take f ds k dk hdk]
          cases hf : f dk with
          | none => rw [hf] at p'; simpa using p'
          | some e => rw [hf] at p'; simpa using p'
      · rw [dpa_length ha, List.take_length] at p
        exact p.finN n1 hD q
theorem en_lcL {i : Nat} {vs : List Nat} (f : PyData → Option PyData) (h : EvD K tl σ G (.list ds)) (hw : ∀ v, wipe ((wipe σ vs).set i (some v)) vs = wipe σ vs) (hz : ds.length ≤ sizeLine)
    (ht : ∀ d v Gi, d ∈ ds → Same G Gi → Dp K Gi v d → EvB K tt ((wipe σ vs).set i (some v)) Gi (f d).isSome)
    (he : ∀ d v e Gi, d ∈ ds → f d = some e → Same G Gi → Dp K Gi v d → EvD K te ((wipe σ vs).set i (some v)) Gi e) : EvN K (tLc (iList K tl) (gName i) tt te vs) σ G (ds.filterMap f) := fun H s Q q =>
  h H s _ fun v G1 H1 n1 hv => by
    cases hv with
    | @lst a xs _ hs ha =>
      refine ⟨a, rfl, ⟨xs, n1.gh.seq hs⟩, fun D hD => ?_⟩
      refine lc_list (K := K) (a := a) (xs := xs) (fun k Hc => LcI K G1 H1 D ((ds.take k).filterMap f) Hc) (LcI.start n1.gh hD) (fun k Hc _ p => ?_) (fun k x Hc hk p => ?_) fun Hc p => ?_
      · obtain ⟨Gi, acc, n, _⟩ := p.ex
        exact (n1.gh.trans n.hh).seq hs
      · obtain ⟨dk, hdk, hdx⟩ := dpa_get ha hk
        have hm : dk ∈ ds := List.mem_of_getElem? hdk
        refine ⟨hw x, ?_⟩
        refine LcI.turn (b := (f dk).isSome) (e := (f dk).getD .none) hD p (Nat.lt_of_le_of_lt (List.length_filterMap_le _ _) ?_) (fun Gi g => ht dk x Gi hm (n1.gg.trans g) (dp_mono g _ hdx)) (fun hb Gi g => ?_) fun H' p' => ?_
        · have := (List.getElem?_eq_some_iff.mp hdk).1
          rw [List.length_take]; omega
        · obtain ⟨e, hee⟩ := Option.isSome_iff_exists.mp hb
          rw [hee]
          exact he dk x e Gi hm hee (n1.gg.trans g) (dp_mono g _ hdx)
        · rw [fm_take f ds k dk hdk]
          cases hf : f dk with
          | none => rw [hf] at p'; simpa using p'
          | some e => rw [hf] at p'; simpa using p'
      · rw [dpa_length ha, List.take_length] at p
        exact p.finN n1 hD q
theorem en_lcR {i : Nat} {vs : List Nat} {m : Int} (f : Nat → Option PyData) (h : EvD K tl σ G (.int m)) (hw : ∀ v, wipe ((wipe σ vs).set i (some v)) vs = wipe σ vs) (hm0 : -(2 ^ 62) ≤ m) (hz : m.toNat ≤ sizeLine)
    (ht : ∀ k Gi, k < m.toNat → Same G Gi → EvB K tt ((wipe σ vs).set i (some (.int k))) Gi (f k).isSome)
    (he : ∀ k e Gi, k < m.toNat → f k = some e → Same G Gi → EvD K te ((wipe σ vs).set i (some (.int k))) Gi e) : EvN K (tLc (iRng1 (tCons tl tNil)) (gName i) tt te vs) σ G ((List.range m.toNat).filterMap f) := fun H s Q q =>
  h H s _ fun v G1 H1 n1 hv => by
    rw [dp_int hv]
    refine ⟨m, rfl, hm0, ?_, fun D hD => ?_⟩
    · have : sizeLine ≤ 2 ^ 61 := by decide
      omega
    refine lc_range (lo := 0) (n := m.toNat) (fun k Hc => LcI K G1 H1 D ((List.range k).filterMap f) Hc) (LcI.start n1.gh hD) (fun k Hc hk p => ?_) fun Hc p => ?_
    · have e0 : (0 : Int) + (k : Int) = (k : Int) := by omega
      rw [e0]
      refine ⟨hw _, ?_⟩
      refine LcI.turn (b := (f k).isSome) (e := (f k).getD .none) hD p (Nat.lt_of_le_of_lt (List.length_filterMap_le _ _) (by rw [List.length_range]; omega)) (fun Gi g => ht k Gi hk (n1.gg.trans g)) (fun hb Gi g => ?_) fun H' p' => ?_
      · obtain ⟨e, hee⟩ := Option.isSome_iff_exists.mp hb
        rw [hee]
        exact he k e Gi hk hee (n1.gg.trans g)
      · rw [List.range_succ, List.filterMap_append]
        cases hf : f k with
        | none => rw [hf] at p'; simpa [List.filterMap_cons, hf] using p'
        | some e => rw [hf] at p'; simpa [List.filterMap_cons, hf] using p'
    · exact p.finN n1 hD q
theorem eb_yes : EvB K tYes σ G true := fun H s _ q => q G H (Nx.refl s)
/-- no test -/
theorem en_lcT1 {i : Nat} {vs : List Nat} (f : PyData → PyData) (h : EvD K tl σ G (.tuple ds)) (hw : ∀ v, wipe ((wipe σ vs).set i (some v)) vs = wipe σ vs) (hz : ds.length ≤ sizeLine)
    (he : ∀ d v Gi, d ∈ ds → Same G Gi → Dp K Gi v d → EvD K te ((wipe σ vs).set i (some v)) Gi (f d)) : EvN K (tLc (iTup K tl) (gName i) tYes te vs) σ G (ds.map f) :=
  (en_lcT (fun d => some (f d)) h hw hz (fun d v Gi _ _ _ => eb_yes) (fun d v e Gi hm e1 g hd => by cases e1; exact he d v Gi hm g hd)).cast (by rw [List.filterMap_eq_map'])
theorem en_lcL1 {i : Nat} {vs : List Nat} (f : PyData → PyData) (h : EvD K tl σ G (.list ds)) (hw : ∀ v, wipe ((wipe σ vs).set i (some v)) vs = wipe σ vs) (hz : ds.length ≤ sizeLine)
    (he : ∀ d v Gi, d ∈ ds → Same G Gi → Dp K Gi v d → EvD K te ((wipe σ vs).set i (some v)) Gi (f d)) : EvN K (tLc (iList K tl) (gName i) tYes te vs) σ G (ds.map f) :=
  (en_lcL (fun d => some (f d)) h hw hz (fun d v Gi _ _ _ => eb_yes) (fun d v e Gi hm e1 g hd => by cases e1; exact he d v Gi hm g hd)).cast (by rw [List.filterMap_eq_map'])
theorem en_lcR1 {i : Nat} {vs : List Nat} {m : Int} (f : Nat → PyData) (h : EvD K tl σ G (.int m)) (hw : ∀ v, wipe ((wipe σ vs).set i (some v)) vs = wipe σ vs) (hm0 : -(2 ^ 62) ≤ m) (hz : m.toNat ≤ sizeLine)
    (he : ∀ k Gi, k < m.toNat → Same G Gi → EvD K te ((wipe σ vs).set i (some (.int k))) Gi (f k)) : EvN K (tLc (iRng1 (tCons tl tNil)) (gName i) tYes te vs) σ G ((List.range m.toNat).map f) :=
  (en_lcR (fun d => some (f d)) h hw hm0 hz (fun k Gi _ _ => eb_yes) (fun k e Gi hk e1 g => by cases e1; exact he k Gi hk g)).cast (by rw [List.filterMap_eq_map'])
end
end Gw
namespace Gw
open PySem PySem.Spec PyProof.Rows L2

/-! ### a def as it stands, and its promise -/
structure DefAt (K : PySem.W.Frag) (mg : Str → Option Value) (x : Str) (st : Stmt) (ps : List Str) (f : Addr) (fd : FuncData) : Prop where
  F : Fun K x x st f fd
  m : mg x = some (.ref f)
  b : Binds K fd ps []
def Ok (P : Program) (w : World) (K : PySem.W.Frag) (mg : Str → Option Value) (base : Heap) (x : Str) (ps : List Str) (k : Nat) (sp : Sp) : Prop :=
  ∃ (f : Addr) (fd : FuncData), mg x = some (.ref f) ∧ PySem.W.keepIn K (.ref f) = true ∧ Binds K fd ps [] ∧ FnOk P w K mg base CX0 k f fd ps sp
theorem DefAt.ok {P : Program} {w : World} {K : PySem.W.Frag} {mg : Str → Option Value} {base : Heap} {x : Str} {st : Stmt} {ps : List Str} {f : Addr} {fd : FuncData} {k : Nat} {sp : Sp}
    (D : DefAt K mg x st ps f fd) (h : FnOk P w K mg base CX0 k f fd ps sp) : Ok P w K mg base x ps k sp := ⟨f, fd, D.m, D.F.kp, D.b, h⟩
theorem Ok.imp {P : Program} {w : World} {K : PySem.W.Frag} {mg : Str → Option Value} {base : Heap} {x : Str} {ps : List Str} {k : Nat} {sp sp' : Sp} (h : Ok P w K mg base x ps k sp)
    (i : ∀ vs H Q E, sp' vs H Q E → sp vs H Q E) : Ok P w K mg base x ps k sp' := by
  obtain ⟨f, fd, a, b, c, d⟩ := h
  exact ⟨f, fd, a, b, c, d.imp i⟩
/-- names of built-ins that the text leaves alone -/
structure Bt (mg : Str → Option Value) : Prop where
  len : mg "len" = none
  int : mg "int" = none
  bool : mg "bool" = none
  str : mg "str" = none
  list : mg "list" = none
  tuple : mg "tuple" = none
  dict : mg "dict" = none
  isinstance : mg "isinstance" = none
  all : mg "all" = none
  any : mg "any" = none
  abs : mg "abs" = none
  min : mg "min" = none
  max : mg "max" = none
  range : mg "range" = none
  enumerate : mg "enumerate" = none
  repr : mg "repr" = none
  sorted : mg "sorted" = none
section
variable {X : Cx} {x : Str} {ps ks : List Str} {k : Nat} {sp : Sp} {p pos : Pos} {e : Expr} {es : List Expr} {kws : List Keyword} {t tk : TA}
theorem pe_ok (h : Ok X.prog X.w X.K X.mg X.base x ps k sp) (hr : Room k X.A) (hg : Gl X x) (ha : PA X (e :: es) t) (hdb : (x == ("__debug__" : Str)) = false := by decide)
    (he : starEach (e :: es) X.env = (false, eval e X.env) :: starEach es X.env := by rfl) (hpl : (backTo pos (starEach es X.env)).any (·.1) = false := by rfl) :
    PE X (.Call (.Name x p) (e :: es) [] pos) (tCall sp [] E0 t) := by
  obtain ⟨f, fd, hm, hk, hb, F⟩ := h
  exact pe_call F hr hg hm hk hb .nil pass0 ha hdb he hpl
theorem pe_ok0 (h : Ok X.prog X.w X.K X.mg X.base x ps k sp) (hr : Room k X.A) (hg : Gl X x) (hdb : (x == ("__debug__" : Str)) = false := by decide) :
    PE X (.Call (.Name x p) [] [] pos) (tCall sp [] E0 tNil) := by
  obtain ⟨f, fd, hm, hk, hb, F⟩ := h
  exact pe_call0 F hr hg hm hk hb .nil pass0 hdb
end
end Gw
namespace Gw
open PySem PySem.Spec PyProof.Rows L2
open PySem.AutoSeq1 (wpAny_loadPart')
/-! ### enumerate(a tuple) -/
abbrev tupItO (l : Addr) : Obj := { cls := .type "tuple_iterator", data := .fields #[.ref l, .int 0 0] }
abbrev enO (i : Addr) : Obj := { cls := .type "enumerate", data := .fields #[.none, .bool false, .ref i, rawInt 0, .none, .none] }
set_option maxHeartbeats 1000000 in
theorem en_meets (l : Addr) (its : Array Value) (n : Nat) (dd : Option Addr) (sl : Array (Option Value)) :
    Meets (Builtin.«enumerate.__new__» ⟨[.type "enumerate", .ref l], []⟩)
      (fun _ R s => s.heap.get? l = some { cls := .type "tuple", dict := dd, data := .seq its n, slots := sl } ∧ R (.ok (.ret (.ref (s.heap.push (tupItO l)).objs.size))) { s with heap := (s.heap.push (tupItO l)).push (enO s.heap.objs.size) }) :=
  .of_wp fun pr w A R s hyp => by
    obtain ⟨hp, g, d, tk, os⟩ := s; obtain ⟨hl, hq⟩ := hyp
    have hsub := PySem.sub_enumerate
    have hT : Heap.IsTuple (Shared.heap ⟨hp, g, d, tk, os⟩) l its := ⟨_, hl, rfl, n, rfl⟩
    wp_walk using wpAny_loadPart' hl
    refine wpAny_stack_any fun st => wpAny_pure ?_
    split
    · rename_i c _ _ _ _ _
      cases (c == Value.type "enumerate") <;> (wp_walk using wpAny_loadPart' hl, wpAny_pyIter_tuple hT; exact ⟨_, rfl, hq⟩)
    · wp_walk using wpAny_loadPart' hl, wpAny_pyIter_tuple hT
      exact ⟨_, rfl, hq⟩
theorem call_enT {prog : Program} {w : World} {A : Around} {E : Value → Shared → Prop} {s : Shared} {l : Addr} {its : Array Value} {Q : Value → Shared → Prop} (hT : s.heap.IsTuple l its)
    (h : ∀ h', IsEnum h' (s.heap.objs.size + 1) s.heap.objs.size 0 .none → h'.IsTupleIter s.heap.objs.size l 0 → (∀ b o, s.heap.get? b = some o → h'.get? b = some o) → Q (.ref (s.heap.objs.size + 1)) { s with heap := h' }) :
    wpAny (model prog w) A (call (.type "enumerate") [.ref l]) Q E s := by
  obtain ⟨⟨c, dd, dt, sl⟩, hl, hc, n, hd⟩ := hT
  have hc : c = .type "tuple" := hc
  have hd : dt = .seq its n := hd
  subst hc hd
  refine callType_new F.called_enumerate (by decide) (F.typeCall_enumerate_1 _) (F.newCall_enumerate_1 _) (fun obj => F.args_object_init_2 obj _) F.entry_enumerate_new (en_meets l its n dd sl) ⟨hl, ?_⟩
  have hz : (s.heap.push (tupItO l)).objs.size = s.heap.objs.size + 1 := Heap.size_push ..
  show _ ∧ _
  rw [hz]
  have he : IsEnum ((s.heap.push (tupItO l)).push (enO s.heap.objs.size)) (s.heap.objs.size + 1) s.heap.objs.size 0 .none := by
    have q := Heap.get?_push_size (s.heap.push (tupItO l)) (o := enO s.heap.objs.size) rfl
    rw [hz] at q
    exact q
  exact ⟨⟨_, he, rfl⟩, h _ he ⟨_, Heap.get?_push_of_some _ (Heap.get?_push_size _ rfl), rfl, rfl⟩ fun b o z => Heap.get?_push_of_some _ (Heap.get?_push_of_some _ z)⟩
def IteT (K : PySem.W.Frag) (a : Addr) : It :=
  ⟨fun i H => ∃ (xs : List V) (x : V), SqT K H a xs ∧ xs[i]? = some x,
   fun i H v H' => ∃ T x, v = .ref T ∧ H T = none ∧ H' = upd H T (.tup [.int (i : Nat), x]) ∧ ∀ xs, SqT K H a xs → xs[i]? = some x,
   fun i H => ∃ xs : List V, SqT K H a xs ∧ xs.length = i⟩
theorem turn_enT {P : Program} {w : World} {K : PySem.W.Frag} {elts : List Expr} {kk : Nat} {tpos : Pos} (a e it : Addr) :
    Turn P w K (.Tuple elts kk tpos) (IteT K a) [e, it] e (fun i h => (∃ old, IsEnum h e it ((i : Nat) : Int) old) ∧ h.IsTupleIter it a i ∧ e ≠ it) where
  mem := List.mem_cons_self
  obj := fun i h st b hb => by
    obtain ⟨⟨old, he⟩, ⟨o, ho, hc, hd⟩, _⟩ := st
    rcases List.mem_cons.mp hb with z | hb
    · rw [z]; exact ⟨_, he, fun v q => by cases q⟩
    · rw [List.mem_singleton.mp hb]
      exact ⟨o, ho, fun v q => by rw [hd] at q; cases q⟩
  keep := fun i h h' st k => let ⟨⟨old, he⟩, hi, hne⟩ := st; ⟨⟨old, k e List.mem_cons_self _ he⟩, hi.at fun o q => k it (by simp) o q, hne⟩
  item := by
    intro X hP hw hK hc i pn s τ H Ex I hf st hg
    subst hP hw hK
    obtain ⟨⟨old, he⟩, hit, hne⟩ := st
    obtain ⟨xs, x, hq, hx⟩ := hg
    obtain ⟨its, rv, p, hz⟩ := I.tuple hq
    obtain ⟨u, hu, ru⟩ := rv.get hx
    have hT : s.heap.IsTuple a its.toArray := p
    have hel : e < s.heap.objs.size := Heap.lt_size he
    have hil : it < s.heap.objs.size := by obtain ⟨_, q, _⟩ := hit; exact Heap.lt_size q
    have hta : a ≠ it := fun z => by
      obtain ⟨o1, h1, h2, _⟩ := p
      obtain ⟨o2, h3, h4, _⟩ := hit
      rw [z, h3] at h1
      cases h1
      rw [h4] at h2
      exact absurd (Value.type.inj h2) (by decide)
    have hea : e ≠ a := fun z => by
      obtain ⟨o1, h1, h2, _⟩ := p
      rw [← z, show s.heap.get? e = _ from he] at h1
      cases h1
      exact absurd (Value.type.inj h2) (by decide)
    have hlt : i < its.toArray.size := by
      have := (List.getElem?_eq_some_iff.mp hu).1
      rw [List.size_toArray]; exact this
    refine wpAny_pyNext_enum_itemD (Draws.tuple (A := X.A.in1) (I.ok.hd hc) it a hta its.toArray) he ⟨hit, hT⟩ hlt hne (by simp; exact ⟨hne, hea⟩) fun y h' tk hy ho hst' hTn hsz hk => ?_
    have ey : y = u := by
      have : its.toArray[i]? = some u := by simpa using hu
      rw [this] at hy
      exact (Option.some.inj hy).symm
    subst ey
    refine ⟨_, rfl, wpAny_letOwnedTupleGo_enum (s := { s with heap := h', toks := tk + 1 }) ho fun h'' he' sb => ?_⟩
    have hT2 : h''.get? s.heap.objs.size = some { cls := .type "tuple", data := .seq #[.int i tk, y] } := (sb.2 _ (Nat.ne_of_gt hel)).trans hTn
    have fresh : ObjOk X.prog X.w (upd H s.heap.objs.size (.tup [.int (i : Nat), x])) h'' s.heap.objs.size (.tup [.int (i : Nat), x]) :=
      ⟨by show 2 ≤ sizeLine; decide, [.int i tk, y], .cons ⟨_, rfl⟩ (.cons ru .nil), ⟨_, hT2, rfl, _, rfl⟩⟩
    have I1 : Inv X pn τ (upd H s.heap.objs.size (.tup [.int (i : Nat), x])) { s with heap := h'', toks := tk + 1 } :=
      I.turnedNew (ch := [e, it]) (fun b ob hb q => (sb.2 b (fun z => hb (z ▸ List.mem_cons_self))).trans (hk b ob (fun z => hb (z ▸ List.mem_cons_self)) (fun z => hb (by simp [z])) q)) hf (Nat.le_refl _) fresh
    refine ⟨.ref s.heap.objs.size, _, I1, rfl, ⟨_, x, rfl, I.hok.fresh (Nat.le_refl _), rfl, fun ys hy => by rw [I.tuple_inj hy hq]; exact hx⟩, ⟨⟨y, ?_⟩, hst'.1.at fun o q => (sb.2 it (Ne.symm hne)).trans q, hne⟩, fun b hb => ?_⟩
    · have e1 : ((i + 1 : Nat) : Int) = (i : Int) + 1 := by omega
      rw [e1]
      exact he'
    · have hb' : b < s.heap.objs.size := by
        rcases List.mem_cons.mp hb with z | hb
        · exact z ▸ hel
        · exact (List.mem_singleton.mp hb) ▸ hil
      rw [upd_ne (Nat.ne_of_lt hb')]
      exact (hf b hb).1
  done := by
    intro X hP hw hK hc i pn s τ H Ex I hf st hg
    subst hP hw hK
    obtain ⟨⟨old, he⟩, hit, hne⟩ := st
    obtain ⟨xs, hq, hx⟩ := hg
    obtain ⟨its, rv, p, hz⟩ := I.tuple hq
    have hl := rv.length
    have hta : a ≠ it := fun z => by
      obtain ⟨o1, h1, h2, _⟩ := p
      obtain ⟨o2, h3, h4, _⟩ := hit
      rw [z, h3] at h1
      cases h1
      rw [h4] at h2
      exact absurd (Value.type.inj h2) (by decide)
    have hn : its.toArray.size = i := by rw [List.size_toArray]; omega
    obtain ⟨f0, f1, f2, f3, f4, f5⟩ := hf it (by simp)
    exact wpAny_pyNext_enum_endD (Draws.tuple (A := X.A.in1) (I.ok.hd hc) it a hta its.toArray) he ⟨by rw [hn]; exact hit, p⟩ fun h' eb => ⟨rfl, I.turned (t' := s.toks) (fun b o hb q => eb b o hb q) f0 f1 f3 f4 f5⟩
  self := fun A i s Q E st h => let ⟨⟨_, he⟩, _⟩ := st; wpAny_pyIter_enum he h
def iEnT (K : PySem.W.Frag) (ta : TA) : TI := fun σ H R => ta σ H fun vs H1 => ∃ a xs, vs = [.ref a] ∧ SqT K H1 a xs ∧ R (IteT K a) H1
theorem pi_enumT {X : Cx} {e : Expr} {ta : TA} {p pos tpos : Pos} {elts : List Expr} {kk : Nat} (hg : Gl X "enumerate") (hm : X.mg "enumerate" = none) (ha : PA X [e] ta) (hs : starEach [e] X.env = [(false, eval e X.env)] := by rfl) :
    PI X (.Tuple elts kk tpos) (.Call (.Name "enumerate" p) [e] [] pos) (iEnT X.K ta) := by
  refine ⟨fun pn s τ H R I hyp => ?_⟩
  refine Call_ (ld_blt I hg hm boot_enumerate (PyProof.Rows.callWith_type1 (thn (ha.run pos pn s τ H _ I hyp) fun us s1 ⟨vs, H1, I1, r1, q1⟩ => ?_) hs rfl))
  obtain ⟨a, xs, ex, hq, q⟩ := q1
  subst ex
  obtain _ | ⟨r, _ | _⟩ := r1
  cases r
  obtain ⟨its, rv, p', hz⟩ := I1.tuple hq
  refine call_enT (its := its.toArray) p' fun h' he hit hk => wpAny_pyIter_enum he ?_
  have I2 : Inv X pn τ H1 { s1 with heap := h' } := I1.kept (t' := s1.toks) hk
  refine ⟨s1.heap.objs.size + 1, [s1.heap.objs.size + 1, s1.heap.objs.size], _, _, H1, rfl, I2, turn_enT a (s1.heap.objs.size + 1) s1.heap.objs.size, ⟨⟨.none, he⟩, hit, Nat.succ_ne_self _⟩, fun b hb => ?_, q⟩
  have hle : s1.heap.objs.size ≤ b := by
    rcases List.mem_cons.mp hb with z | hb
    · exact z ▸ Nat.le_add_right _ _
    · exact (List.mem_singleton.mp hb) ▸ Nat.le_refl _
  exact I1.fpOk hle (I1.hok.fresh hle)
theorem walk_enT {K : PySem.W.Frag} {a : Addr} {xs : List V} : Walk (IteT K a) xs.length (fun H => SqT K H a xs) (YPair (fun i => some (.int (i : Nat))) (fun i => xs[i]?)) := by
  refine ⟨fun i _ hi q => ⟨xs, xs[i], q, by simp [hi]⟩, fun _ q => ⟨xs, q, rfl⟩, fun i H v H' _ q y => ?_⟩
  obtain ⟨T, x, h1, h2, h3, h4⟩ := y
  exact ⟨T, .int (i : Nat), x, h1, h2, h3, rfl, h4 xs q⟩
end Gw
namespace Gw
open PySem PySem.Spec PyProof.Rows L2
/-! ### t[::-1] of a tuple -/
section
variable {prog : Program} {w : World} {A : Around} {E : Value → Shared → Prop} {s : Shared}
theorem adj_rev (n : Nat) : Builtin.Slice.sliceAdjust none none (-1) (n : Int) = ((n : Int) - 1, -1) := by
  unfold Builtin.Slice.sliceAdjust
  have h1 : ((-1 : Int) < 0) := by omega
  simp only [h1, if_true]
theorem places_rev (n : Nat) : Builtin.Slice.slicePlaces ((n : Int) - 1) (-1) (-1) = n := by
  unfold Builtin.Slice.slicePlaces
  have h1 : ¬ ((-1 : Int) > 0) := by omega
  simp only [h1, if_false]
  have h2 : ∀ z : Int, z / (- -1) = z := fun z => by rw [show (- -1 : Int) = 1 from rfl, Int.ediv_one]
  split
  · rw [h2]; omega
  · omega
theorem fm_congr {α β : Type} {f g : α → Option β} : ∀ (l : List α), (∀ a ∈ l, f a = g a) → l.filterMap f = l.filterMap g
  | [], _ => rfl
  | a :: l, h => by
    rw [List.filterMap_cons, List.filterMap_cons, h a List.mem_cons_self, fm_congr l fun b hb => h b (List.mem_cons_of_mem _ hb)]
theorem applied_rev {sl : Addr} {t : Tok} {n : Nat} {Q : Int × Int × Nat → Shared → Prop} (hs : s.heap.IsSliceOf sl .none .none (.int (-1) t)) (h : Q ((n : Int) - 1, -1, n) s) :
    wpAny (model prog w) A (Builtin.Slice.sliceApplied (.ref sl) (pure (n : Int))) Q E s := by
  obtain ⟨os, ho, hc, hd⟩ := id hs
  unfold Builtin.Slice.sliceApplied Builtin.Slice.sliceFields
  refine wpAny_bind (wpAny_bind (wpAny_field ho hd (x := .none) rfl (wpAny_bind (wpAny_field ho hd (x := .none) rfl (wpAny_bind (wpAny_field ho hd (x := .int (-1) t) rfl (wpAny_pure ?_)))))))
  refine wpAny_bind (HT.slicePart_ (.int (-1) t) ?_)
  show wpAny _ _ (if ((-1 : Int) == 0) = true then _ else _) _ _ s
  rw [if_neg (by decide)]
  refine wpAny_bind (HT.slicePart_ .none (wpAny_bind (HT.slicePart_ .none (wpAny_bind (wpAny_pure ?_)))))
  show wpAny _ _ (match Builtin.Slice.sliceAdjust none none (-1) (n : Int) with | (lo, hi) => pure (lo, (-1 : Int), Builtin.Slice.slicePlaces lo hi (-1))) _ _ s
  rw [adj_rev n]
  show wpAny _ _ (pure ((n : Int) - 1, (-1 : Int), Builtin.Slice.slicePlaces ((n : Int) - 1) (-1) (-1))) _ _ s
  rw [places_rev]
  exact wpAny_pure h
theorem pick_rev (xs : Array Value) : ((List.range xs.size).filterMap fun (k : Nat) => xs[(((xs.size : Nat) : Int) - 1 + (k : Int) * (-1)).toNat]?).toArray = xs.toList.reverse.toArray := by
  congr 1
  apply List.ext_getElem?
  intro i
  have e : (List.range xs.size).filterMap (fun (k : Nat) => xs[(((xs.size : Nat) : Int) - 1 + (k : Int) * (-1)).toNat]?) = (List.range xs.size).map (fun k => xs.getD (xs.size - 1 - k) .none) := by
    rw [← List.filterMap_eq_map']
    refine fm_congr _ fun k hk => ?_
    have hk := List.mem_range.mp hk
    have e2 : (((xs.size : Nat) : Int) - 1 + (k : Int) * (-1)).toNat = xs.size - 1 - k := by omega
    rw [e2]
    have h3 : xs.size - 1 - k < xs.size := by omega
    rw [Array.getElem?_eq_getElem h3]
    simp [Array.getD, h3]
  rw [e]
  by_cases hi : i < xs.size
  · have h3 : xs.size - 1 - i < xs.size := by omega
    rw [List.getElem?_map, List.getElem?_range hi, List.getElem?_reverse (by simpa using hi)]
    simp [Array.getD, h3]
  · rw [List.getElem?_eq_none (by simp; omega), List.getElem?_eq_none (by simp; omega)]
theorem getItem_tup_rev {t sl : Addr} {items : Array Value} {u : Tok} {Q : Value → Shared → Prop} (ht : IsTup s.heap t items) (hs : s.heap.IsSliceOf sl .none .none (.int (-1) u))
    (h : Q (.ref s.heap.objs.size) { s with heap := s.heap.push { cls := .type "tuple", data := .seq items.toList.reverse.toArray } }) (hsz : items.size ≤ sizeLine) :
    wpAny (model prog w) A (getItem (.ref t) (.ref sl)) Q E s := by
  have hz : sizeOk (.seq items.toList.reverse.toArray) := by
    show items.toList.reverse.toArray.size ≤ sizeLine
    rw [List.size_toArray, List.length_reverse, Array.length_toList]
    exact hsz
  obtain ⟨os, ho, hc, hd⟩ := id hs
  have hTs : s.TypeIs (.ref sl) "slice" := ⟨os, ho, hc⟩
  unfold getItem
  try with_reducible refine wpAny_holding ?_
  first | refine wpAny_bind (wpAny_pure ?_) | skip
  refine wpAny_bind (wpAny_sequenceKey ht.typeIs (by decide) ?_)
  refine wpAny_bind (wpAny_callSpecial?_slot (name := Str.ofString "__getitem__") ht.typeIs PyProof.Rows.slot_tuple_getitem (wpAny_call_entry PyProof.Rows.slot_tuple_getitem ht.typeIs entry_tuple_getitem ?_ (args_tuple_getitem _ _)))
  show wpAny _ _ (Builtin.Tuple.tupleItemsOf (.ref t) >>= _) _ _ s
  refine wpAny_bind (tupleItemsOf_ ht ?_)
  refine wpAny_bind (wpAny_typeOf hTs ?_)
  rw [if_pos (by decide)]
  refine wpAny_bind (applied_rev hs ?_)
  have hno : ¬ ((((items.size : Nat) : Int) - 1 == 0 && (-1 : Int) == 1 && items.size == items.size) = true) := by
    intro q
    rw [Bool.and_eq_true, Bool.and_eq_true] at q
    exact absurd q.1.2 (by decide)
  show wpAny _ _ (if (((items.size : Nat) : Int) - 1 == 0 && (-1 : Int) == 1 && items.size == items.size) = true then _ else _) _ _ s
  rw [if_neg hno, pick_rev]
  first
    | exact wpAny_bind (m := Builtin.Tuple.tupleExact _) (wpAny_newObj_type (wpAny_pure ⟨_, rfl, wpAny_pure h⟩) hz)
    | exact wpAny_bind (m := Builtin.Tuple.tupleExact _) (wpAny_newObj_type (wpAny_bind (wpAny_pure (wpAny_pure ⟨_, rfl, wpAny_pure h⟩))) hz)
    | exact wpAny_bind (wpAny_bind (m := Builtin.Tuple.tupleExact _) (wpAny_newObj_type (wpAny_pure (wpAny_pure ⟨_, rfl, wpAny_pure h⟩)) hz))
    | exact wpAny_bind (wpAny_bind (m := Builtin.Tuple.tupleExact _) (wpAny_newObj_type (wpAny_pure ⟨_, rfl, wpAny_pure h⟩) hz))
end
def tRevT (K : PySem.W.Frag) (te : TE) : TE := fun σ H Q => te σ H fun x H1 => ∃ a xs, x = .ref a ∧ SqT K H1 a xs ∧ ∀ p, H1 p = none → Q (.ref p) (upd H1 p (.tup xs.reverse))
theorem vals_rev : ∀ {xs : List V} {us : List Value}, Vals xs us → Vals xs.reverse us.reverse
  | _, _, .nil => .nil
  | _, _, .cons r t => by rw [List.reverse_cons, List.reverse_cons]; exact (vals_rev t).append (.cons r .nil)
theorem pe_revT {X : Cx} {e : Expr} {te : TE} {k : Nat} {p1 p2 p3 pos : Pos} (he : PE X e te) : PE X (.Subscript e (.Slice none none (some (.UnaryOp .USub (.Constant (.int 1) k p1) p2)) p3) pos) (tRevT X.K te) := by
  refine ⟨fun pn s τ H Q I hyp => ?_⟩
  refine Subscript_ (thn (he.run pn s τ H _ I hyp) fun v s1 ⟨x, H1, I1, r1, q1⟩ => ?_)
  obtain ⟨a, xs, ex, hx, q⟩ := q1
  subst ex
  cases r1
  have hst : PO X (some (.UnaryOp .USub (.Constant (.int 1) k p1) p2)) (tPart (tUn (rU fun i => .int (-i)) (tC (.int 1)))) := po_some (pe_un un_neg pe_int)
  refine wpAny_Slice (thn (po_none.run pn s1 τ H1 (fun o H2 => o = none ∧ H2 = H1) I1 ⟨rfl, rfl⟩) fun vl s2 ⟨l, H2, I2, pl, el, e2⟩ => ?_)
  subst el e2
  refine thn (po_none.run pn s2 τ H2 (fun o H3 => o = none ∧ H3 = H2) I2 ⟨rfl, rfl⟩) fun vu s3 ⟨u, H3, I3, pu, eu, e3⟩ => ?_
  subst eu e3
  refine thn (hst.run pn s3 τ H3 (fun o H4 => o = some (-1) ∧ H4 = H3) I3 ⟨1, rfl, -1, rfl, rfl, rfl⟩) fun vs s4 ⟨o, H4, I4, ps, eo, e4⟩ => ?_
  subst eo e4
  cases pl
  cases pu
  obtain _ | ⟨_, tk⟩ := ps
  have I5 : Inv X pn τ H4 { s4 with heap := s4.heap.push { cls := .type "slice", data := .fields #[.none, .none, .int (-1) tk] } } := I4.kept (t' := s4.toks) fun b ob z => Heap.get?_push_of_some _ z
  obtain ⟨its, r, ht, hz⟩ := I5.tuple hx
  have hlen := r.length
  show wpAny (model X.prog X.w) X.A (subscriptTail e (.Slice none none (some (.UnaryOp .USub (.Constant (.int 1) k p1) p2)) p3) (.ref a) (.ref s4.heap.objs.size)) (EP X pn τ Q) X.xe { s4 with heap := s4.heap.push { cls := .type "slice", data := .fields #[.none, .none, .int (-1) tk] } }
  refine tail_any (ops := [.ref a, .ref s4.heap.objs.size]) ht.typeIs PyProof.Rows.slot_tuple_getitem.lookup ?_ (by with_unfolding_all rfl)
  refine getItem_tup_rev ht (Heap.IsSliceOf.new _ .none .none (.int (-1) tk)) ?_ (by rw [List.size_toArray]; omega)
  have er : its.toArray.toList.reverse.toArray = its.reverse.toArray := by simp
  rw [er]
  refine ⟨.ref _, _, I5.laid (t' := s4.toks) (o := .tup xs.reverse) (fun b ob z => Heap.get?_push_of_some _ z) (Nat.le_refl _) ?_, rfl, q _ (I5.hok.fresh (Nat.le_refl _))⟩
  exact ⟨by rw [List.length_reverse]; exact hz, its.reverse, vals_rev r, ⟨_, Heap.get?_push_size _ rfl, rfl, _, rfl⟩⟩
section
variable {K : PySem.W.Frag} {σ : L2.St} {G : Hp} {te : TE} {ds : List PyData}
theorem ed_revT (h : EvD K te σ G (.tuple ds)) : EvD K (tRevT K te) σ G (.tuple ds.reverse) := fun H s Q q => h H s _ fun v G1 H1 n1 hv => by
  cases hv with
  | @tup a xs _ hs ha =>
    refine ⟨a, xs, rfl, same_tup n1.gh hs, fun p hp => ?_⟩
    have m := Nx.new (o := .tup xs.reverse) n1.gh hp
    exact q _ _ _ (n1.trans m) (.tup (SqT.of upd_same) (dpa_mono m.gg _ (dpa_reverse ha)))
end
/-! ### [.. for i, x in enumerate(t)] -/
section
variable {K : PySem.W.Frag} {σ : L2.St} {G G1 : Hp} {te tl : TE} {ds es : List PyData}
theorem LcI.lay {H1 Hc : Hp} {D T : Addr} {o : HO} (h : LcI K G1 H1 D ds Hc) (hT : Hc T = none) : LcI K G1 H1 D ds (upd Hc T o) := by
  obtain ⟨Gi, acc, n, g, e0, ha⟩ := h.ex
  have hne : D ≠ T := ne_of_none e0 hT
  exact ⟨Gi, acc, n.trans (Nx.lay n.gh hT), g, by rw [upd_ne hne]; exact e0, ha⟩
theorem en_lcEn {i j : Nat} {vs : List Nat} (f : Nat → PyData → PyData) (h : EvD K tl σ G (.tuple ds)) (hw : ∀ v u, wipe (((wipe σ vs).set i (some v)).set j (some u)) vs = wipe σ vs) (hz : ds.length ≤ sizeLine)
    (he : ∀ k d v Gi, ds[k]? = some d → Same G Gi → Dp K Gi v d → EvD K te (((wipe σ vs).set i (some (.int (k : Nat)))).set j (some v)) Gi (f k d)) :
    EvN K (tLc (iEnT K (tCons tl tNil)) (gTup K 2 (gCons (gName i) (gCons (gName j) gNil))) tYes te vs) σ G (ds.mapIdx f) := fun H s Q q =>
  h H s _ fun v G1 H1 n1 hv => by
    cases hv with
    | @tup a xs _ hs ha =>
      refine ⟨a, xs, rfl, same_tup n1.gh hs, fun D hD => ?_⟩
      refine lc_it (walk_enT (K := K) (a := a) (xs := xs)) (fun k Hc => LcI K G1 H1 D ((ds.mapIdx f).take k) Hc) (LcI.start n1.gh hD) (fun k Hc _ p => ?_) (fun k x Hc H' hk p hy => ?_) fun Hc p => ?_
      · obtain ⟨Gi, acc, n, _⟩ := p.ex
        exact same_tup (n1.gh.trans n.hh) hs
      · obtain ⟨T, x1, x2, rfl, hT, rfl, e1, e2⟩ := hy
        cases e1
        obtain ⟨dk, hdk, hdx⟩ := dpa_get ha e2
        have p' := p.lay (o := .tup [.int (k : Nat), x2]) hT
        refine ⟨T, _, rfl, SqT.of upd_same, rfl, _, _, rfl, _, _, rfl, rfl, ?_⟩
        refine ⟨hw _ _, ?_⟩
        have hlt := (List.getElem?_eq_some_iff.mp hdk).1
        refine LcI.turn (b := true) (e := f k dk) hD p' (by rw [List.length_take, List.length_mapIdx]; omega) (fun Gi g => eb_yes) (fun _ Gi g => he k dk x2 Gi hdk (n1.gg.trans g) (dp_mono g _ hdx)) fun H' pq => ?_
        have e3 : (ds.mapIdx f)[k]? = some (f k dk) := by rw [List.getElem?_mapIdx, hdk]; rfl
        rw [List.take_succ, e3]
        exact pq
      · rw [dpa_length ha, List.take_of_length_le (by rw [List.length_mapIdx]; exact Nat.le_refl _)] at p
        exact p.finN n1 hD q
end
end Gw
namespace Gw
open PySem PySem.Spec PyProof.Rows L2
/-! ### repr of data, where no repr is under way -/
def rRepr (K : PySem.W.Frag) : List V → Hp → VK → Prop := fun xs H Q => ∃ v d, xs = [v] ∧ Dp K H v d ∧ d.showable = true ∧ d.hasDict = false ∧ d.shown.length ≤ sizeLine ∧ d.depth ≤ 60 ∧ Q (.str d.shown) H
theorem cr_repr {X : Cx} (hG : X.A.guards = some []) (hu : X.A.units + 64 < cLine) : CallR X (.builtin "repr") (rRepr X.K) := by
  intro pn s τ H xs us Q I r hyp
  obtain ⟨v, d, rfl, hd, h1, h2, h3, h4, q⟩ := hyp
  obtain ⟨u, rfl, rv⟩ : ∃ u, us = [u] ∧ RelV v u := by obtain _ | ⟨r1, _ | _⟩ := r; exact ⟨_, rfl, r1⟩
  have hr := Dp.reads I d v u hd rv
  have go : ∀ (h' : Heap) (t tk : Tok), (∀ b o, s.heap.get? b = some o → h'.get? b = some o) → EP X pn τ Q (.str d.shown t) { s with heap := h', toks := tk } := fun h' t tk k => ⟨.str d.shown, H, I.kept (t' := tk) k, ⟨_, rfl⟩, q⟩
  cases hd with
  | non => cases rv; exact PySem.P.repr_of_none (go s.heap _ _ fun _ _ e => e)
  | bl b => cases rv; exact PySem.P.repr_of_bool (go s.heap _ _ fun _ _ e => e)
  | int i =>
    obtain ⟨t, rfl⟩ := rv
    exact PySem.P.repr_of_int (of_decide_eq_true h1) (go s.heap _ _ fun _ _ e => e)
  | str x =>
    obtain ⟨t, rfl⟩ := rv
    exact PySem.P.repr_of_str (go s.heap _ _ fun _ _ e => e) h3
  | lst hs ha =>
    cases rv
    obtain ⟨as, hr⟩ := hr
    exact PySem.repr_of_reads' hr h1 (fun e => by rw [h2] at e; cases e) hG (by omega) (fun _ _ e => e) (fun h' t tk k => go h' t tk k) h3
  | tup hs ha =>
    cases rv
    obtain ⟨as, hr⟩ := hr
    exact PySem.repr_of_reads' hr h1 (fun e => by rw [h2] at e; cases e) hG (by omega) (fun _ _ e => e) (fun h' t tk k => go h' t tk k) h3
/-- data that may be shown -/
structure Showy (d : PyData) : Prop where
  s : d.showable = true
  n : d.hasDict = false
  z : d.shown.length ≤ sizeLine
  p : d.depth ≤ 60
section
variable {K : PySem.W.Frag} {σ : L2.St} {G : Hp} {te : TE} {d : PyData}
theorem ed_repr (h : EvD K te σ G d) (hd : Showy d) : EvD K (tCB (rRepr K) (tCons te tNil)) σ G (.str d.shown) := fun H s Q q => h H s _ fun v G1 H1 n1 hv =>
  ⟨v, d, rfl, dp_mono n1.gh _ hv, hd.s, hd.n, hd.z, hd.p, q _ G1 H1 n1 (.str _)⟩
end
theorem ro_eqS {K : PySem.W.Frag} {i j : Str} : ROp K rEq (.str i) (.str j) (.bool (decide (i = j))) := fun G H s vx vy hx hy Q q => by
  rw [dp_str hx, dp_str hy]
  refine ⟨rfl, ?_⟩
  have e : decide (V.str i = V.str j) = decide (i = j) := by simp
  rw [e]
  exact q _ G H (Nx.refl s) (.bl _)
theorem ro_neS {K : PySem.W.Frag} {i j : Str} : ROp K rNe (.str i) (.str j) (.bool (!decide (i = j))) := fun G H s vx vy hx hy Q q => by
  rw [dp_str hx, dp_str hy]
  refine ⟨rfl, ?_⟩
  have e : decide (V.str i = V.str j) = decide (i = j) := by simp
  rw [e]
  exact q _ G H (Nx.refl s) (.bl _)

/-! ### the law's own call: told where it is made, so that what runs around is known -/
/-- the law's def, at the place where it is called: its body's reading, the script at a -/
def LawAt (P : Program) (w : World) (K : PySem.W.Frag) (mg : Str → Option Value) (x : Str) (st : Stmt) (N : List Str) (k : Nat) (f : Addr) (fd : FuncData) : Prop :=
  ∃ (S : FnScope N ["script"] (defScope st)), Fun K x x st f fd ∧ Binds K fd ["script"] [] ∧
    ∀ (base : Heap), K.In base → base.Ns mainGlobals mg → ∀ (cdv : Value) (s : Shared) (H : Hp) (a : Addr) (ns : List Int), Room k (callerA.deeper (envOfC x (defScope st) s.heap.objs.size f cdv)) → Only H → SqL K H a (ns.map V.int) → ns.length ≤ 63 →
      ∃ t, PSs (cxOf CX0 P w K mg base N x (defScope st) f cdv callerA [] s H E0).nox (defBody st) t ∧ t { nx := fun _ _ => V.non = V.bl true, rt := fun v _ => v = .bl true } (start N [.ref a]) H
/-- only the script's address may be told of in H -/
def ScriptHp (H : Hp) (a : Addr) (o : Obj) (ns : List Int) : Prop := ∀ b u, H b = some u → b = a ∧ u = .frz o (.lst (ns.map V.int))
theorem law_at {P : Program} {w : World} {K : PySem.W.Frag} {mg mb : Str → Option Value} {x : Str} {st : Stmt} {N : List Str} {k : Nat} {f a : Addr} {fd : FuncData} {s1 : Shared} {vs : List Value} {ns : List Int}
    (KX : K.In s1.heap) (hns : s1.heap.Ns mainGlobals mg) (hb : s1.heap.Ns builtinsNs mb) (hbb : ∀ y : Str, y ≠ "__name__" → mb y = bootBuiltins y) (hlim : s1.heap.NoLimit) (hgen : s1.gens = #[])
    (ha : s1.heap.get? a = some { cls := .type "list", data := .seq vs.toArray }) (hi : IntsAre vs ns) (h63 : ns.length ≤ 63) (hr : Room (k + 1) callerA) (L : LawAt P w K mg x st N k f fd) :
    codeAny (model P w) callerA (.call (.ref f) ⟨[.ref a], []⟩) (fun r s' => r = .ok (.ret (.bool true)) ∧ OldK s1.heap s'.heap ∧ s'.os = s1.os ∧ AllBare s'.gens) s1 := by
  obtain ⟨S, F, B, body⟩ := L
  have rv := vals_ints hi
  have lv := hi.length
  have hz : (ns.map V.int).length ≤ sizeLine := by rw [List.length_map]; exact Nat.le_trans h63 (by decide)
  have main : ∀ H : Hp, ScriptHp H a { cls := .type "list", data := .seq vs.toArray } ns → SqL K H a (ns.map V.int) → (H a ≠ none → K.lookup a = none) →
      codeAny (model P w) callerA (.call (.ref f) ⟨[.ref a], []⟩) (fun r s' => r = .ok (.ret (.bool true)) ∧ OldK s1.heap s'.heap ∧ s'.os = s1.os ∧ AllBare s'.gens) s1 := by
    intro H hH hS hK
    have only : Only H := fun b => by
      cases q : H b with
      | none => exact .inl rfl
      | some u => obtain ⟨_, rfl⟩ := hH b u q; exact .inr ⟨_, _, rfl⟩
    have ok : HOk P w H s1.heap := fun b u q => by
      obtain ⟨rfl, rfl⟩ := hH b u q
      exact ⟨ha, hz, vs, 0, rv, ha⟩
    have out : ∀ {b : Addr} {o : Obj}, s1.heap.get? b = some o → (b = a → H a = none) → (hidT s1.heap H).get? b = some o := fun {b o} e n => hidT_get e (by
      cases q : H b with
      | none => rfl
      | some u =>
        have e2 := (hH b u q).1
        rw [e2, n e2] at q
        cases q)
    have kin : K.In (hidT s1.heap H) := fun b o e => out (KX b o e) fun z => by
      cases q : H a with
      | none => rfl
      | some u =>
        have z2 := hK (by rw [q]; exact fun z => nomatch z)
        rw [z, z2] at e
        cases e
    have nsp : ∀ {b : Addr} {m : Str → Option Value}, s1.heap.Ns b m → (hidT s1.heap H).Ns b m := fun {b m} ⟨o, es, ep, e, d, r⟩ => ⟨o, es, ep, out e (fun z => by
      rw [z, ha] at e
      cases e
      cases d), d, r⟩
    have mod : Mod K mg (hidT s1.heap H) := ⟨kin, nsp hns, ⟨mb, nsp hb, hbb⟩, let ⟨mc, h1, h2⟩ := hlim; ⟨mc, nsp h1, h2⟩⟩
    have e0 : Env0 P w K mg (hidT s1.heap H) callerA [] s1 H := ⟨rfl, mod, fun _ _ e => of_hidT e, Nat.le_of_eq (hidT_size _ _), trivial, fun b z => absurd (show b ∈ ([] : List Addr) from z) List.not_mem_nil, ok, .of_eq hgen⟩
    obtain ⟨oc, od, kV, doc, pm, an, cdv, ct, osl, rfl, lk, hcd⟩ := F.ex
    have bt := B s1 [.ref a] KX rfl
    refine codeAny_mono (LamX.run_ofS (CX := CX0) (Q := fun v _ => v = .bl true) (E := E0) lk hcd S hr e0 bt (.cons rfl .nil : Vals [.ref a] [.ref a]) rfl fun hr2 => ?_) fun r s' hq => ?_
    · obtain ⟨t, h1, h2⟩ := body _ kin (nsp hns) cdv s1 H a ns hr2 only hS h63
      exact ⟨t, h1.nox, h2⟩
    · cases r with
      | error e => exact (show False from hq).elim
      | ok fl =>
        cases fl with
        | next => exact (show False from hq).elim
        | brk => exact (show False from hq).elim
        | cont => exact (show False from hq).elim
        | ret u =>
          obtain ⟨v, H2, hos, bare, un, ok2, ru, e⟩ := hq
          have e : v = .bl true := e
          subst e
          cases ru
          refine ⟨rfl, OldK.of_keep fun b o eb => ?_, hos, bare⟩
          cases q : H b with
          | none => exact un.keep b o eb q (fun z => nomatch z) (fun z => nomatch z)
          | some u =>
            obtain ⟨rfl, rfl⟩ := hH b u q
            obtain ⟨g1, _⟩ := ok _ _ q
            obtain ⟨g2, _⟩ := ok2 _ _ (un.frzs _ _ _ q)
            rw [eb] at g1
            cases g1
            exact g2
  cases hk : K.lookup a with
  | some o =>
    have e := KX a o hk
    rw [ha] at e
    cases e
    exact main (fun _ => none) (fun _ _ z => nomatch z) (.inr ⟨_, vs.toArray, _, hk, rfl, rfl, rfl, by rw [List.size_toArray, lv]; exact Nat.le_trans h63 (by decide), by simpa using rv⟩) (fun z => absurd rfl z)
  | none =>
    refine main (fun b => if b = a then some (.frz { cls := .type "list", data := .seq vs.toArray } (.lst (ns.map V.int))) else none) (fun b u q => ?_) (.inl (.inr ⟨_, if_pos rfl⟩)) fun _ => hk
    have q : (if b = a then some (HO.frz { cls := .type "list", data := .seq vs.toArray } (.lst (ns.map V.int))) else none) = some u := q
    by_cases hba : b = a
    · rw [if_pos hba] at q
      cases q
      exact ⟨hba, rfl⟩
    · rw [if_neg hba] at q
      cases q
end Gw
namespace Gw
open PySem PySem.Spec PyProof.Rows L2
/-- the goal that the head leaves -/
theorem walk_at {l : PySem.W.OpenLaw} {k : Nat} {q : Program} {loose : List Str} {XP : (Str → Option Value) → Heap → Prop} {YP : World → Heap → Prop} {d : DefRec} {K : Params → PySem.W.Frag} {st : Stmt} {N : List Str} (hn : l.most = some 63) (hdf : d.params.defaults = []) (hr : Room (k + 1) callerA)
    (hY : ∀ (w : World) (h : Heap), YP w h → (K w.params).In h)
    (F : ∀ (w : World) (mg : Str → Option Value) (fa : Addr) (h : Heap), (K w.params).In h → h.Ns mainGlobals mg → mg d.name = some (.ref fa) → ∃ fd : FuncData, LawAt l.prog w (K w.params) mg d.name st N k fa fd) :
    PySem.W.WalkO q loose XP YP l.row.toRowW d [] (fun f vs => PySem.call f vs) := by
  refine Att.attach_call hn hdf fun w s0 s1 mg mb fa o pm cd doc a vs ns G Y ho hd hcd hmg hobj hints hlen hg => ?_
  have KX := hY w _ Y
  obtain ⟨fd, L⟩ := F w mg fa _ KX G.T.g hmg
  exact law_at KX G.T.g G.T.b G.T.builtins G.T.nolimit hg hobj hints hlen hr L
end Gw
namespace Gw
open PySem PySem.Spec PyProof.Rows L2
/-! ### the rules with the written part named, so that they stand within a comprehension -/
def rLenQ (K : PySem.W.Frag) : List V → Hp → VK → Prop := fun xs H Q => ∃ p ys, xs = [.ref p] ∧ (SqL K H p ys ∨ SqT K H p ys) ∧ Q (.int ys.length) H
def rListQ (K : PySem.W.Frag) : List V → Hp → VK → Prop := fun xs H Q => ∃ p ys, xs = [.ref p] ∧ (SqL K H p ys ∨ SqT K H p ys) ∧ ∀ l, H l = none → Q (.ref l) (upd H l (.lst ys))
def rTupQ (K : PySem.W.Frag) : List V → Hp → VK → Prop := fun xs H Q => ∃ p ys, xs = [.ref p] ∧ ((SqL K H p ys ∧ ∀ l, H l = none → Q (.ref l) (upd H l (.tup ys))) ∨ (SqT K H p ys ∧ Q (.ref p) H))
section
variable (K : PySem.W.Frag) {X : Cx}
theorem q_len (e : X.K = K) : CallR X (.builtin "len") (rLenQ K) := by subst e; exact call_len_seq
theorem q_list (e : X.K = K) : CallR X (.type "list") (rListQ K) := by subst e; exact call_list_of
theorem q_tuple (e : X.K = K) : CallR X (.type "tuple") (rTupQ K) := by subst e; exact call_tuple_of
theorem q_isi (e : X.K = K) : CallR X (.builtin "isinstance") (rIsi K) := by subst e; exact call_isi
theorem q_all (e : X.K = K) (hc : X.calm = true) : CallR X (.builtin "all") (rAll K) := by subst e; exact cr_all hc
theorem q_any (e : X.K = K) (hc : X.calm = true) : CallR X (.builtin "any") (rAny K) := by subst e; exact cr_any hc
theorem q_min (e : X.K = K) (hc : X.calm = true) : CallR X (.builtin "min") (rMin K) := by subst e; exact cr_min hc
theorem q_repr (e : X.K = K) (hG : X.A.guards = some []) (hu : X.A.units + 64 < cLine) : CallR X (.builtin "repr") (rRepr K) := by subst e; exact cr_repr hG hu
theorem q_ixT (e : X.K = K) : IxR X (rIxT K) := by subst e; exact ix_tup
theorem q_ixL (e : X.K = K) : IxR X (rIxL K) := by subst e; exact ix_list
theorem q_slT (e : X.K = K) : SlR X (rSlA K) := by subst e; exact sl_tupA
theorem q_slL (e : X.K = K) : SlR X (rSlL K) := by subst e; exact sl_list
theorem q_catT (e : X.K = K) : OpR X (binaryOp .Add) (rCatA K) := by subst e; exact op_catA
theorem q_eqD (e : X.K = K) (hu : X.A.units + 64 < cLine) : OpR X (compareOp .Eq) (rEqD K) := by subst e; exact op_eqD hu
theorem q_neD (e : X.K = K) (hu : X.A.units + 64 < cLine) : OpR X (compareOp .NotEq) (rNeD K) := by subst e; exact op_neD hu
theorem q_in (e : X.K = K) : OpR X (compareOp .In) (rIn K false) := by subst e; exact op_in_seq
theorem q_notin (e : X.K = K) : OpR X (compareOp .NotIn) (rIn K true) := by subst e; exact op_notIn_seq
theorem q_gT {es : List Expr} {k : Nat} {pos : Pos} {t : TGs} (n : Nat) (e : X.K = K) (hc : X.calm = true) (h : PGs X es t) (hn : (assignEach es X.env).length = n := by rfl) (hst : (assignEach es X.env).findIdx? (·.1) = none := by rfl) :
    PG X (.Tuple es k pos) (gTup K n t) := by subst e; exact pg_tup hc h hn hst
theorem q_iL {tg l : Expr} {tl : TE} (e : X.K = K) (h : PE X l tl) : PI X tg l (iList K tl) := by subst e; exact pi_list h
theorem q_iT {tg l : Expr} {tl : TE} (e : X.K = K) (h : PE X l tl) : PI X tg l (iTup K tl) := by subst e; exact pi_tup h
theorem q_revT {e : Expr} {te : TE} {k : Nat} {p1 p2 p3 pos : Pos} (ek : X.K = K) (he : PE X e te) : PE X (.Subscript e (.Slice none none (some (.UnaryOp .USub (.Constant (.int 1) k p1) p2)) p3) pos) (tRevT K te) := by subst ek; exact pe_revT he
theorem q_revL {e : Expr} {te : TE} {k : Nat} {p1 p2 p3 pos : Pos} (ek : X.K = K) (he : PE X e te) : PE X (.Subscript e (.Slice none none (some (.UnaryOp .USub (.Constant (.int 1) k p1) p2)) p3) pos) (tRevL K te) := by subst ek; exact pe_revL he
theorem q_iEnT {e : Expr} {ta : TA} {p pos tpos : Pos} {elts : List Expr} {kk : Nat} (ek : X.K = K) (hg : Gl X "enumerate") (hm : X.mg "enumerate" = none) (ha : PA X [e] ta) (hs : starEach [e] X.env = [(false, eval e X.env)] := by rfl) :
    PI X (.Tuple elts kk tpos) (.Call (.Name "enumerate" p) [e] [] pos) (iEnT K ta) := by subst ek; exact pi_enumT hg hm ha hs
theorem q_iEnL {e : Expr} {ta : TA} {p pos tpos : Pos} {elts : List Expr} {kk : Nat} (ek : X.K = K) (hg : Gl X "enumerate") (hm : X.mg "enumerate" = none) (ha : PA X [e] ta) (hs : starEach [e] X.env = [(false, eval e X.env)] := by rfl) :
    PI X (.Tuple elts kk tpos) (.Call (.Name "enumerate" p) [e] [] pos) (iEnum K ta) := by subst ek; exact pi_enum hg hm ha hs
end
end Gw
namespace Gw
open PySem PySem.Spec PyProof.Rows L2
/-! ### the law's draw: a dict of a list, a number, a list, a number -/
def kvD (l c : Addr) (r t : Int) : List (Key × V) := [(.inr "large", .ref l), (.inr "rest", .int r), (.inr "cells", .ref c), (.inr "turn", .int t)]
theorem k_lr : ¬ (Sum.inr "large" : Key) = .inr "rest" := by decide +kernel
theorem k_lc : ¬ (Sum.inr "large" : Key) = .inr "cells" := by decide +kernel
theorem k_lt : ¬ (Sum.inr "large" : Key) = .inr "turn" := by decide +kernel
theorem k_rc : ¬ (Sum.inr "rest" : Key) = .inr "cells" := by decide +kernel
theorem k_rt : ¬ (Sum.inr "rest" : Key) = .inr "turn" := by decide +kernel
theorem k_ct : ¬ (Sum.inr "cells" : Key) = .inr "turn" := by decide +kernel
section
variable {H : Hp} {d l c : Addr} {r t : Int}
theorem vD_large : valV (kvD l c r t) (.inr "large") = some (.ref l) := valV_pos rfl
theorem vD_rest : valV (kvD l c r t) (.inr "rest") = some (.int r) := (valV_neg k_lr).trans (valV_pos rfl)
theorem vD_cells : valV (kvD l c r t) (.inr "cells") = some (.ref c) := (valV_neg k_lc).trans ((valV_neg k_rc).trans (valV_pos rfl))
theorem vD_turn : valV (kvD l c r t) (.inr "turn") = some (.int t) := (valV_neg k_lt).trans ((valV_neg k_rt).trans ((valV_neg k_ct).trans (valV_pos rfl)))
theorem put_some {kvs : List (Key × V)} {k : Key} {v w : V} (h : valV kvs k = some v) : putK kvs k w = kvs.map fun kv => if kv.1 = k then (kv.1, w) else kv := by
  have e := valV_any k kvs
  rw [h] at e
  unfold putK
  rw [e]
  rfl
theorem pD_rest {r' : Int} : putK (kvD l c r t) (.inr "rest") (.int r') = kvD l c r' t := by
  rw [put_some vD_rest]
  simp only [kvD, List.map_cons, List.map_nil, if_neg k_lr, if_neg (fun e => k_rc (Eq.symm e) : ¬ (Sum.inr "cells" : Key) = .inr "rest"), if_neg (fun e => k_rt (Eq.symm e) : ¬ (Sum.inr "turn" : Key) = .inr "rest"), if_true]
theorem pD_turn {t' : Int} : putK (kvD l c r t) (.inr "turn") (.int t') = kvD l c r t' := by
  rw [put_some vD_turn]
  simp only [kvD, List.map_cons, List.map_nil, if_neg k_lt, if_neg k_rt, if_neg k_ct, if_true]
theorem gD_large (h : H d = some (.dK (kvD l c r t))) : DGet H d (.str "large") (some (.ref l)) := by have g := DGet.k (k := .inr "large") h; rw [vD_large] at g; exact g
theorem gD_rest (h : H d = some (.dK (kvD l c r t))) : DGet H d (.str "rest") (some (.int r)) := by have g := DGet.k (k := .inr "rest") h; rw [vD_rest] at g; exact g
theorem gD_cells (h : H d = some (.dK (kvD l c r t))) : DGet H d (.str "cells") (some (.ref c)) := by have g := DGet.k (k := .inr "cells") h; rw [vD_cells] at g; exact g
theorem gD_turn (h : H d = some (.dK (kvD l c r t))) : DGet H d (.str "turn") (some (.int t)) := by have g := DGet.k (k := .inr "turn") h; rw [vD_turn] at g; exact g
theorem uD_rest {r' : Int} (h : H d = some (.dK (kvD l c r t))) : DPut H d (.str "rest") (.int r') (upd H d (.dK (kvD l c r' t))) := by
  have g := DPut.k (k := .inr "rest") (v := .int r') h (by show 4 < sizeLine; decide)
  rw [pD_rest] at g
  exact g
theorem uD_turn {t' : Int} (h : H d = some (.dK (kvD l c r t))) : DPut H d (.str "turn") (.int t') (upd H d (.dK (kvD l c r t'))) := by
  have g := DPut.k (k := .inr "turn") (v := .int t') h (by show 4 < sizeLine; decide)
  rw [pD_turn] at g
  exact g
end
/-- a draw stands at d, its large numbers at l, its cells at c -/
structure Drw (H : Hp) (d l c : Addr) : Prop where
  ne : l ≠ c
  at' : ∃ (r t : Int) (ls cs : List Int), H d = some (.dK (kvD l c r t)) ∧ H l = some (.lst (ls.map V.int)) ∧ H c = some (.lst (cs.map V.int)) ∧ ls.length ≤ 63 ∧ cs.length ≤ 63
/-- what a draw's deed leaves: all but d and l stand as they stood -/
structure Nd (d l : Addr) (H H' : Hp) : Prop where
  hh : ∀ a o, a ≠ d → a ≠ l → H a = some o → H' a = some o
theorem Nd.refl {d l : Addr} {H : Hp} : Nd d l H H := ⟨fun _ _ _ _ h => h⟩
theorem Nd.trans {d l : Addr} {H H1 H2 : Hp} (a : Nd d l H H1) (b : Nd d l H1 H2) : Nd d l H H2 := ⟨fun x o h1 h2 h => b.hh x o h1 h2 (a.hh x o h1 h2 h)⟩
theorem Nd.of {d l : Addr} {H H' : Hp} (s : Same H H') : Nd d l H H' := ⟨fun a o _ _ h => s a o h⟩
theorem Nd.updD {d l : Addr} {H : Hp} {o : HO} : Nd d l H (upd H d o) := ⟨fun a u h1 _ h => by rw [upd_ne h1]; exact h⟩
theorem Nd.updL {d l : Addr} {H : Hp} {o : HO} : Nd d l H (upd H l o) := ⟨fun a u _ h2 h => by rw [upd_ne h2]; exact h⟩
theorem Drw.same {H H' : Hp} {d l c : Addr} (D : Drw H d l c) (s : Same H H') : Drw H' d l c := by
  obtain ⟨r, t, ls, cs, h1, h2, h3, h4, h5⟩ := D.at'
  exact ⟨D.ne, r, t, ls, cs, s _ _ h1, s _ _ h2, s _ _ h3, h4, h5⟩
theorem Drw.dl {H : Hp} {d l c : Addr} (D : Drw H d l c) : d ≠ l ∧ d ≠ c := by
  obtain ⟨r, t, ls, cs, h1, h2, h3, h4, h5⟩ := D.at'
  exact ⟨ne_of h1 h2 (fun z => nomatch z), ne_of h1 h3 (fun z => nomatch z)⟩
/-- the view beside a draw -/
structure Vw (G H : Hp) (d l c : Addr) : Prop where
  gh : Same G H
  gd : G d = none
  gl : G l = none
  gc : G c = none
  dr : Drw H d l c
/-- one deed or many: the view grows by what is new, the draw stands -/
structure Nw (d l c : Addr) (G H G' H' : Hp) : Prop where
  gg : Same G G'
  vw : Vw G' H' d l c
  nd : Nd d l H H'
  fr : ∀ a, H a ≠ none → G' a = G a
theorem Nw.refl {d l c : Addr} {G H : Hp} (v : Vw G H d l c) : Nw d l c G H G H := ⟨Same.refl G, v, Nd.refl, fun _ _ => rfl⟩
theorem Nw.keeps {d l c : Addr} {G H G' H' : Hp} (n : Nw d l c G H G' H') {a : Addr} (h : H a ≠ none) : H' a ≠ none := by
  cases q : H a with
  | none => exact absurd q h
  | some o =>
    by_cases h1 : a = d
    · obtain ⟨r, t, ls, cs, e, _⟩ := n.vw.dr.at'
      rw [h1, e]; exact fun z => nomatch z
    · by_cases h2 : a = l
      · obtain ⟨r, t, ls, cs, _, e, _⟩ := n.vw.dr.at'
        rw [h2, e]; exact fun z => nomatch z
      · rw [n.nd.hh a o h1 h2 q]; exact fun z => nomatch z
theorem Nw.trans {d l c : Addr} {G H G1 H1 G2 H2 : Hp} (a : Nw d l c G H G1 H1) (b : Nw d l c G1 H1 G2 H2) : Nw d l c G H G2 H2 :=
  ⟨a.gg.trans b.gg, b.vw, a.nd.trans b.nd, fun x h => (b.fr x (a.keeps h)).trans (a.fr x h)⟩
theorem Nw.of {d l c : Addr} {G H G' H' : Hp} (v : Vw G H d l c) (n : Nx G H G' H') : Nw d l c G H G' H' := by
  obtain ⟨r, t, ls, cs, h1, h2, h3, h4, h5⟩ := v.dr.at'
  exact ⟨n.gg, ⟨n.gh, (n.fr d (ne_none h1)).trans v.gd, (n.fr l (ne_none h2)).trans v.gl, (n.fr c (ne_none h3)).trans v.gc, v.dr.same n.hh⟩, Nd.of n.hh, n.fr⟩
/-- a deed upon the draw alone -/
theorem Nw.draw {d l c : Addr} {G H H' : Hp} (v : Vw G H d l c) (n : Nd d l H H') (D : Drw H' d l c) : Nw d l c G H G H' :=
  ⟨Same.refl G, ⟨fun a o e => n.hh a o (fun z => by rw [z, v.gd] at e; cases e) (fun z => by rw [z, v.gl] at e; cases e) (v.gh a o e), v.gd, v.gl, v.gc, D⟩, n, fun _ _ => rfl⟩
/-! ### the promises of the draw's defs -/
def spBegun (K : PySem.W.Frag) : Sp := fun vs H Q _ => ∃ (a : Addr) (ns : List Int), vs = [.ref a] ∧ SqL K H a (ns.map V.int) ∧ ns.length ≤ 63 ∧ ∀ d l c H', Same H H' → H d = none → H l = none → H c = none → Drw H' d l c → Q (.ref d) H'
def spMixed : Sp := fun vs H Q _ => ∃ d l c, vs = [.ref d] ∧ Drw H d l c ∧ ∀ i H', Nd d l H H' → Drw H' d l c → Q (.int i) H'
def spTake : Sp := fun vs H Q _ => ∃ d l c n, vs = [.ref d, .int n] ∧ Drw H d l c ∧ 0 < n ∧ n < 1000000000 ∧ ∀ (k : Int) H', 0 ≤ k → k < n → Nd d l H H' → Drw H' d l c → Q (.int k) H'
def spPick (K : PySem.W.Frag) : Sp := fun vs H Q _ => ∃ d l c a xs, vs = [.ref d, .ref a] ∧ Drw H d l c ∧ a ≠ l ∧ SqL K H a xs ∧ 0 < xs.length ∧ xs.length < 1000000 ∧ ∀ v H', v ∈ xs → Nd d l H H' → Drw H' d l c → Q v H'
/-- several ways that meet behind a statement -/
theorem seq_cut {t u : TS} {D : Ends} {σ : L2.St} {H : Hp} (P : L2.St → Hp → Prop) (hu : ∀ σ' H', P σ' H' → u D σ' H') (ht : (∀ σ' H', P σ' H' → u D σ' H') → t { D with nx := u D } σ H) : tSeq t u D σ H := ht hu
theorem seqIx {k n : Nat} (h : k < n) : seqIndex? (k : Int) n = some k := by
  unfold seqIndex?
  simp
  omega
theorem if_off {A B : Hp → Prop} {b : Bool} {H : Hp} (hb : b = false) (h : B H) : if b = true then A H else B H := by
  subst hb
  exact iteF h
theorem if_on {A B : Hp → Prop} {b : Bool} {H : Hp} (hb : b = true) (h : A H) : if b = true then A H else B H := by
  subst hb
  exact iteT h
theorem fmod_in {i j : Int} (h : 0 < j) : 0 ≤ i.fmod j ∧ i.fmod j < j := by
  rw [Int.fmod_eq_emod_of_nonneg _ (Int.le_of_lt h)]
  exact ⟨Int.emod_nonneg _ (by omega), Int.emod_lt_of_pos _ h⟩
theorem abs_if (i : Int) : (if i < 0 then -i else i) = ((i.natAbs : Nat) : Int) := by
  split <;> omega
end Gw
namespace Gw
open PySem PySem.Spec PyProof.Rows L2
theorem k_rl : ¬ (Sum.inr "rest" : Key) = .inr "large" := fun e => k_lr e.symm
theorem merge_kvD (l c : Addr) (r t : Int) : mergeK [] (kvD l c r t) = kvD l c r t := by
  unfold mergeK kvD
  simp only [List.foldl_cons, List.foldl_nil]
  rw [putK_new (kvs := []) _ valV_nil]
  rw [putK_new (kvs := [] ++ [_]) _ ((valV_neg (show ¬ (Sum.inr "large" : Key) = .inr "rest" from k_lr)).trans valV_nil)]
  rw [putK_new (kvs := [] ++ [_] ++ [_]) _ ((valV_neg k_lc).trans ((valV_neg k_rc).trans valV_nil))]
  rw [putK_new (kvs := [] ++ [_] ++ [_] ++ [_]) _ ((valV_neg k_lt).trans ((valV_neg k_rt).trans ((valV_neg k_ct).trans valV_nil)))]
  rfl
/-- ints told one by one -/
theorem ints_get {xs : List Int} {i : Nat} {v : V} (h : (xs.map V.int)[i]? = some v) : ∃ n, xs[i]? = some n ∧ v = .int n := by
  rw [List.getElem?_map] at h
  cases e : xs[i]? with
  | none => rw [e] at h; cases h
  | some n => rw [e] at h; exact ⟨n, rfl, (Option.some.inj h).symm⟩
theorem shaped_ints (zs : List Int) : SeqAt.shaped (.list (zs.map .int)) = true := by
  have e1 : ∀ zs : List Int, PyData.canLayAll0 (zs.map .int) = true := fun zs => by
    induction zs with
    | nil => rfl
    | cons z zs ih => rw [List.map_cons, PyData.canLayAll0, ih]; rfl
  have e2 : ∀ zs : List Int, PyData.depthAll (zs.map .int) = 0 := fun zs => by
    induction zs with
    | nil => rfl
    | cons z zs ih => rw [List.map_cons, PyData.depthAll, ih]; rfl
  unfold SeqAt.shaped
  rw [Bool.and_eq_true]
  refine ⟨?_, decide_eq_true ?_⟩
  · rw [PyData.canLay0]; exact e1 zs
  · rw [PyData.depth, e2 zs]; decide
theorem shaped_intsT (zs : List Int) : SeqAt.shaped (.tuple (zs.map .int)) = true := by
  have e1 : ∀ zs : List Int, PyData.canLayAll0 (zs.map .int) = true := fun zs => by
    induction zs with
    | nil => rfl
    | cons z zs ih => rw [List.map_cons, PyData.canLayAll0, ih]; rfl
  have e2 : ∀ zs : List Int, PyData.depthAll (zs.map .int) = 0 := fun zs => by
    induction zs with
    | nil => rfl
    | cons z zs ih => rw [List.map_cons, PyData.depthAll, ih]; rfl
  unfold SeqAt.shaped
  rw [Bool.and_eq_true]
  refine ⟨?_, decide_eq_true ?_⟩
  · rw [PyData.canLay0]; exact e1 zs
  · rw [PyData.depth, e2 zs]; decide
/-- left != [] -/
theorem ne_nil {K : PySem.W.Frag} {σ : L2.St} {H : Hp} {i : Nat} {p : Addr} {zs : List Int} {Q : V → Hp → Prop} (hσ : σ[i]? = some (some (.ref p))) (hp : H p = some (.lst (zs.map V.int)))
    (q : ∀ H', Same H H' → (∀ a, a ≠ p → H' a ≠ H a → H a = none) → Q (.bl (!zs.isEmpty)) H') : tOp (rNeD K) (tVar i) (tLst tNil) σ H Q := by
  refine ⟨_, hσ, Nat.zero_le _, fun x hx => ?_⟩
  have hpx : p ≠ x := ne_of_none hp hx
  have s : Same H (upd H x (.lst [])) := fun a o e => by rw [upd_ne (ne_of_none e hx)]; exact e
  refine ⟨.list (zs.map .int), .list [], .lst (SqL.of (s _ _ hp)) (dpa_ints zs), .lst (SqL.of upd_same) .nil, shaped_ints zs, by decide, ?_⟩
  have e : (!PyData.eqv (.list (zs.map .int)) (.list [])) = !zs.isEmpty := by
    cases zs with
    | nil => rfl
    | cons z zs => rfl
  rw [e]
  refine q _ s fun a h1 h2 => ?_
  by_cases hax : a = x
  · rw [hax]; exact hx
  · rw [upd_ne hax] at h2; exact absurd rfl h2
theorem seq_asg {te : TE} {i : Nat} {u : TS} {D : Ends} {σ : L2.St} {H : Hp} (h : te σ H fun x H1 => u D (σ.set i (some x)) H1) : tSeq (tAsg te (gName i)) u D σ H := h
theorem tp_c {k : V} {tv : TE} {trs : List (TE × TE)} {σ : L2.St} {H : Hp} {Q : List (V × V) → Hp → Prop} (h : tv σ H fun v H2 => tPairs trs σ H2 fun ps H3 => Q ((k, v) :: ps) H3) : tPairs ((tC k, tv) :: trs) σ H Q := h
theorem tp_cc {k v : V} {trs : List (TE × TE)} {σ : L2.St} {H : Hp} {Q : List (V × V) → Hp → Prop} (h : tPairs trs σ H fun ps H3 => Q ((k, v) :: ps) H3) : tPairs ((tC k, tC v) :: trs) σ H Q := h
theorem tyes {σ : L2.St} {H : Hp} {A B : Hp → Prop} (h : A H) : tYes σ H fun b H3 => if b = true then A H3 else B H3 := h
theorem map_eraseIdx {α β : Type} (f : α → β) : ∀ (l : List α) (j : Nat), (l.map f).eraseIdx j = (l.eraseIdx j).map f
  | [], _ => rfl
  | _ :: _, 0 => rfl
  | a :: l, j + 1 => by
    show f a :: (l.map f).eraseIdx j = f a :: (l.eraseIdx j).map f
    rw [map_eraseIdx f l j]
theorem erase_perm {α : Type} : ∀ (l : List α) (j : Nat) (h : j < l.length), (l[j] :: l.eraseIdx j).Perm l
  | a :: l, 0, _ => List.Perm.refl _
  | a :: l, j + 1, h => by
    have h' : j < l.length := by rw [List.length_cons] at h; omega
    show (l[j] :: a :: l.eraseIdx j).Perm (a :: l)
    exact (List.Perm.swap a l[j] _).trans ((erase_perm l j h').cons a)
/-! ### promises of the law's makers -/
def spShuf (K : PySem.W.Frag) : Sp := fun vs H Q _ => ∃ (d l c a : Addr) (ns : List Int), vs = [.ref d, .ref a] ∧ Drw H d l c ∧ SqL K H a (ns.map V.int) ∧ ns.length ≤ 63 ∧
  ∀ (p : Addr) (ms : List Int) (H' : Hp), ms.Perm ns → H p = none → H' p = some (.lst (ms.map V.int)) → Nd d l H H' → Drw H' d l c → Q (.ref p) H'
/-- letters and what undoes them -/
structure IsBk (bs : List Int) : Prop where
  two : 2 ≤ bs.length
  six : bs.length ≤ 12
  inv : ∀ k : Nat, k < bs.length → ∃ j : Nat, bs[k]? = some (j : Int) ∧ bs[j]? = some (k : Int)
def spBack : Sp := fun vs H Q _ => ∃ d l c, vs = [.ref d] ∧ Drw H d l c ∧ ∀ (p : Addr) (bs : List Int) (H' : Hp), IsBk bs → bs.length ≤ 6 → H p = none → H' p = some (.tup (bs.map V.int)) → Nd d l H H' → Drw H' d l c → Q (.ref p) H'
def Letters (n : Nat) (ws : List Int) : Prop := ∀ x ∈ ws, 0 ≤ x ∧ x < (n : Int)
def spWord (K : PySem.W.Frag) : Sp := fun vs H Q _ => ∃ (d l c b : Addr) (xs : List V) (m : Int), vs = [.ref d, .ref b, .int m] ∧ Drw H d l c ∧ SqT K H b xs ∧ 0 < xs.length ∧ xs.length < 1000 ∧ 0 ≤ m ∧ m < 100000 ∧
  ∀ (p : Addr) (ws : List Int) (H' : Hp), (ws.length : Int) ≤ m → Letters xs.length ws → H p = none → H' p = some (.tup (ws.map V.int)) → Nd d l H H' → Drw H' d l c → Q (.ref p) H'
theorem Nd.seqT {K : PySem.W.Frag} {d l c b : Addr} {H H' : Hp} {xs : List V} (n : Nd d l H H') (D : Drw H d l c) (h : SqT K H b xs) : SqT K H' b xs := by
  obtain ⟨r, t, ls, cs, h1, h2, h3, h4, h5⟩ := D.at'
  rcases h with (e | ⟨o, e⟩) | e
  · exact SqT.of (n.hh b _ (ne_of e h1 (fun z => nomatch z)) (ne_of e h2 (fun z => nomatch z)) e)
  · exact .inl (.inr ⟨o, n.hh b _ (ne_of e h1 (fun z => nomatch z)) (ne_of e h2 (fun z => nomatch z)) e⟩)
  · exact .inr e
theorem Drw.upd {d l c p : Addr} {H : Hp} {o : HO} (D : Drw H d l c) (h1 : p ≠ d) (h2 : p ≠ l) (h3 : p ≠ c) : Drw (L2.upd H p o) d l c := by
  obtain ⟨r, t, ls, cs, e1, e2, e3, h4, h5⟩ := D.at'
  exact ⟨D.ne, r, t, ls, cs, by rw [upd_ne (Ne.symm h1)]; exact e1, by rw [upd_ne (Ne.symm h2)]; exact e2, by rw [upd_ne (Ne.symm h3)]; exact e3, h4, h5⟩
/-- an address that is new is none of the draw's -/
theorem Drw.off {d l c p : Addr} {H : Hp} (D : Drw H d l c) (hp : H p = none) : p ≠ d ∧ p ≠ l ∧ p ≠ c := by
  obtain ⟨r, t, ls, cs, e1, e2, e3, h4, h5⟩ := D.at'
  exact ⟨Ne.symm (ne_of_none e1 hp), Ne.symm (ne_of_none e2 hp), Ne.symm (ne_of_none e3 hp)⟩
end Gw
namespace Gw
open PySem PySem.Spec PyProof.Rows L2
/-! ### letters that are paired off -/
abbrev vN (l : List Nat) : List V := l.map fun (k : Nat) => V.int (k : Int)
theorem vN_ints (l : List Nat) : vN l = (l.map fun (k : Nat) => (k : Int)).map V.int := by rw [List.map_map]; rfl
theorem vN_last (l : List Nat) (x : Nat) : (vN (l ++ [x]))[(vN (l ++ [x])).length - 1]? = some (V.int (x : Int)) := by
  have e : (vN (l ++ [x])).length - 1 = (vN l).length := by simp [vN]
  rw [e]
  simp [vN]
theorem vN_drop (l : List Nat) (x : Nat) : (vN (l ++ [x])).dropLast = vN l := by simp [vN]
theorem last_of {α : Type} (l : List α) (h : l ≠ []) : ∃ m x, l = m ++ [x] := ⟨l.dropLast, l.getLast h, (List.dropLast_concat_getLast h).symm⟩
structure Pr (n : Nat) (L : List Nat) (fnd : List Int) : Prop where
  nd : L.Nodup
  lt : ∀ x ∈ L, x < n
  len : fnd.length = n
  inv : ∀ k, k < n → k ∉ L → ∃ j, j < n ∧ j ∉ L ∧ fnd[k]? = some (j : Int) ∧ fnd[j]? = some (k : Int)
theorem Pr.pair {n : Nat} {L L' : List Nat} {fnd : List Int} {x y : Nat} (P : Pr n L fnd) (hx : x ∈ L) (hy : y ∈ L) (hn : L'.Nodup) (hm : ∀ z, z ∈ L' ↔ z ∈ L ∧ z ≠ x ∧ z ≠ y) : Pr n L' ((fnd.set x (y : Int)).set y (x : Int)) := by
  have xl := P.lt x hx
  have yl := P.lt y hy
  have atY : ((fnd.set x (y : Int)).set y (x : Int))[y]? = some (x : Int) := by
    rw [List.getElem?_set_self (by rw [List.length_set, P.len]; exact yl)]
  have atX : ((fnd.set x (y : Int)).set y (x : Int))[x]? = some (y : Int) := by
    by_cases e : x = y
    · subst e; exact atY
    · rw [List.getElem?_set_ne (Ne.symm e), List.getElem?_set_self (by rw [P.len]; exact xl)]
  have other : ∀ k, k ≠ x → k ≠ y → ((fnd.set x (y : Int)).set y (x : Int))[k]? = fnd[k]? := fun k h1 h2 => by
    rw [List.getElem?_set_ne (Ne.symm h2), List.getElem?_set_ne (Ne.symm h1)]
  refine ⟨hn, fun z hz => P.lt z ((hm z).mp hz).1, by rw [List.length_set, List.length_set, P.len], fun k hk hkL => ?_⟩
  have hxL : x ∉ L' := fun z => ((hm x).mp z).2.1 rfl
  have hyL : y ∉ L' := fun z => ((hm y).mp z).2.2 rfl
  by_cases h1 : k = x
  · subst h1; exact ⟨y, yl, hyL, atX, atY⟩
  by_cases h2 : k = y
  · subst h2; exact ⟨x, xl, hxL, atY, atX⟩
  have hkL2 : k ∉ L := fun z => hkL ((hm k).mpr ⟨z, h1, h2⟩)
  obtain ⟨j, j1, j2, j3, j4⟩ := P.inv k hk hkL2
  have n1 : j ≠ x := fun z => j2 (z ▸ hx)
  have n2 : j ≠ y := fun z => j2 (z ▸ hy)
  exact ⟨j, j1, fun z => j2 ((hm j).mp z).1, by rw [other k h1 h2]; exact j3, by rw [other j n1 n2]; exact j4⟩
theorem Pr.done {n : Nat} {fnd : List Int} (P : Pr n [] fnd) (h2 : 2 ≤ n) (h12 : n ≤ 12) : IsBk fnd :=
  ⟨by rw [P.len]; exact h2, by rw [P.len]; exact h12, fun k hk => by
    obtain ⟨j, _, _, j3, j4⟩ := P.inv k (by rw [← P.len]; exact hk) List.not_mem_nil
    exact ⟨j, j3, j4⟩⟩
theorem Pr.start {n : Nat} {L : List Nat} (p : L.Perm (List.range n)) : Pr n L (List.replicate n 0) :=
  ⟨p.nodup_iff.mpr List.nodup_range, fun x hx => List.mem_range.mp (p.mem_iff.mp hx), List.length_replicate, fun k hk hkL => absurd (p.mem_iff.mpr (List.mem_range.mpr hk)) hkL⟩
theorem perm_nats {n : Nat} {ms : List Int} (p : ms.Perm ((List.range n).map fun (k : Nat) => (k : Int))) : ∃ L : List Nat, ms = L.map (fun (k : Nat) => (k : Int)) ∧ L.Perm (List.range n) := by
  refine ⟨ms.map Int.toNat, ?_, ?_⟩
  · rw [List.map_map]
    refine (List.map_id ms).symm.trans (List.map_congr_left fun x hx => ?_)
    obtain ⟨k, _, e⟩ := List.mem_map.mp (p.mem_iff.mp hx)
    rw [← e]; rfl
  · refine (p.map Int.toNat).trans ?_
    rw [List.map_map]
    have : (List.range n).map (Int.toNat ∘ fun (k : Nat) => (k : Int)) = List.range n := (List.map_congr_left fun x _ => rfl).trans (List.map_id _)
    rw [this]
theorem ix_nat {n k : Nat} (h : k < n) : ixN n (k : Int) = some k := by
  unfold ixN
  rw [if_pos (by omega), if_pos (by omega), Int.toNat_natCast]
end Gw
namespace Gw
open PySem PySem.Spec PyProof.Rows L2
/-! ### letters, in plain words -/
def isIntK : PyData → Bool | .int _ => true | .bool _ => true | _ => false
def isBoolK : PyData → Bool | .bool _ => true | _ => false
def isTupK : PyData → Bool | .tuple _ => true | _ => false
def isNum : PyData → Bool | .int _ => true | _ => false
def inR (lo hi : Int) : PyData → Bool | .int i => decide (lo ≤ i) && decide (i ≤ hi) | _ => false
def isRow (n : Int) : PyData → Bool | .tuple ds => ds.all (inR 0 (n - 1)) | _ => false
def isShort (n m : Int) : PyData → Bool | .tuple ds => decide ((ds.length : Int) ≤ m) && ds.all (inR 0 (n - 1)) | _ => false
def toI : PyData → Int | .int i => i | _ => 0
theorem kit_int : ∀ x : PyData, kitB (tyOf x) "int" = some (isIntK x)
  | .none => (by decide +kernel : kitB "NoneType" "int" = some false)
  | .bool _ => (by decide +kernel : kitB "bool" "int" = some true)
  | .int _ => (by decide +kernel : kitB "int" "int" = some true)
  | .str _ => (by decide +kernel : kitB "str" "int" = some false)
  | .list _ => (by decide +kernel : kitB "list" "int" = some false)
  | .tuple _ => (by decide +kernel : kitB "tuple" "int" = some false)
  | .dict _ => (by decide +kernel : kitB "dict" "int" = some false)
theorem kit_bool : ∀ x : PyData, kitB (tyOf x) "bool" = some (isBoolK x)
  | .none => (by decide +kernel : kitB "NoneType" "bool" = some false)
  | .bool _ => (by decide +kernel : kitB "bool" "bool" = some true)
  | .int _ => (by decide +kernel : kitB "int" "bool" = some false)
  | .str _ => (by decide +kernel : kitB "str" "bool" = some false)
  | .list _ => (by decide +kernel : kitB "list" "bool" = some false)
  | .tuple _ => (by decide +kernel : kitB "tuple" "bool" = some false)
  | .dict _ => (by decide +kernel : kitB "dict" "bool" = some false)
theorem kit_tup : ∀ x : PyData, kitB (tyOf x) "tuple" = some (isTupK x)
  | .none => (by decide +kernel : kitB "NoneType" "tuple" = some false)
  | .bool _ => (by decide +kernel : kitB "bool" "tuple" = some false)
  | .int _ => (by decide +kernel : kitB "int" "tuple" = some false)
  | .str _ => (by decide +kernel : kitB "str" "tuple" = some false)
  | .list _ => (by decide +kernel : kitB "list" "tuple" = some false)
  | .tuple _ => (by decide +kernel : kitB "tuple" "tuple" = some true)
  | .dict _ => (by decide +kernel : kitB "dict" "tuple" = some false)
/-- a tuple that may stand in memory -/
def Sized : PyData → Prop | .tuple ds => ds.length ≤ sizeLine | _ => True
def bkAt (ds : List PyData) (k : Nat) (d : PyData) : Bool := PyData.eqv (ds.getD (toI d).toNat .none) (.int (k : Int))
def isBackD : PyData → Bool
  | .tuple ds => decide (2 ≤ ds.length) && decide (ds.length ≤ 12) && (ds.all (inR 0 ((ds.length : Int) - 1)) && (ds.mapIdx (bkAt ds)).all id)
  | _ => false
theorem not_t {b : Bool} (h : (!b) = true) : b = false := by cases b <;> first | rfl | cases h
theorem not_f {b : Bool} (h : (!b) = false) : b = true := by cases b <;> first | rfl | cases h
theorem shaped_int (i : Int) : SeqAt.shaped (.int i) = true := by simp [SeqAt.shaped, PyData.canLay0, PyData.depth]
theorem mapIdx_then {α β γ : Type} (f : Nat → α → β) (g : β → γ) (l : List α) : (l.mapIdx f).map g = l.mapIdx fun i a => g (f i a) := by
  refine List.ext_getElem? fun i => ?_
  rw [List.getElem?_map, List.getElem?_mapIdx, List.getElem?_mapIdx, Option.map_map]
  rfl
theorem inR_int {lo hi : Int} {d : PyData} (h : inR lo hi d = true) : ∃ i, d = .int i ∧ lo ≤ i ∧ i ≤ hi := by
  cases d with
  | int i =>
    have h : (decide (lo ≤ i) && decide (i ≤ hi)) = true := h
    rw [Bool.and_eq_true, decide_eq_true_eq, decide_eq_true_eq] at h
    exact ⟨i, rfl, h.1, h.2⟩
  | _ => cases h
theorem all_inR {n : Nat} {ws : List Int} (h : Letters n ws) : (ws.map PyData.int).all (inR 0 ((n : Int) - 1)) = true := by
  rw [List.all_eq_true]
  intro d hd
  obtain ⟨x, hx, rfl⟩ := List.mem_map.mp hd
  have := h x hx
  show (decide (0 ≤ x) && decide (x ≤ (n : Int) - 1)) = true
  rw [decide_eq_true this.1, decide_eq_true (by omega)]
  rfl
theorem IsBk.letters {bs : List Int} (B : IsBk bs) : Letters bs.length bs := by
  intro x hx
  obtain ⟨k, hk, e⟩ := List.mem_iff_getElem.mp hx
  obtain ⟨j, j1, j2⟩ := B.inv k hk
  rw [List.getElem?_eq_getElem hk, e] at j1
  have hj := (List.getElem?_eq_some_iff.mp j2).1
  have := Option.some.inj j1
  omega
theorem IsBk.is {bs : List Int} (B : IsBk bs) : isBackD (.tuple (bs.map .int)) = true := by
  show (decide (2 ≤ (bs.map PyData.int).length) && decide ((bs.map PyData.int).length ≤ 12) && ((bs.map PyData.int).all (inR 0 (((bs.map PyData.int).length : Int) - 1)) && ((bs.map PyData.int).mapIdx (bkAt (bs.map PyData.int))).all id)) = true
  rw [List.length_map, decide_eq_true B.two, decide_eq_true B.six, all_inR B.letters]
  simp only [Bool.true_and, List.all_eq_true]
  intro b hb
  obtain ⟨k, hk, e⟩ := List.mem_iff_getElem.mp hb
  rw [List.length_mapIdx, List.length_map] at hk
  rw [List.getElem_mapIdx, List.getElem_map] at e
  obtain ⟨j, j1, j2⟩ := B.inv k hk
  rw [List.getElem?_eq_getElem hk] at j1
  have e1 : bs[k] = (j : Int) := Option.some.inj j1
  rw [← e]
  show PyData.eqv ((bs.map PyData.int).getD (toI (.int bs[k])).toNat .none) (.int (k : Int)) = true
  rw [e1]
  show PyData.eqv ((bs.map PyData.int).getD j .none) (.int (k : Int)) = true
  rw [List.getD_eq_getElem?_getD, List.getElem?_map, j2]
  show ((k : Int) == (k : Int)) = true
  exact beq_self_eq_true _
/-! ### neighbours taken out -/
def frSt (bs : List Int) (left : List Int) (x : Int) : List Int := if left ≠ [] ∧ left.getLast? = bs[x.toNat]? then left.dropLast else left ++ [x]
def frI (bs ws : List Int) : List Int := ws.foldl (frSt bs) []
theorem frI_take {bs ws : List Int} {i : Nat} {x : Int} (h : ws[i]? = some x) : frI bs (ws.take (i + 1)) = frSt bs (frI bs (ws.take i)) x := by
  unfold frI
  rw [List.take_succ, h, List.foldl_append]
  rfl
theorem frSt_len {bs left : List Int} {x : Int} : (frSt bs left x).length ≤ left.length + 1 := by
  unfold frSt
  split
  · rw [List.length_dropLast]; omega
  · rw [List.length_append]; exact Nat.le_refl _
theorem frI_len (bs : List Int) : ∀ (ws left : List Int), (ws.foldl (frSt bs) left).length ≤ left.length + ws.length
  | [], _ => Nat.le_refl _
  | x :: ws, left => by
    rw [List.foldl_cons, List.length_cons]
    have h1 := frI_len bs ws (frSt bs left x)
    have h2 := frSt_len (bs := bs) (left := left) (x := x)
    omega
theorem frSt_let {bs left : List Int} {x : Int} {n : Nat} (h : Letters n left) (hx : 0 ≤ x ∧ x < (n : Int)) : Letters n (frSt bs left x) := by
  unfold frSt
  split
  · exact fun y hy => h y ((List.dropLast_sublist left).subset hy)
  · intro y hy
    rcases List.mem_append.mp hy with hy | hy
    · exact h y hy
    · rw [List.mem_singleton.mp hy]; exact hx
theorem frI_let {bs : List Int} {n : Nat} : ∀ (ws left : List Int), Letters n left → Letters n ws → Letters n (ws.foldl (frSt bs) left)
  | [], _, h, _ => h
  | x :: ws, left, h, hw => by
    rw [List.foldl_cons]
    exact frI_let ws _ (frSt_let h (hw x List.mem_cons_self)) fun y hy => hw y (List.mem_cons_of_mem _ hy)
end Gw
namespace Gw
open PySem PySem.Spec PyProof.Rows L2
def top (i : Nat) : Stmt := PySem.Challenge.pw_gatewords_k00_errors_of_all_parts.main.body.getD i (.Pass ⟨0, 0, 0, 0⟩)
def clsM (c : Stmt) (j : Nat) : Stmt := match c with
  | .ClassDef _ _ _ b _ _ _ _ _ _ _ => b.getD j (.Pass ⟨0, 0, 0, 0⟩)
  | _ => .Pass ⟨0, 0, 0, 0⟩
abbrev s_law_begun : Stmt := top 34
abbrev N_law_begun : List Str := ["script", "large", "grain"]
abbrev P_law_begun : List Str := ["script"]
theorem sc_law_begun : FnScope N_law_begun P_law_begun (defScope s_law_begun) := ⟨rfl, rfl, rfl, by decide +kernel, rfl, by decide +kernel, by decide +kernel⟩
abbrev s_law_mixed : Stmt := top 35
abbrev N_law_mixed : List Str := ["draw", "turn", "found", "great", "blend", "grain"]
abbrev P_law_mixed : List Str := ["draw"]
theorem sc_law_mixed : FnScope N_law_mixed P_law_mixed (defScope s_law_mixed) := ⟨rfl, rfl, rfl, by decide +kernel, rfl, by decide +kernel, by decide +kernel⟩
abbrev s_law_take : Stmt := top 36
abbrev N_law_take : List Str := ["draw", "amount", "found"]
abbrev P_law_take : List Str := ["draw", "amount"]
theorem sc_law_take : FnScope N_law_take P_law_take (defScope s_law_take) := ⟨rfl, rfl, rfl, by decide +kernel, rfl, by decide +kernel, by decide +kernel⟩
abbrev s_law_pick : Stmt := top 37
abbrev N_law_pick : List Str := ["draw", "some"]
abbrev P_law_pick : List Str := ["draw", "some"]
theorem sc_law_pick : FnScope N_law_pick P_law_pick (defScope s_law_pick) := ⟨rfl, rfl, rfl, by decide +kernel, rfl, by decide +kernel, by decide +kernel⟩
abbrev s_law_any : Stmt := top 38
abbrev N_law_any : List Str := ["draw", "some"]
abbrev P_law_any : List Str := ["draw"]
theorem sc_law_any : FnScope N_law_any P_law_any (defScope s_law_any) := ⟨rfl, rfl, rfl, by decide +kernel, rfl, by decide +kernel, by decide +kernel⟩
abbrev s_law_kinds : Stmt := top 39
abbrev N_law_kinds : List Str := ["error", "found"]
abbrev P_law_kinds : List Str := ["error"]
theorem sc_law_kinds : FnScope N_law_kinds P_law_kinds (defScope s_law_kinds) := ⟨rfl, rfl, rfl, by decide +kernel, rfl, by decide +kernel, by decide +kernel⟩
abbrev s_law_plain_errors : Stmt := top 40
abbrev N_law_plain_errors : List Str := ["words_here", "found"]
abbrev P_law_plain_errors : List Str := ["words_here"]
theorem sc_law_plain_errors : FnScope N_law_plain_errors P_law_plain_errors (defScope s_law_plain_errors) := ⟨rfl, rfl, rfl, by decide +kernel, rfl, by decide +kernel, by decide +kernel⟩
abbrev s_law_errors_of : Stmt := top 41
abbrev N_law_errors_of : List Str := ["each", "found"]
abbrev P_law_errors_of : List Str := ["each"]
theorem sc_law_errors_of : FnScope N_law_errors_of P_law_errors_of (defScope s_law_errors_of) := ⟨rfl, rfl, rfl, by decide +kernel, rfl, by decide +kernel, by decide +kernel⟩
abbrev s_law : Stmt := top 42
abbrev N_law : List Str := "script" :: "draw" :: "words_here" :: "each" :: "threes_here" :: "errors_here" :: "item" :: "spot" :: "error" :: "k" :: "base_here" :: []
abbrev P_law : List Str := ["script"]
theorem sc_law : FnScope N_law P_law (defScope s_law) := ⟨rfl, rfl, rfl, by decide +kernel, rfl, by decide +kernel, by decide +kernel⟩
end Gw
namespace Gw
open PySem PySem.Spec PyProof.Rows L2
section
variable {P : Program} {w : World} {K : PySem.W.Frag} {mg : Str → Option Value} {base : Heap} {f : Addr} {fd : FuncData}
/-- a def whose body is told by its reading -/
theorem ok_law_mixed (D : DefAt K mg "_law_mixed" s_law_mixed P_law_mixed f fd) (T : Bt mg) : Ok P w K mg base "_law_mixed" P_law_mixed 1 spMixed := by
  refine D.ok (D.F.ok sc_law_mixed (fun vs H Q E h => ?_) fun cdv A outer s H vs Q E hr h => ?_)
  · obtain ⟨d, l, c, rfl, _⟩ := h; rfl
  have S := sc_law_mixed
  obtain ⟨d, l, c, rfl, Dw, q⟩ := h
  refine ⟨_, (pss_cons (ps_dput (hu_of hr) (pv 0) pe_str (pe_op op_add (pe_dget (hu_of hr) (pv 0) pe_str (fun _ _ => rfl)) pe_int) rfl)
  (pss_cons (ps_par (i := 1) (j := 2) rfl S.nd rfl rfl (by decide) rfl rfl (pa_cons (pe_callTy call_int1 (by rfl) T.int (by decide +kernel) (pa_cons (pe_dget (hu_of hr) (pv 0) pe_str (fun _ _ => rfl)) pa_nil)) (pa_cons pe_int pa_nil)) (by rfl))
  (pss_cons (ps_for PassesOwn.never rfl (q_iL K rfl (pe_lst (pa_cons pe_int (pa_cons pe_int (pa_cons pe_int pa_nil))))) (pg_name (i := 3) S.nd rfl (by first | exact .inl rfl | exact .inr rfl)) (pss_cons (ps_set (i := 4) S.nd rfl (by first | exact .inl rfl | exact .inr rfl) (pe_op op_modN (pe_op op_add (pe_op op_mul (pv 1) pe_int) (pe_op op_fdivN (pv 3) pe_int)) (pv 3)))
  (pss_cons (ps_for PassesOwn.never rfl (q_iL K rfl (pe_dget (hu_of hr) (pv 0) pe_str (fun _ _ => rfl))) (pg_name (i := 5) S.nd rfl (by first | exact .inl rfl | exact .inr rfl)) (pss_one (ps_set (i := 4) S.nd rfl (by first | exact .inl rfl | exact .inr rfl) (pe_op op_modN (pe_op op_add (pe_op op_mul (pv 4) pe_int) (pe_callTy call_int1 (by rfl) T.int (by decide +kernel) (pa_cons (pv 5) pa_nil))) (pv 3)))))
  (pss_one (ps_set (i := 2) S.nd rfl (by first | exact .inl rfl | exact .inr rfl) (pe_op op_add (pe_op op_mul (pv 2) pe_int) (pe_op op_modN (pe_op op_pow (pv 4) pe_int) (pv 3))))))))
  (pss_one (ps_ret (pv 2)))))), ?_⟩
  obtain ⟨r, t, ls, cs, h1, h2, h3, h4, h5⟩ := Dw.at'
  obtain ⟨ndl, ndc⟩ := Dw.dl
  refine ⟨_, rfl, d, _, rfl, gD_turn h1, t, 1, rfl, rfl, _, rfl, d, _, rfl, uD_turn h1, ?_⟩
  have e1 : upd H d (.dK (kvD l c r (t + 1))) d = some (.dK (kvD l c r (t + 1))) := upd_same
  refine ⟨_, rfl, d, _, rfl, gD_turn e1, .inl ⟨_, rfl, _, _, rfl, ?_⟩⟩
  refine ⟨by show 3 ≤ sizeLine; decide, fun p hp => ?_⟩
  have hpd : d ≠ p := ne_of_none e1 hp
  have hpc : c ≠ p := ne_of_none (o := .lst (cs.map V.int)) (by rw [upd_ne (Ne.symm ndc)]; exact h3) hp
  have hpl : l ≠ p := ne_of_none (o := .lst (ls.map V.int)) (by rw [upd_ne (Ne.symm ndl)]; exact h2) hp
  generalize hH1 : upd (upd H d (.dK (kvD l c r (t + 1)))) p (.lst [.int 2147483629, .int 2147483587, .int 2147483579]) = H1
  have g1 : H1 d = some (.dK (kvD l c r (t + 1))) := by rw [← hH1, upd_ne hpd]; exact e1
  have g3 : H1 c = some (.lst (cs.map V.int)) := by rw [← hH1, upd_ne hpc, upd_ne (Ne.symm ndc)]; exact h3
  have g2 : H1 l = some (.lst (ls.map V.int)) := by rw [← hH1, upd_ne hpl, upd_ne (Ne.symm ndl)]; exact h2
  have gp : H1 p = some (.lst [.int 2147483629, .int 2147483587, .int 2147483579]) := by rw [← hH1]; exact upd_same
  refine ⟨p, rfl, ⟨_, SqL.of gp⟩, for_list (K := K) (a := p) (xs := [.int 2147483629, .int 2147483587, .int 2147483579]) (fun i σ Hc => H1 = Hc ∧ ∃ fo x3 x4 x5, σ = [some (.ref d), some (.int (t + 1)), some (.int fo), x3, x4, x5]) ⟨rfl, 0, none, none, none, rfl⟩ (fun i σ Hc _ hp => hp.1 ▸ SqL.of gp) ?_ ?_⟩
  · rintro i x σ Hc hi ⟨rfl, fo, x3, x4, x5, rfl⟩
    obtain ⟨g, rfl, hg0, hg1⟩ : ∃ g : Int, x = .int g ∧ 0 < g ∧ g < 2 ^ 32 := by
      have hm := List.mem_of_getElem? hi
      rcases List.mem_cons.mp hm with rfl | hm
      · exact ⟨_, rfl, by decide, by decide⟩
      rcases List.mem_cons.mp hm with rfl | hm
      · exact ⟨_, rfl, by decide, by decide⟩
      rw [List.mem_singleton.mp hm]
      exact ⟨_, rfl, by decide, by decide⟩
    refine ⟨_, rfl, _, _, rfl, rfl, .inr ⟨by decide, by decide⟩, _, rfl, _, _, rfl, rfl, ⟨by decide, by decide⟩, _, _, rfl, rfl, _, rfl, _, _, rfl, rfl, by omega, ?_⟩
    refine ⟨_, rfl, d, _, rfl, gD_cells g1, c, rfl, ⟨_, SqL.of g3⟩, for_list (K := K) (a := c) (xs := cs.map V.int) (fun j σ Hc => H1 = Hc ∧ ∃ (b : Int) (y5 : Option V), 0 ≤ b ∧ b < g ∧ σ = [some (.ref d), some (.int (t + 1)), some (.int fo), some (.int g), some (.int b), y5]) ⟨rfl, _, x5, (fmod_in hg0).1, (fmod_in hg0).2, rfl⟩ (fun j σ Hc _ hp => hp.1 ▸ SqL.of g3) ?_ ?_⟩
    · rintro j x σ Hc hj ⟨rfl, b, y5, hb0, hb1, rfl⟩
      obtain ⟨n, rfl⟩ : ∃ n, x = .int n := by
        rw [List.getElem?_map] at hj
        cases e : cs[j]? with
        | none => rw [e] at hj; cases hj
        | some n => rw [e] at hj; exact ⟨n, (Option.some.inj hj).symm⟩
      exact ⟨_, rfl, _, _, rfl, rfl, .inr ⟨by decide, by decide⟩, _, rfl, .inl ⟨_, rfl, _, _, rfl, rfl, _, rfl, _, _, rfl, rfl, by omega, rfl, _, _, (fmod_in hg0).1, (fmod_in hg0).2, rfl⟩⟩
    · rintro σ Hc ⟨rfl, b, y5, hb0, hb1, rfl⟩
      refine ⟨_, rfl, _, _, rfl, rfl, .inr ⟨by decide, by decide⟩, _, rfl, _, _, rfl, rfl, ⟨by decide, by decide, by omega⟩, _, rfl, _, _, rfl, rfl, by omega, _, _, rfl, rfl, rfl, _, _, _, _, rfl⟩
  · rintro σ Hc ⟨rfl, fo, x3, x4, x5, rfl⟩
    refine ⟨_, rfl, q _ _ ⟨fun a o n1 n2 e => ?_⟩ ⟨Dw.ne, r, t + 1, ls, cs, g1, g2, g3, h4, h5⟩⟩
    have hap : a ≠ p := ne_of_none (o := o) (by rw [upd_ne n1]; exact e) hp
    rw [← hH1, upd_ne hap, upd_ne n1]
    exact e

theorem ok_law_take (D : DefAt K mg "_law_take" s_law_take P_law_take f fd) (T : Bt mg) (h__law_mixed : Ok P w K mg base "_law_mixed" P_law_mixed 1 spMixed) : Ok P w K mg base "_law_take" P_law_take 2 spTake := by
  refine D.ok (D.F.ok sc_law_take (fun vs H Q E h => ?_) fun cdv A outer s H vs Q E hr h => ?_)
  · obtain ⟨d, l, c, n, rfl, _⟩ := h; rfl
  have S := sc_law_take
  obtain ⟨d, l, c, n, rfl, Dw, hn0, hn1, q⟩ := h
  refine ⟨_, (pss_cons (ps_if (pt_cmpR op_eq (pe_dget (hu_of hr) (pv 0) pe_str (fun _ _ => rfl)) pe_int (nomark _)) (pss_one (ps_dput (hu_of hr) (pv 0) pe_str (pe_ifExp (pt_cmpR (q_neD K rfl hr.units) (pe_dget (hu_of hr) (pv 0) pe_str (fun _ _ => rfl)) (pe_lst pa_nil) (nomark _)) (pe_bm PySem.F.plainAttrs_list PySem.F.slot_list_pop PySem.F.type_list_pop mt_popAt (pe_dget (hu_of hr) (pv 0) pe_str (fun _ _ => rfl)) (pa_cons pe_int pa_nil)) (pe_ok h__law_mixed (hr.mono (by decide)) (by rfl) (pa_cons (pv 0) pa_nil))) rfl)) pss_nil)
  (pss_cons (ps_set (i := 2) S.nd rfl (by first | exact .inl rfl | exact .inr rfl) (pe_op op_modN (pe_callTy call_int1 (by rfl) T.int (by decide +kernel) (pa_cons (pe_dget (hu_of hr) (pv 0) pe_str (fun _ _ => rfl)) pa_nil)) (pv 1)))
  (pss_cons (ps_dput (hu_of hr) (pv 0) pe_str (pe_op op_fdivN (pe_callTy call_int1 (by rfl) T.int (by decide +kernel) (pa_cons (pe_dget (hu_of hr) (pv 0) pe_str (fun _ _ => rfl)) pa_nil)) (pv 1)) rfl)
  (pss_one (ps_ret (pv 2)))))), ?_⟩
  refine seq_cut (fun σ' H' => σ' = [some (.ref d), some (.int n), none] ∧ Nd d l H H' ∧ Drw H' d l c) ?_ (fun fin => ?_)
  · rintro σ H2 ⟨rfl, n2, D2⟩
    obtain ⟨r, t, ls, cs, h1, h2, h3, h4, h5⟩ := D2.at'
    obtain ⟨ndl, ndc⟩ := D2.dl
    refine ⟨_, rfl, d, _, rfl, gD_rest h1, .inl ⟨_, rfl, _, rfl, _, _, rfl, rfl, by omega, ?_⟩⟩
    refine ⟨_, rfl, d, _, rfl, gD_rest h1, .inl ⟨_, rfl, _, rfl, _, _, rfl, rfl, ⟨by omega, by omega⟩, ?_⟩⟩
    refine ⟨_, rfl, d, _, rfl, uD_rest h1, _, rfl, ?_⟩
    refine q _ _ (fmod_in hn0).1 (fmod_in hn0).2 (n2.trans Nd.updD) ⟨D2.ne, _, t, ls, cs, upd_same, ?_, ?_, h4, h5⟩
    · rw [upd_ne (Ne.symm ndl)]; exact h2
    · rw [upd_ne (Ne.symm ndc)]; exact h3
  · obtain ⟨r, t, ls, cs, h1, h2, h3, h4, h5⟩ := Dw.at'
    obtain ⟨ndl, ndc⟩ := Dw.dl
    refine ⟨_, rfl, d, _, rfl, gD_rest h1, rfl, _, rfl, ite2 (fun _ => ?_) (fun _ => ?_)⟩
    · -- the large ones first
      refine ⟨_, rfl, d, _, rfl, gD_large h1, Nat.zero_le _, fun p hp => ?_⟩
      have hpl : l ≠ p := ne_of_none h2 hp
      have hpd : d ≠ p := ne_of_none h1 hp
      have hpc : c ≠ p := ne_of_none h3 hp
      have k2 : upd H p (.lst []) l = some (.lst (ls.map V.int)) := by rw [upd_ne hpl]; exact h2
      have kd : upd H p (.lst []) d = some (.dK (kvD l c r t)) := by rw [upd_ne hpd]; exact h1
      have kc : upd H p (.lst []) c = some (.lst (cs.map V.int)) := by rw [upd_ne hpc]; exact h3
      have nd0 : Nd d l H (upd H p (.lst [])) := ⟨fun a o _ _ e => by rw [upd_ne (ne_of_none e hp)]; exact e⟩
      refine ⟨.list (ls.map .int), .list [], .lst (SqL.of k2) (dpa_ints ls), .lst (SqL.of upd_same) .nil, ?_, by decide, ?_⟩
      · have e1 : ∀ zs : List Int, PyData.canLayAll0 (zs.map .int) = true := fun zs => by
          induction zs with
          | nil => rfl
          | cons z zs ih => rw [List.map_cons, PyData.canLayAll0, ih]; rfl
        have e2 : ∀ zs : List Int, PyData.depthAll (zs.map .int) = 0 := fun zs => by
          induction zs with
          | nil => rfl
          | cons z zs ih => rw [List.map_cons, PyData.depthAll, ih]; rfl
        unfold SeqAt.shaped
        rw [Bool.and_eq_true]
        refine ⟨?_, decide_eq_true ?_⟩
        · rw [PyData.canLay0]; exact e1 ls
        · rw [PyData.depth, e2 ls]; decide
      refine ⟨_, rfl, ?_⟩
      cases ls with
      | nil =>
        refine iteF ?_
        exact ⟨_, rfl, d, l, c, rfl, ⟨Dw.ne, r, t, [], cs, kd, k2, kc, h4, h5⟩, fun i H3 n3 D3 => by
          obtain ⟨r3, t3, ls3, cs3, g1, g2, g3, g4, g5⟩ := D3.at'
          obtain ⟨m1, m2⟩ := D3.dl
          exact ⟨_, rfl, d, _, rfl, uD_rest g1, fin _ _ ⟨rfl, (nd0.trans n3).trans Nd.updD, D3.ne, _, t3, ls3, cs3, upd_same, by rw [upd_ne (Ne.symm m1)]; exact g2, by rw [upd_ne (Ne.symm m2)]; exact g3, g4, g5⟩⟩⟩
      | cons z zs =>
        refine iteT ?_
        refine ⟨_, rfl, d, _, rfl, gD_large kd, .inl ⟨rfl, _, SqL.of k2⟩, l, _, 0, 0, V.int z, rfl, rfl, k2, by decide, by decide, ?_, rfl, ?_⟩
        · exact seqIx (k := 0) (by rw [List.map_cons, List.length_cons]; omega)
        have k4 : upd (upd H p (.lst [])) l (.lst (zs.map V.int)) d = some (.dK (kvD l c r t)) := by rw [upd_ne ndl]; exact kd
        refine ⟨_, rfl, d, _, rfl, uD_rest k4, fin _ _ ⟨rfl, (nd0.trans Nd.updL).trans Nd.updD, Dw.ne, _, t, zs, cs, upd_same, ?_, ?_, ?_, h5⟩⟩
        · rw [upd_ne (Ne.symm ndl)]; exact upd_same
        · rw [upd_ne (Ne.symm ndc), upd_ne (Ne.symm Dw.ne)]; exact kc
        · rw [List.length_cons] at h4; omega
    · exact fin _ _ ⟨rfl, Nd.refl, Dw⟩
theorem ok_law_pick (D : DefAt K mg "_law_pick" s_law_pick P_law_pick f fd) (T : Bt mg) (h__law_take : Ok P w K mg base "_law_take" P_law_take 2 spTake) : Ok P w K mg base "_law_pick" P_law_pick 3 (spPick K) := by
  refine D.ok (D.F.ok sc_law_pick (fun vs H Q E h => ?_) fun cdv A outer s H vs Q E hr h => ?_)
  · obtain ⟨d, l, c, a, xs, rfl, _⟩ := h; rfl
  have S := sc_law_pick
  obtain ⟨d, l, c, a, xs, rfl, Dw, hal, hS, hx0, hx1, q⟩ := h
  refine ⟨_, (pss_one (ps_ret (pe_ix (q_ixL K rfl) (pv 1) (pe_ok h__law_take (hr.mono (by decide)) (by rfl) (pa_cons (pv 0) (pa_cons (pe_callB (q_len K rfl) (by rfl) T.len PySem.boot_len (pa_cons (pv 1) pa_nil)) pa_nil))) (fun _ _ => rfl)))), ?_⟩
  refine ⟨_, rfl, _, rfl, _, rfl, a, xs, rfl, .inl hS, d, l, c, (xs.length : Int), rfl, Dw, by omega, by omega, fun k H2 hk0 hk1 n2 D2 => ?_⟩
  obtain ⟨j, rfl⟩ : ∃ j : Nat, k = (j : Int) := ⟨k.toNat, by omega⟩
  have hj : j < xs.length := by omega
  have hS2 : SqL K H2 a xs := by
    obtain ⟨r, t, ls, cs, h1, h2, h3, h4, h5⟩ := Dw.at'
    rcases hS with (e | ⟨o, e⟩) | e
    · exact SqL.of (n2.hh a _ (ne_of e h1 (fun z => nomatch z)) hal e)
    · exact .inl (.inr ⟨o, n2.hh a _ (ne_of e h1 (fun z => nomatch z)) hal e⟩)
    · exact .inr e
  exact ⟨a, xs, (j : Int), xs[j], rfl, rfl, hS2, atI_nat (List.getElem?_eq_getElem hj), q _ _ (List.getElem_mem hj) n2 D2⟩
end
end Gw
namespace Gw
open PySem PySem.Spec PyProof.Rows L2
section
variable {P : Program} {w : World} {K : PySem.W.Frag} {mg : Str → Option Value} {base : Heap} {f : Addr} {fd : FuncData}
theorem ok_law_begun (D : DefAt K mg "_law_begun" s_law_begun P_law_begun f fd) (T : Bt mg) : Ok P w K mg base "_law_begun" P_law_begun 1 (spBegun K) := by
  refine D.ok (D.F.ok sc_law_begun (fun vs H Q E h => ?_) fun cdv A outer s H vs Q E hr h => ?_)
  · obtain ⟨a, ns, rfl, _⟩ := h; rfl
  have S := sc_law_begun
  obtain ⟨a, ns, rfl, hS, h63, q⟩ := h
  refine ⟨_, (pss_cons (ps_setLc (i := 1) (own := [("grain", 2)]) (g := gName 2) (by rfl) S.nd rfl rfl (sw_true rfl rfl rfl (by decide +kernel)) (q_iL K rfl (pv 0)) (blkOk_by (N := N_law_begun) (sc := defScope s_law_begun) (by decide +kernel)) (fun _ _ _ _ _ => (pg_name (i := 2) S.nd rfl (by first | exact .inl rfl | exact .inr rfl))) (fun _ _ _ _ _ => (pts_one (pt_cmpR op_ge (pe_callB call_abs (by rfl) T.abs (by decide +kernel) (pa_cons (pv 2) pa_nil)) (pe_op op_pow pe_int pe_int) (nomark _)))) (fun _ _ _ _ _ => (pe_op op_sub (pe_callB call_abs (by rfl) T.abs (by decide +kernel) (pa_cons (pv 2) pa_nil)) (pe_op op_pow pe_int pe_int))))
  (pss_one (ps_ret (pe_disp (pps_cons pe_str (pv 1) (pps_cons pe_str pe_int (pps_cons pe_str (pe_lc (own := [("grain", 2)]) (g := gName 2) (by rfl) S.nd  (q_iL K rfl (pv 0)) (blkOk_by (N := N_law_begun) (sc := defScope s_law_begun) (by decide +kernel)) (fun _ _ _ _ _ => (pg_name (i := 2) S.nd rfl (by first | exact .inl rfl | exact .inr rfl))) (fun _ _ _ _ _ => pts_nil) (fun _ _ _ _ _ => (pe_callB call_abs (by rfl) T.abs (by decide +kernel) (pa_cons (pv 2) pa_nil)))) (pps_cons pe_str pe_int pps_nil)))) (by rfl) (by rfl) (fun z => by cases z) (by decide))))), ?_⟩
  have hin : ∀ {G : Hp}, Same H G → Dp K G (.ref a) (.list (ns.map .int)) := fun s => .lst (s.seq hS) (dpa_ints ns)
  have hz : (ns.map PyData.int).length ≤ sizeLine := by rw [List.length_map]; exact Nat.le_trans h63 (by decide)
  -- the large ones
  refine seq_asg ?_
  refine (en_lcL (K := K) (σ := L2.start N_law_begun [.ref a]) (vs := [2]) (i := 2) (G := H) (fun d => match d with | .int i => if (10 : Int) ^ 18 ≤ ((i.natAbs : Nat) : Int) then some (.int (((i.natAbs : Nat) : Int) - 10 ^ 18)) else none | _ => none) (ed_var (i := 0) rfl (hin (Same.refl H))) (fun _ => rfl) hz ?_ ?_) H (Same.refl H) _ ?_
  · intro d v Gi hm g hd
    obtain ⟨i, _, rfl⟩ := List.mem_map.mp hm
    refine EvB.cast (eb_test (ed_op (z := .bool (decide ((10 : Int) ^ 18 ≤ ((i.natAbs : Nat) : Int)))) (ed_cb (z := .int ((i.natAbs : Nat) : Int)) (ea_cons (ed_var (i := 2) rfl hd) ea_nil) ?_) (ed_op ed_int ed_int (ro_ic (f := fun i j => i ^ j.toNat) (C := CPow) ⟨by decide, by decide, by decide⟩)) (ro_b (f := fun i j => decide (j ≤ i))))) ?_
    · intro G H s vs hv Q q
      obtain _ | ⟨h1, _ | _⟩ := hv
      refine ⟨i, by rw [dp_int h1], ?_⟩
      rw [abs_if]
      exact q _ G H (Nx.refl s) (.int _)
    · dsimp only
      by_cases hc : (10 : Int) ^ 18 ≤ ((i.natAbs : Nat) : Int)
      · rw [if_pos hc, decide_eq_true hc]; rfl
      · rw [if_neg hc, decide_eq_false hc]; rfl
  · intro d v e Gi hm he g hd
    obtain ⟨i, _, rfl⟩ := List.mem_map.mp hm
    dsimp only at he
    by_cases hc : (10 : Int) ^ 18 ≤ ((i.natAbs : Nat) : Int)
    · rw [if_pos hc] at he
      cases he
      refine ed_op (ed_cb (z := .int ((i.natAbs : Nat) : Int)) (ea_cons (ed_var (i := 2) rfl hd) ea_nil) ?_) (ed_op ed_int ed_int (ro_ic (f := fun i j => i ^ j.toNat) (C := CPow) ⟨by decide, by decide, by decide⟩)) (ro_i (f := fun i j => i - j))
      intro G H s vs hv Q q
      obtain _ | ⟨h1, _ | _⟩ := hv
      refine ⟨i, by rw [dp_int h1], ?_⟩
      rw [abs_if]
      exact q _ G H (Nx.refl s) (.int _)
    · rw [if_neg hc] at he
      cases he
  intro p vs G1 H1 n1 hp gp e1 ha
  obtain ⟨ls, rfl, hls⟩ : ∃ ls : List Int, vs = ls.map V.int ∧ ls.length ≤ 63 := by
    have hlen := dpa_length ha
    have hle : vs.length ≤ 63 := by
      rw [hlen]
      exact Nat.le_trans (List.length_filterMap_le _ _) (by rw [List.length_map]; exact h63)
    have : ∀ (ds : List PyData) (vs : List V), DpAll K G1 vs ds → (∀ d ∈ ds, ∃ i, d = .int i) → ∃ ls : List Int, vs = ls.map V.int := by
      intro ds
      induction ds with
      | nil => intro vs h _; cases h; exact ⟨[], rfl⟩
      | cons d ds ih =>
        intro vs h hd
        obtain _ | ⟨h1, h2⟩ := h
        obtain ⟨i, rfl⟩ := hd d List.mem_cons_self
        obtain ⟨ls, rfl⟩ := ih _ h2 fun d hm => hd d (List.mem_cons_of_mem _ hm)
        exact ⟨i :: ls, by rw [dp_int h1]; rfl⟩
    obtain ⟨ls, e⟩ := this _ _ ha fun d hm => by
      obtain ⟨x, hx, he⟩ := List.mem_filterMap.mp hm
      obtain ⟨i, _, rfl⟩ := List.mem_map.mp hx
      dsimp only at he
      by_cases hc : (10 : Int) ^ 18 ≤ ((i.natAbs : Nat) : Int)
      · rw [if_pos hc] at he; cases he; exact ⟨_, rfl⟩
      · rw [if_neg hc] at he; cases he
    refine ⟨ls, e, ?_⟩
    rw [e, List.length_map] at hle
    exact hle
  -- the dict
  intro d hd
  have hpd : p ≠ d := ne_of_none e1 hd
  have s2 : Same H1 (upd H1 d (.dK [])) := fun b o e => by rw [upd_ne (ne_of_none e hd)]; exact e
  refine tp_c ⟨_, rfl, tp_cc (tp_c ?_)⟩
  refine (en_lcL1 (K := K) (σ := [some (.ref a), some (.ref p), none]) (vs := [2]) (i := 2) (G := H) (fun d => match d with | .int i => .int ((i.natAbs : Nat) : Int) | _ => .none) (ed_var (i := 0) rfl (hin (Same.refl H))) (fun _ => rfl) hz ?_) (upd H1 d (.dK [])) (n1.hh.trans s2) _ ?_
  · intro d v Gi hm g hd
    obtain ⟨i, _, rfl⟩ := List.mem_map.mp hm
    refine ed_cb (ea_cons (ed_var (i := 2) rfl hd) ea_nil) ?_
    intro G H s vs hv Q q
    obtain _ | ⟨h1, _ | _⟩ := hv
    refine ⟨i, by rw [dp_int h1], ?_⟩
    rw [abs_if]
    exact q _ G H (Nx.refl s) (.int _)
  intro c vs G3 H3 n3 hc gc e3 hac
  have hcs : vs = (ns.map fun i => ((i.natAbs : Nat) : Int)).map V.int := by
    refine dpa_ints_inv (K := K) (H := G3) ?_
    rw [List.map_map] at hac ⊢
    exact hac
  have hpc : c ≠ p := fun z => by rw [z, upd_ne hpd, e1] at hc; cases hc
  have hdc : c ≠ d := fun z => by rw [z, upd_same] at hc; cases hc
  have kd : H3 d = some (.dK []) := n3.hh _ _ upd_same
  refine ⟨kd, kvD p c 0 0, rfl, (by decide : 4 ≤ 15), ?_⟩
  rw [merge_kvD]
  have hH0 : ∀ b, H1 b = none → H b = none := fun b => n1.hh.free
  refine q d p c _ (fun b o e => ?_) (n1.hh.free hd) hp (n1.hh.free (by rw [upd_ne hdc] at hc; exact hc)) ⟨Ne.symm hpc, 0, 0, ls, ns.map fun i => ((i.natAbs : Nat) : Int), upd_same, ?_, ?_, hls, by rw [List.length_map]; exact h63⟩
  · have hbd : b ≠ d := ne_of_none e (n1.hh.free hd)
    rw [upd_ne hbd]
    exact n3.hh _ _ (s2 _ _ (n1.hh _ _ e))
  · rw [upd_ne hpd]; exact n3.hh _ _ (s2 _ _ e1)
  · rw [upd_ne hdc, e3, hcs]
end
end Gw
namespace Gw
open PySem PySem.Spec PyProof.Rows L2
/-! ### min by a key that is a def: its length and itself, of rows of ints -/
/-- the promise of the key -/
def spRank (K : PySem.W.Frag) : Sp := fun vs H Q _ => ∃ (a : Addr) (xs : List V), vs = [.ref a] ∧ SqT K H a xs ∧ ∀ p, H p = none → Q (.ref p) (upd H p (.tup [.int xs.length, .ref a]))
def keyD (r : List Int) : PyData := .tuple [.int r.length, .tuple (r.map .int)]
def btR (rows : Nat → List Int) (i j : Nat) : Bool := PySem.W.dataLt (keyD (rows i)) (keyD (rows j))
def only1 (H : Hp) (r : Addr) : Hp := fun b => if b = r then H b else none
theorem only1_ne {H : Hp} {r b : Addr} (h : b ≠ r) : only1 H r b = none := if_neg h
theorem only1_same {H : Hp} {r : Addr} : only1 H r r = H r := if_pos rfl
theorem only1_none {H : Hp} {r b : Addr} (h : H b = none) : only1 H r b = none := by
  unfold only1
  split
  · exact h
  · rfl
theorem only1_le {H : Hp} {r b : Addr} {o : HO} (h : only1 H r b = some o) : b = r ∧ H b = some o := by
  unfold only1 at h
  split at h
  · exact ⟨by assumption, h⟩
  · cases h
theorem only1_tup {K : PySem.W.Frag} {H : Hp} {r : Addr} {xs : List V} (h : SqT K H r xs) : SqT K (only1 H r) r xs := by
  unfold SqT Rd at h ⊢
  rw [only1_same]
  exact h
section
variable {X : Cx} {pins : List (Addr × Obj)} {σ : L2.St} {H : Hp} {s : Shared} {f : Addr} {fd : FuncData} {ps : List Str} {k : Nat}
theorem tup_obj (I : Inv X pins σ H s) {r : Addr} {xs : List V} {u : HO} (h : SqT X.K H r xs) (e : H r = some u) : u = .tup xs ∨ ∃ o, u = .frz o (.tup xs) := by
  rcases h with (h | ⟨o, h⟩) | ⟨o, its, n, hk, _⟩
  · rw [e] at h; exact .inl (Option.some.inj h)
  · rw [e] at h; exact .inr ⟨o, Option.some.inj h⟩
  · have := (I.bs r o (I.ok.mod.kin r o hk)).2
    rw [e] at this; cases this
theorem only1_hok (I : Inv X pins σ H s) {r : Addr} {xs : List V} (h : SqT X.K H r xs) : HOk X.prog X.w (only1 H r) s.heap := fun b u e => by
  obtain ⟨rfl, e1⟩ := only1_le e
  have ok := I.hok b u e1
  rcases tup_obj I h e1 with rfl | ⟨o, rfl⟩
  · exact ok
  · exact ok
/-- the key is asked of one item: all else stands -/
theorem key_turn (F : FnOk X.prog X.w X.K X.mg X.base CX0 k f fd ps (spRank X.K)) (hb : Binds X.K fd ps []) (hr : Room k X.A.in1) (I : Inv X pins σ H s) {r : Addr} {ns : List Int} (h : SqT X.K H r (ns.map V.int)) {Q E : Value → Shared → Prop}
    (q : ∀ (p : Addr) (t : Tok) (s' : Shared), Inv X pins σ H s' → s.heap.get? p = none → IsTup s'.heap p #[.int ns.length t, .ref r] → (∀ b o, b ≠ r → s.heap.get? b = some o → ∃ sl, s'.heap.get? b = some { o with slots := sl }) →
      (∀ b o, H b = none → s.heap.get? b = some o → ∃ sl, s'.heap.get? b = some { o with slots := sl }) → (∀ b o, H b = none → b ∉ frs X.stack → s.heap.get? b = some o → s'.heap.get? b = some o) → Q (.ref p) s') :
    wpAny (model X.prog X.w) X.A.in1 (call (.ref f) [.ref r]) Q E s := by
  have e0 := I.env0.in1
  have e1 : Env0 X.prog X.w X.K X.mg X.base X.A.in1 X.stack s (only1 H r) := ⟨e0.frames, e0.mod, fun b o e => ⟨(e0.bs b o e).1, only1_none (e0.bs b o e).2⟩, e0.bsz, e0.funs, fun b hb => only1_none (e0.frf b hb), only1_hok I h, e0.bare⟩
  let Qc : VK := fun v H' => ∃ p, v = .ref p ∧ only1 H r p = none ∧ H' = upd (only1 H r) p (.tup [.int (ns.map V.int).length, .ref r])
  have hs : spRank X.K [.ref r] (only1 H r) Qc (fun _ _ _ => False) := ⟨r, ns.map V.int, rfl, only1_tup h, fun p hp => ⟨p, rfl, hp, rfl⟩⟩
  have hl : ([Value.ref r] ++ []).length = ps.length := (F.len _ _ _ _ hs)
  have rr0 : Vals [V.ref r] ([Value.ref r] ++ []) := .cons rfl .nil
  refine wpAny_call (codeAny_mono (F.run X.A.in1 X.stack s (only1 H r) ⟨[.ref r], []⟩ ([Value.ref r] ++ []) [.ref r] Qc (fun _ _ _ => False) hr e1 (hb s [.ref r] I.kIn hl) rr0 hs) fun rr s' hq => ?_)
  cases rr with
  | error e => exact False.elim hq
  | ok fl =>
    cases fl with
    | next => exact False.elim hq
    | brk => exact False.elim hq
    | cont => exact False.elim hq
    | ret u =>
      obtain ⟨v', H', os, bare, un, hok, rv, p, rfl, hp, rfl⟩ := (show CE X.stack X.prog X.w (only1 H r) s Qc u s' from hq)
      cases rv
      have np : s.heap.get? p = none := by
        cases z : s.heap.get? p with
        | none => rfl
        | some o =>
          have := un.free p o z hp (by simp)
          rw [upd_same] at this; cases this
      have hHp : H p = none := I.hok.gone np
      have slots : ∀ b o, only1 H r b = none → s.heap.get? b = some o → ∃ sl, s'.heap.get? b = some { o with slots := sl } := fun b o n e => un.any e n (by simp)
      have keep : ∀ b o, only1 H r b = none → b ∉ frs X.stack → s.heap.get? b = some o → s'.heap.get? b = some o := fun b o n hf e => un.keep b o e n hf (by simp)
      have hok2 : HOk X.prog X.w H s'.heap := fun b u e => by
        by_cases hbr : b = r
        · subst hbr
          have e2 : only1 H b b = some u := only1_same.trans e
          have pb : b ≠ p := fun z => by rw [z] at e; rw [hHp] at e; cases e
          rcases tup_obj I h e with rfl | ⟨o, rfl⟩
          · exact hok b _ ((upd_ne pb).trans e2)
          · exact hok b _ ((upd_ne pb).trans e2)
        · refine (I.hok b u e).stay (fun c v hc z => keep c v ?_ ?_ z) (fun _ z => z) fun _ _ z => z
          · rcases hc with z | z
            · rw [z]; exact only1_ne hbr
            · refine only1_ne fun z2 => ?_
              subst z2
              rcases tup_obj I h z with z3 | ⟨o, z3⟩
              · cases z3
              · cases z3
          · intro z2
            have := I.stkFree c z2
            rcases hc with z | z
            · rw [z, e] at this; cases this
            · rw [z] at this; cases this
      have I2 : Inv X pins σ H s' := I.call' os ⟨fun b o e n hf hx => un.keep b o e (only1_none n) hf hx, fun b o e n hf hx => un.slot b o e (only1_none n) hf hx, fun b o e n _ => n, fun b o e hx => un.there b o e hx, fun _ _ z => z, fun _ _ _ z => z, fun _ ps' z => ⟨#[], by rw [z]; simp⟩⟩ hok2 bare (fun b z => absurd z (by simp))
      obtain ⟨_, its, rits, pt⟩ := hok p _ upd_same
      obtain ⟨u1, u2, rfl, ⟨t, rfl⟩, r2⟩ := vals2 rits
      cases r2
      rw [List.length_map] at pt
      exact q p t s' I2 np pt (fun b o hb e => slots b o (only1_ne hb) e) (fun b o hb e => slots b o (only1_none hb) e) fun b o hb hf e => keep b o (only1_none hb) hf e
theorem reads_row (I : Inv X pins σ H s) {r : Addr} {ns : List Int} (h : SqT X.K H r (ns.map V.int)) : ∃ as, Reads s.heap (.ref r) (.tuple (ns.map .int)) as :=
  Dp.reads I _ (.ref r) (.ref r) (.tup h (dpa_ints ns)) rfl
theorem reads_key (I : Inv X pins σ H s) {r p : Addr} {t : Tok} {ns : List Int} (h : SqT X.K H r (ns.map V.int)) (hp : IsTup s.heap p #[.int ns.length t, .ref r]) : ∃ as, Reads s.heap (.ref p) (keyD ns) as := by
  obtain ⟨as, hr⟩ := reads_row I h
  obtain ⟨o, e, c, n, d⟩ := hp
  exact ⟨_, .tuple e c d (.cons (.int _ _) (.cons hr .nil))⟩
theorem alike_ints : ∀ (a b : List Int), PySem.W.alikeAll (a.map PyData.int) (b.map PyData.int) = true
  | [], _ => by simp [PySem.W.alikeAll]
  | _ :: _, [] => by simp [PySem.W.alikeAll]
  | x :: a, y :: b => by
    show (PySem.W.alike (.int x) (.int y) && PySem.W.alikeAll (a.map PyData.int) (b.map PyData.int)) = true
    rw [alike_ints a b]
    simp [PySem.W.alike]
theorem alike_key (a b : List Int) : PySem.W.alike (keyD a) (keyD b) = true := by
  show (PySem.W.alike (.int a.length) (.int b.length) && (PySem.W.alike (.tuple (a.map .int)) (.tuple (b.map .int)) && PySem.W.alikeAll [] [])) = true
  have e : PySem.W.alike (.tuple (a.map .int)) (.tuple (b.map .int)) = PySem.W.alikeAll (a.map PyData.int) (b.map PyData.int) := by simp [PySem.W.alike]
  rw [e, alike_ints]
  simp [PySem.W.alike, PySem.W.alikeAll]
/-- what is walked: a list or a tuple of rows -/
structure Walked (X : Cx) (a it : Addr) (its : List Value) (St : Nat → Shared → Prop) : Prop where
  W : WalksS X.prog X.w X.A.in1 it [it, a] [it] (fun a b => b = a) its.toArray.size (fun i v => its.toArray[i]? = some v) St
  stay : ∀ i s s', St i s → (∀ b o, b ∈ [it, a] → s.heap.get? b = some o → ∃ sl, s'.heap.get? b = some { o with slots := sl }) → St i s'
  here : ∀ i s, St i s → ∃ o, s.heap.get? it = some o
theorem min_core (F : FnOk X.prog X.w X.K X.mg X.base CX0 k f fd ps (spRank X.K)) (hb : Binds X.K fd ps []) (hr : Room (k + 1) X.A) (I : Inv X pins σ H s) {a : Addr} {xs : List V} {its : List Value} {rows : Nat → List Int} (rv : Vals xs its)
    (hx : ∀ i x, xs[i]? = some x → ∃ r, x = .ref r ∧ SqT X.K H r ((rows i).map V.int)) (hn : 0 < xs.length) (hne : ∀ (i : Nat) (r : Addr), xs[i]? = some (V.ref r) → r ≠ a) {o : Obj} {St : Nat → Shared → Prop} (L : Walked X a s.heap.objs.size its St) {s₂ : Shared}
    (e2 : s₂ = { s with heap := s.heap.push o }) (st : St 0 s₂) (hfp : ∀ b ∈ [s.heap.objs.size, a], b < s₂.heap.objs.size) {Q : VK} (q : ∀ x, xs[argBest (btR rows) (xs.length - 1)]? = some x → Q x H) :
    ∃ I' fp wr G n P St' J V' bt, (.ref s.heap.objs.size : Value) = .ref I' ∧ WalksS X.prog X.w X.A.in1 I' fp wr G n P St' ∧ St' 0 s₂ ∧ (∀ b ∈ fp, b < s₂.heap.objs.size) ∧ 0 < n ∧
      KeyRun X.prog X.w X.A.in1 (.ref f) .Lt s₂.heap.objs.size wr G n P St' J V' bt ∧ J s₂ ∧ ∀ v s', P (argBest bt (n - 1)) v → J s' → EP X pins σ Q v s' := by
  have hsz : s₂.heap.objs.size = s.heap.objs.size + 1 := by rw [e2]; exact Heap.size_push _ _
  have I2 : Inv X pins σ H s₂ := by rw [e2]; exact I.kept (t' := s.toks) fun b u e => Heap.get?_push_of_some _ e
  have fI : FpOk X pins H s.heap.objs.size := I.fpOk (Nat.le_refl _) (I.hok.fresh (Nat.le_refl _))
  have fS : FpOk X pins H s₂.heap.objs.size := I.fpOk (by omega) (I.hok.fresh (by omega))
  have hlen : its.toArray.size = xs.length := by rw [List.size_toArray, rv.length]
  have moved : ∀ s1 s', Inv X pins σ H s1 → Moved (s₂.heap.objs.size :: [s.heap.objs.size]) (fun a b => b = a) s1 s' → Inv X pins σ H s' := fun s1 s' I1 m => by
    have z := I1.turnedL (h' := s'.heap) (t' := s'.toks) (ch := [s₂.heap.objs.size, s.heap.objs.size]) (fun b o hb e => m.heap b o hb e) (fun b hb => by
      rcases List.mem_cons.mp hb with rfl | hb
      · exact fS
      · rw [List.mem_singleton.mp hb]; exact fI)
    obtain ⟨h', g', d', t', o'⟩ := s'
    have g1 : g' = s1.gens := m.gens
    have g2 : d' = s1.drawn := m.drawn
    have g3 : o' = s1.os := m.os
    subst g1; subst g2; subst g3
    exact z
  refine ⟨_, _, _, _, _, _, St, fun s' => Inv X pins σ H s', fun i v s' => ∃ p r t, v = .ref p ∧ p ≠ s₂.heap.objs.size ∧ p ≠ s.heap.objs.size ∧ H p = none ∧ xs[i]? = some (.ref r) ∧ IsTup s'.heap p #[.int (rows i).length t, .ref r], btR rows, rfl, L.W, st, hfp, by omega, ⟨?_, ?_, ?_, ?_⟩, I2, ?_⟩
  · exact fun s1 s' J m => moved s1 s' J m
  · rintro i v s1 s' ⟨p, r, t, rfl, h1, h2, h3, h4, o, e, c, n, d⟩ m
    exact ⟨p, r, t, rfl, h1, h2, h3, h4, o, m.heap p o (by simp [h1, h2]) e, c, n, d⟩
  · intro i v s1 ob Q1 E1 hi hP J hst hS hq
    rw [hlen] at hi
    obtain ⟨x, hxi⟩ : ∃ x, xs[i]? = some x := ⟨_, List.getElem?_eq_getElem hi⟩
    obtain ⟨r, rfl, hrow⟩ := hx i x hxi
    obtain ⟨u, hu, ru⟩ := rv.get hxi
    cases ru
    have hv : v = .ref r := by
      have : its[i]? = some v := by simpa using hP
      rw [hu] at this; exact (Option.some.inj this).symm
    subst hv
    refine key_turn F hb hr.in1 J hrow fun p t s' J' np pt others slots lits => ?_
    have ra : r ≠ a := hne i r hxi
    have hit : ∃ o, s1.heap.get? s.heap.objs.size = some o := L.here _ _ hst
    refine hq _ _ J' (L.stay _ _ _ hst fun b o hb e => ?_) ?_ ⟨p, r, t, rfl, ?_, ?_, J.hok.gone np, hxi, pt⟩ ?_
    · rcases List.mem_cons.mp hb with rfl | hb
      · exact slots _ o fI.1 e
      · rw [List.mem_singleton.mp hb] at e ⊢
        exact others a o (Ne.symm ra) e
    · refine lits _ ob fS.1 (fun z => ?_) hS
      rcases List.mem_cons.mp (J.stkSub _ z) with e | e
      · exact fS.2.1 e
      · exact fS.2.2.1 e
    · rintro rfl
      rw [np] at hS; cases hS
    · rintro rfl
      obtain ⟨o, e⟩ := hit
      rw [np] at e; cases e
    · rintro j k' ⟨p', r', t', rfl, h1, h2, h3, h4, o, e, c, n, d⟩
      obtain ⟨sl, e'⟩ := slots p' o h3 e
      exact ⟨p', r', t', rfl, h1, h2, h3, h4, _, e', c, n, d⟩
  · rintro i j ki kj s1 Q1 E1 J ⟨p, r, t, rfl, _, _, _, hi, pt⟩ ⟨p', r', t', rfl, _, _, _, hj, pt'⟩ hq
    obtain ⟨r1, z1, row1⟩ := hx i _ hi
    obtain ⟨r2, z2, row2⟩ := hx j _ hj
    cases z1
    cases z2
    obtain ⟨as1, rd1⟩ := reads_key J row1 pt
    obtain ⟨as2, rd2⟩ := reads_key J row2 pt'
    refine PySem.W.rcLt_alike _ _ _ s1 _ _ _ _ rd1 rd2 (alike_key _ _) (fun z => nomatch z) ?_ X.prog X.w E1 Q1 hq
    have dp : ∀ ns : List Int, PyData.depthAll (ns.map PyData.int) = 0 := fun ns => by
      induction ns with
      | nil => rfl
      | cons n r ih => rw [List.map_cons, PyData.depthAll, ih]; rfl
    have dk : (keyD (rows i)).depth ≤ 4 := by
      unfold keyD
      simp [PyData.depth, PyData.depthAll, dp]
    have := Nat.min_le_left (keyD (rows i)).depth (keyD (rows j)).depth
    have hu := hr.in1.units
    omega
  · intro v s' hP J
    have hP' : its.toArray[argBest (btR rows) (its.toArray.size - 1)]? = some v := hP
    rw [hlen] at hP'
    have hv : its[argBest (btR rows) (xs.length - 1)]? = some v := by simpa using hP'
    obtain ⟨x, hx1, hx2⟩ : ∃ x, xs[argBest (btR rows) (xs.length - 1)]? = some x ∧ RelV x v := by
      have hl : argBest (btR rows) (xs.length - 1) < xs.length := by
        have z := (List.getElem?_eq_some_iff.mp hv).1
        have z2 := rv.length
        omega
      obtain ⟨u, hu, ru⟩ := rv.get (List.getElem?_eq_getElem hl)
      rw [hv] at hu
      cases hu
      exact ⟨_, List.getElem?_eq_getElem hl, ru⟩
    exact ⟨x, H, J, hx2, q x hx1⟩
def rMinKey (K : PySem.W.Frag) (f : Addr) : List V → List V → Hp → VK → Prop := fun vs zs H Q => ∃ (a : Addr) (xs : List V) (rows : Nat → List Int), vs = [V.ref a] ∧ zs = [V.ref f] ∧ (SqL K H a xs ∨ SqT K H a xs) ∧ 0 < xs.length ∧
  (∀ i x, xs[i]? = some x → ∃ r, x = .ref r ∧ SqT K H r ((rows i).map V.int)) ∧ ∀ x, xs[argBest (btR rows) (xs.length - 1)]? = some x → Q x H
theorem cr_minKey (F : FnOk X.prog X.w X.K X.mg X.base CX0 k f fd ps (spRank X.K)) (hb : Binds X.K fd ps []) (hr : Room (k + 1) X.A) : CallRK X (.builtin "min") [Str.ofString "key"] (rMinKey X.K f) := by
  intro pins s σ H vs zs us ws Q I rv rz h
  obtain ⟨a, xs, rows, rfl, rfl, hs, hn, hx, q⟩ := h
  obtain rfl := Vals.ref1 rv
  obtain ⟨w1, rfl, e1⟩ := vals1 rz
  obtain rfl : w1 = Value.ref f := e1
  show wpAny (model X.prog X.w) X.A (call (.builtin "min") [.ref a] [(Str.ofString "key", .ref f)]) _ _ s
  refine PySem.call_min_walkK ?_
  rcases hs with hs | hs
  · obtain ⟨its, r, pl, z⟩ := I.list hs
    have alt : a < s.heap.objs.size := by obtain ⟨o, _, e, _⟩ := pl; exact Heap.lt_size e
    refine PySem.W.iter_listW (A := X.A.in1) hr.hd pl.isList fun s₂ e W st hfp hw hk => ?_
    refine min_core F hb hr I r hx hn (fun i b hi z => ?_) ⟨W, ?_, ?_⟩ e st hfp q
    · subst z
      obtain ⟨_, h1, h2⟩ := hx i _ hi
      cases h1
      obtain ⟨_, _, ⟨o, e, c, _⟩, _⟩ := I.tuple h2
      obtain ⟨o', e', c', _⟩ := pl.isList
      rw [e] at e'
      cases e'
      rw [c] at c'
      exact absurd (Value.type.inj c') (by decide)
    · rintro i s1 s1' ⟨⟨o, e, c, d⟩, ⟨o2, e2, c2, n2, d2⟩⟩ hk
      obtain ⟨sl, e'⟩ := hk _ o (by simp) e
      obtain ⟨sl2, e2'⟩ := hk _ o2 (by simp) e2
      exact ⟨⟨_, e', c, d⟩, ⟨_, e2', c2, n2, d2⟩⟩
    · rintro i s1 ⟨⟨o, e, _⟩, _⟩
      exact ⟨o, e⟩
  · obtain ⟨its, r, pl, z⟩ := I.tuple hs
    have hl : s.heap.IsTuple a its.toArray := pl
    refine PySem.W.iter_tupleW (A := X.A.in1) hr.hd hl fun s₂ e W st hfp hw hk => ?_
    refine min_core F hb hr I r hx hn (fun i b hi z => ?_) ⟨W, ?_, ?_⟩ e st hfp q
    · subst z
      obtain ⟨_, h1, h2⟩ := hx i _ hi
      cases h1
      have := I.tuple_inj hs h2
      rw [this] at hi
      rw [List.getElem?_map] at hi
      cases z : (rows i)[i]? with
      | none => rw [z] at hi; cases hi
      | some v => rw [z] at hi; cases hi
    · rintro i s1 s1' ⟨⟨o, e, c, d⟩, ⟨o2, e2, c2, n2, d2⟩⟩ hk
      obtain ⟨sl, e'⟩ := hk _ o (by simp) e
      obtain ⟨sl2, e2'⟩ := hk _ o2 (by simp) e2
      exact ⟨⟨_, e', c, d⟩, ⟨_, e2', c2, n2, d2⟩⟩
    · rintro i s1 ⟨⟨o, e, _⟩, _⟩
      exact ⟨o, e⟩
end
end Gw
namespace PySem.W
open PySem PySem.Calls PyProof.Rows PySem.SeqAt
section
variable {prog : Program} {w : World} {A : Around} {s : Shared} {E : Value → Shared → Prop}
/-- () < () by the tuples' own comparison -/
theorem gw_lt_none {l b : Addr} (hl : s.heap.IsTuple l #[]) (hb : s.heap.IsTuple b #[]) {Q : Value → Shared → Prop} (h : Q (.bool false) s) : wpAny (model prog w) A (call (.builtin "tuple.__lt__") [.ref l, .ref b]) Q E s := by
  obtain ⟨⟨cls, dd, data, sl⟩, ho, hc, n, hd⟩ := id hl
  obtain ⟨⟨cls2, dd2, data2, sl2⟩, ho2, hc2, n2, hd2⟩ := id hb
  simp only at hc hd hc2 hd2
  subst hc hd hc2 hd2
  exact call_meets F.slot_tuple_lt ⟨_, ho, rfl⟩ F.entry_tuple_lt (F.args_tuple_lt_2 _ _) (tuple_ltAt l b #[] #[] n n2 dd dd2 sl sl2 (fun _ => true) fun _ => true) ⟨ho, ho2, fun j h1 => absurd h1 (Nat.not_lt_zero _), fun j h1 => absurd h1 (Nat.not_lt_zero _), h⟩
theorem gw_reads_none {h : Heap} {v : Value} {as : List Addr} (r : Reads h v (.tuple []) as) : ∃ a, v = .ref a ∧ h.IsTuple a #[] := by
  cases r with
  | @tuple a o xs n _ _ h1 h2 h3 h4 =>
    cases q : xs.toList with
    | nil =>
      have : xs = #[] := by
        apply Array.ext'
        simpa using q
      subst this
      exact ⟨a, rfl, o, h1, h2, n, h3⟩
    | cons f fr => rw [q] at h4; cases h4
/-- rows without items can be sorted -/
theorem gw_sorts_none {vs : List Value} {ds : List PyData} (e : EachIs (fun v d => ∃ as, Reads s.heap v d as) vs ds) (hd : ∀ d, d ∈ ds → d = .tuple []) (hu : A.units + 1 < cLine) : SortsAt prog w A s (dataKind s.heap ds) vs := by
  have hal : AllAlike ds := fun d h d' h' => by rw [hd d h, hd d' h']; simp [alike, alikeAll]
  have ht : ∀ v, v ∈ vs → ∃ a, v = .ref a ∧ s.heap.IsTuple a #[] := fun v hv => by
    obtain ⟨d, m, as, r⟩ := e.left v hv
    rw [hd d m] at r
    exact gw_reads_none r
  refine ⟨fun v hv => ?_, oneType', ?_, fun h2 E Q hq => ?_⟩
  · obtain ⟨d, m, as, r⟩ := e.left v hv
    exact ⟨_, dataKind_some hal m r⟩
  · intro E x y a b Q ha hb hq
    obtain ⟨d, as, m, ra, rfl⟩ := dataKind_inv ha
    obtain ⟨d', as', m', rb, rfl⟩ := dataKind_inv hb
    rw [hd d m] at ra hq
    rw [hd d' m'] at rb hq
    obtain ⟨p, rfl, hp⟩ := gw_reads_none ra
    obtain ⟨p', rfl, hp'⟩ := gw_reads_none rb
    have hq' : Q (dataLt (.tuple []) (.tuple [])) s := hq
    rw [show dataLt (.tuple []) (.tuple []) = false from lex_irrefl _] at hq'
    rw [keyLt'_oneType, oneLt'_eq]
    simp only [if_true]
    refine wpAny_bind (wpAny_cRoomFor (by omega) ?_)
    refine wpAny_bind (wpAny_callSpecialIfBound?_slot (T := "tuple") (by obtain ⟨o, h1, h2, _⟩ := hp; exact ⟨_, h1, h2⟩) F.slot_tuple_lt (gw_lt_none hp hp' ?_))
    exact wpAny_truthy_bool hq'
  · have hty : ∀ v ∈ vs, Looks (model prog w) s.heap (typeOf v) (Value.type "tuple") := fun v hv => by
      obtain ⟨a, rfl, o, h1, h2, _⟩ := ht v hv
      show Looks _ s.heap (typeOf (Value.ref _)) (Value.type "tuple")
      exact h2 ▸ (Looks.ld h1).andThen .now
    obtain ⟨v₁, v₂, rest, rfl⟩ : ∃ v₁ v₂ rest, vs = v₁ :: v₂ :: rest := by
      match vs, h2 with
      | [], h2 => simp at h2
      | [_], h2 => simp at h2
      | v₁ :: v₂ :: rest, _ => exact ⟨v₁, v₂, rest, rfl⟩
    rw [keyKind'_eq, List.mapM_toArray, map_eq_pure_bind]
    refine wpAny_bind (wpAny_bind (kas_mapM (r := none) _ (fun v hv Q' hq => ?_) (wpAny_pure ?_)))
    · rw [kas_first_eq]
      refine wpAny_bind ((hty v hv).here ?_)
      rw [if_neg (by decide)]
      obtain ⟨a, rfl, o, h1, h2, n, h3⟩ := ht v hv
      refine wpAny_bind (listItems_at h1 h3 (wpAny_pure ?_))
      exact hq
    · rw [if_neg (by simp), if_neg (by simp)]
      rw [oneTypeOnly'_eq, List.mapM_toArray, map_eq_pure_bind]
      refine wpAny_bind (wpAny_bind (wpAny_bind (kas_mapM (r := Value.type "tuple") _ (fun v hv Q' hq => (hty v hv).here hq) (wpAny_pure ?_))))
      have hall : ((List.map (fun _ => Value.type "tuple") (v₁ :: v₂ :: rest)).toArray.all fun x => x == Value.type "tuple") = true := by
        simp only [List.all_toArray, List.all_map, List.all_eq_true]
        intro _ _
        exact beq_self_eq_true _
      have h0 : (List.map (fun _ => Value.type "tuple") (v₁ :: v₂ :: rest)).toArray[0]? = some (Value.type "tuple") := by simp
      rw [h0]
      simp only [hall, if_true]
      exact wpAny_pure (wpAny_pure hq)
end
end PySem.W

namespace Gw
open PySem PySem.Spec PyProof.Rows L2 PySem.Calls
open PySem.W (EachIs sortingHeap sorting_copy_old copyHeap)
/-- sorted(l) of rows of ints of one length: the first one is the least -/
def rSortRows (K : PySem.W.Frag) : List V → Hp → VK → Prop := fun vs H Q => ∃ (a : Addr) (ys : List V) (rows : Nat → List Int) (L : Nat), vs = [V.ref a] ∧ SqL K H a ys ∧ (∀ i x, ys[i]? = some x → (rows i).length = L ∧ ∃ r, x = V.ref r ∧ SqT K H r ((rows i).map V.int)) ∧
  ∀ p zs, H p = none → zs.length = ys.length → (0 < ys.length → ∃ (j : Nat) (x : V), zs[0]? = some x ∧ ys[j]? = some x ∧ ∀ i, i < ys.length → ¬ rows i < rows j) → Q (.ref p) (upd H p (.lst zs))
section
variable {X : Cx} {pins : List (Addr × Obj)} {σ : L2.St} {H : Hp} {s : Shared}
theorem each_of {α β : Type} {R : α → β → Prop} : ∀ {as : List α} {bs : List β}, as.length = bs.length → (∀ (i : Nat) a b, as[i]? = some a → bs[i]? = some b → R a b) → EachIs R as bs
  | [], [], _, _ => .nil
  | a :: as, b :: bs, hl, h => .cons (h 0 a b rfl rfl) (each_of (by simpa using hl) fun i x y e1 e2 => h (i + 1) x y (by simpa using e1) (by simpa using e2))
  | [], _ :: _, hl, _ => by simp at hl
  | _ :: _, [], hl, _ => by simp at hl
theorem dataLe_rowsT (rows : Nat → List Int) : PySem.W.dataLe false (fun i => PyData.tuple ((rows i).map .int)) = fun p q => !decide (rows q < rows p) := by
  funext a b
  show (!PySem.W.dataLt (.tuple ((rows b).map .int)) (.tuple ((rows a).map .int))) = _
  rw [PySem.W.dataLt_tuple]
  exact congrArg (!·) (PySem.W.dataLt_ints (rows b) (rows a))
theorem sort_first (rows : Nat → List Int) {n : Nat} (hn : 0 < n) : ∃ j, ((List.range n).mergeSort (fun p q => !decide (rows q < rows p)))[0]? = some j ∧ j < n ∧ ∀ i, i < n → ¬ rows i < rows j := by
  have hs := List.pairwise_mergeSort (le := fun p q => !decide (rows q < rows p)) (fun a b c h1 h2 => by
      have h1 : ¬ rows b < rows a := by simpa using h1
      have h2 : ¬ rows c < rows b := by simpa using h2
      have := List.le_trans (show rows a ≤ rows b from h1) (show rows b ≤ rows c from h2)
      simpa using (show ¬ rows c < rows a from this)) (fun a b => by
      rcases List.le_total (rows a) (rows b) with h | h
      · have h : ¬ rows b < rows a := h
        simp [h]
      · have h : ¬ rows a < rows b := h
        simp [h]) (List.range n)
  have hp := List.mergeSort_perm (List.range n) (fun p q => !decide (rows q < rows p))
  generalize (List.range n).mergeSort (fun p q => !decide (rows q < rows p)) = l at hs hp
  cases l with
  | nil =>
    have := hp.length_eq
    simp at this
    omega
  | cons j l =>
    refine ⟨j, rfl, ?_, fun i hi => ?_⟩
    · have := hp.mem_iff.mp (List.mem_cons_self (a := j) (l := l))
      simpa using this
    · have hm : i ∈ j :: l := hp.mem_iff.mpr (by simpa using hi)
      rcases List.mem_cons.mp hm with rfl | hm
      · exact List.lt_irrefl _
      · have := (List.pairwise_cons.mp hs).1 i hm
        simpa using this
theorem cr_sortRows (hu : X.A.units + 64 < cLine) : CallR X (.builtin "sorted") (rSortRows X.K) := by
  intro pins s σ H vs us Q I rv h
  obtain ⟨a, ys, rows, L, rfl, hs, hx, q⟩ := h
  obtain rfl := Vals.ref1 rv
  obtain ⟨its, r, pl, z⟩ := I.list hs
  have hl : s.heap.IsList a its.toArray := pl.isList
  have n0 : its.length = ys.length := r.length.symm
  let enc : Nat → PyData := fun i => .tuple ((rows i).map .int)
  let R : Value → Nat → Prop := fun v i => ∃ x, ys[i]? = some x ∧ RelV x v
  have bl : (List.range ys.length).length = ys.length := by simp
  have item : ∀ (i : Nat) v b, its[i]? = some v → (List.range ys.length)[i]? = some b → b = i ∧ R v i ∧ ∃ as, Reads s.heap v (enc i) as := fun i v b h1 h2 => by
    have hi : i < ys.length := by rw [← n0]; exact (List.getElem?_eq_some_iff.mp h1).1
    have hb : b = i := by
      rw [List.getElem?_range hi] at h2
      exact (Option.some.inj h2).symm
    obtain ⟨u, hu, ru⟩ := r.get (List.getElem?_eq_getElem hi)
    rw [h1] at hu
    cases hu
    obtain ⟨_, p, e, hr⟩ := hx i _ (List.getElem?_eq_getElem hi)
    refine ⟨hb, ⟨_, List.getElem?_eq_getElem hi, ru⟩, ?_⟩
    rw [e] at ru
    cases ru
    exact reads_row I hr
  have e : EachIs R its (List.range ys.length) := each_of (by rw [bl, n0]) fun i v b h1 h2 => by
    obtain ⟨rfl, h3, _⟩ := item i v b h1 h2
    exact h3
  have er : EachIs (fun v b => ∃ as, Reads s.heap v (enc b) as) its (List.range ys.length) := each_of (by rw [bl, n0]) fun i v b h1 h2 => by
    obtain ⟨rfl, _, h3⟩ := item i v b h1 h2
    exact h3
  have dp : ∀ ns : List Int, PyData.depthAll (ns.map PyData.int) = 0 := fun ns => by
    induction ns with
    | nil => rfl
    | cons n r ih => rw [List.map_cons, PyData.depthAll, ih]; rfl
  have hlen : ∀ i, i < ys.length → (rows i).length = L := fun i hi => (hx i _ (List.getElem?_eq_getElem hi)).1
  have fin : ∀ out : List Value, out.length = ys.length → EachIs R out ((List.range ys.length).mergeSort (PySem.W.dataLe false enc)) → EP X pins σ Q (.ref (s.heap.objs.size + 1)) { s with heap := sortedAll s.heap its (List.toArray out) } := fun out ho he => by
    obtain ⟨zs, hz1, hz2⟩ : ∃ zs : List V, Vals zs out ∧ ∀ (i : Nat) (v : Value) (b : Nat), out[i]? = some v → ((List.range ys.length).mergeSort (PySem.W.dataLe false enc))[i]? = some b → ∃ x, zs[i]? = some x ∧ ys[b]? = some x := by
      clear ho
      generalize (List.range ys.length).mergeSort (PySem.W.dataLe false enc) = bs at he
      induction he with
      | nil => exact ⟨[], .nil, fun i v b h => by simp at h⟩
      | cons h t ih =>
        obtain ⟨zs, k1, k2⟩ := ih
        obtain ⟨x, h1, h2⟩ := h
        refine ⟨x :: zs, .cons h2 k1, fun i v b e1 e2 => ?_⟩
        cases i with
        | zero =>
          have : b = _ := (Option.some.inj e2).symm
          subst this
          exact ⟨x, rfl, h1⟩
        | succ i => exact k2 i v b (by simpa using e1) (by simpa using e2)
    obtain ⟨ep, he'⟩ := sortedAll_at s.heap its (List.toArray out)
    have zl : zs.length = ys.length := by rw [hz1.length, ho]
    refine ⟨.ref _, upd H (s.heap.objs.size + 1) (.lst zs), I.laid (t' := s.toks) (fun _ _ => sortedAll_old) (Nat.le_succ _) ⟨by omega, out, ep, hz1, he'⟩, rfl, q _ _ (I.hok.fresh (Nat.le_succ _)) zl fun hn => ?_⟩
    rw [dataLe_rowsT] at hz2
    obtain ⟨j, h1, h2, h3⟩ := sort_first rows hn
    obtain ⟨v, hv⟩ : ∃ v, out[0]? = some v := ⟨_, List.getElem?_eq_getElem (by omega)⟩
    obtain ⟨x, k1, k2⟩ := hz2 0 v j hv h1
    exact ⟨j, x, k1, k2, h3⟩
  have hal : PySem.W.AllAlike ((List.range ys.length).map enc) := fun d hd d' hd' => by
    obtain ⟨i, _, rfl⟩ := List.mem_map.mp hd
    obtain ⟨j, _, rfl⟩ := List.mem_map.mp hd'
    have e : PySem.W.alike (enc i) (enc j) = PySem.W.alikeAll ((rows i).map PyData.int) ((rows j).map PyData.int) := by simp [enc, PySem.W.alike]
    rw [e, alike_ints]
  have hdep : ∀ i, (enc i).depth ≤ 2 := fun i => by
    show (PyData.tuple ((rows i).map .int)).depth ≤ 2
    simp [PyData.depth, dp]
  rcases Nat.eq_zero_or_pos L with h0 | h0
  · subst h0
    have er' : EachIs (fun v b => ∃ as, Reads (sortingHeap (copyHeap s.heap its) (s.heap.objs.size + 1) its) v (enc b) as) its (List.range ys.length) := er.mono fun _ _ ⟨as, r⟩ => ⟨as, PyProof.Rows.Reads.keeps (fun _ _ => sorting_copy_old) r⟩
    refine PySem.W.sorted_vals (κ := PySem.W.dataKind (sortingHeap (copyHeap s.heap its) (s.heap.objs.size + 1) its) ((List.range ys.length).map enc)) hl (PySem.W.gw_sorts_none (s := { s with heap := sortingHeap (copyHeap s.heap its) (s.heap.objs.size + 1) its }) (PySem.W.each_map (R := fun v d => ∃ as, Reads (sortingHeap (copyHeap s.heap its) (s.heap.objs.size + 1) its) v d as) enc er') (fun d hd => ?_) ?_) (by omega) ?_
    · obtain ⟨i, hi, rfl⟩ := List.mem_map.mp hd
      have := hlen i (by simpa using hi)
      show PyData.tuple ((rows i).map .int) = _
      rw [List.eq_nil_of_length_eq_zero this]
      rfl
    · show X.A.units + 1 + 1 + 1 < cLine
      omega
    · exact fin _ (by rw [PySem.W.sortVals_length false rfl]; exact n0) (PySem.W.sortVals_data false e er' hal)
  · refine PySem.W.sorted_data (enc := enc) (R := R) hl e er hal (.inl fun d hd => ?_) (by rw [bl]; exact z) (fun b _ => ?_) fun out ho he => fin out (by rw [ho, bl]) he
    · obtain ⟨i, hi, rfl⟩ := List.mem_map.mp hd
      have := hlen i (by simpa using hi)
      cases hr : rows i with
      | nil => rw [hr] at this; simp at this; omega
      | cons y r => exact ⟨.int y, r.map .int, by show PyData.tuple ((rows i).map .int) = _; rw [hr]; rfl⟩
    · have := hdep b
      omega
end
end Gw
namespace Gw
open PySem PySem.Spec PyProof.Rows L2
/-! ### calls by keywords alone -/
def OkF (P : Program) (w : World) (K : PySem.W.Frag) (mg : Str → Option Value) (base : Heap) (x : Str) (st : Stmt) (ps : List Str) (k : Nat) (sp : Sp) : Prop :=
  ∃ (f : Addr) (fd : FuncData), DefAt K mg x st ps f fd ∧ FnOk P w K mg base CX0 k f fd ps sp
theorem OkF.ok {P : Program} {w : World} {K : PySem.W.Frag} {mg : Str → Option Value} {base : Heap} {x : Str} {st : Stmt} {ps : List Str} {k : Nat} {sp : Sp} (h : OkF P w K mg base x st ps k sp) : Ok P w K mg base x ps k sp := by
  obtain ⟨f, fd, D, F⟩ := h
  exact D.ok F
theorem DefAt.okF {P : Program} {w : World} {K : PySem.W.Frag} {mg : Str → Option Value} {base : Heap} {x : Str} {st : Stmt} {ps : List Str} {f : Addr} {fd : FuncData} {k : Nat} {sp : Sp}
    (D : DefAt K mg x st ps f fd) (h : FnOk P w K mg base CX0 k f fd ps sp) : OkF P w K mg base x st ps k sp := ⟨f, fd, D, h⟩
/-- how a def's parameters are bound by keywords -/
def KwOf (x : Str) (st : Stmt) (ps ks : List Str) (g : List Value → List Value → List Value) (gV : List V → List V → List V) : Prop := ∀ (K : PySem.W.Frag) (f : Addr) (fd : FuncData), Fun K x x st f fd → KBinds K fd ps ks g gV
def g21 {α : Type} : List α → List α → List α
  | [], [a, b] => [b, a]
  | _, _ => []
def g1 {α : Type} : List α → List α → List α
  | [], [a] => [a]
  | _, _ => []
theorem g21_rel {vs : List V} {us : List Value} {zs : List V} {ws : List Value} (h : Vals vs us) (h' : Vals zs ws) : Vals (g21 vs zs) (g21 us ws) := by
  cases h with
  | cons _ _ => exact .nil
  | nil =>
    cases h' with
    | nil => exact .nil
    | cons a t =>
      cases t with
      | nil => exact .nil
      | cons b t =>
        cases t with
        | nil => exact .cons b (.cons a .nil)
        | cons _ _ => exact .nil
theorem g1_rel {vs : List V} {us : List Value} {zs : List V} {ws : List Value} (h : Vals vs us) (h' : Vals zs ws) : Vals (g1 vs zs) (g1 us ws) := by
  cases h with
  | cons _ _ => exact .nil
  | nil =>
    cases h' with
    | nil => exact .nil
    | cons a t =>
      cases t with
      | nil => exact .cons a .nil
      | cons _ _ => exact .nil
theorem kw21 {x p1 p2 : Str} {st : Stmt} (h : ∀ (kV doc pm : Value) (an : Option Addr) (cdv ct a b : Value), bindArgs (PySem.W.fnOf x x (defArgs st) (defBody st) (defScope st) .none kV doc pm an cdv ct) ⟨[], [(p2, a), (p1, b)]⟩ = pure [(p1, b), (p2, a)]) :
    KwOf x st [p1, p2] [p2, p1] g21 g21 := fun K f fd F => by
  obtain ⟨oc, od, kV, doc, pm, an, cdv, ct, osl, rfl, lk, hcd⟩ := F.ex
  refine ⟨fun s us ws _ hl => ?_, fun r r' => g21_rel r r'⟩
  match us, ws, hl with
  | [], [a, b], _ => exact .of_eq (h kV doc pm an cdv ct a b)
theorem kw1 {x p1 : Str} {st : Stmt} (h : ∀ (kV doc pm : Value) (an : Option Addr) (cdv ct a : Value), bindArgs (PySem.W.fnOf x x (defArgs st) (defBody st) (defScope st) .none kV doc pm an cdv ct) ⟨[], [(p1, a)]⟩ = pure [(p1, a)]) :
    KwOf x st [p1] [p1] g1 g1 := fun K f fd F => by
  obtain ⟨oc, od, kV, doc, pm, an, cdv, ct, osl, rfl, lk, hcd⟩ := F.ex
  refine ⟨fun s us ws _ hl => ?_, fun r r' => g1_rel r r'⟩
  match us, ws, hl with
  | [], [a], _ => exact .of_eq (h kV doc pm an cdv ct a)
section
variable {X : Cx} {x : Str} {st : Stmt} {ps ks : List Str} {k : Nat} {sp : Sp} {p pos : Pos} {e : Expr} {es : List Expr} {kws : List Keyword} {t tk : TA} {g : List Value → List Value → List Value} {gV : List V → List V → List V}
theorem pe_okK0 (h : OkF X.prog X.w X.K X.mg X.base x st ps k sp) (hb : KwOf x st ps ks g gV) (hr : Room k X.A) (hg : Gl X x) (hkw : PK X kws tk) (hall : (backToKw pos (keywordEach kws X.env)).all (·.1.isSome) = true := by rfl)
    (hks : (backToKw pos (keywordEach kws X.env)).filterMap (·.1) = ks := by rfl) (hdb : (x == ("__debug__" : Str)) = false := by decide)
    (hpl : ((backTo pos (starEach [] X.env)).any (·.1) || (backToKw pos (keywordEach kws X.env)).any (·.1.isNone)) = false := by rfl) : PE X (.Call (.Name x p) [] kws pos) (tCallK sp gV E0 tNil tk) := by
  obtain ⟨f, fd, D, F⟩ := h
  refine ⟨fun pins s σ H Q I h => ?_⟩
  refine wpAny_Call_Name_kw (ld_glob I hg D.m ?_ hdb)
  refine PySem.W.callWith_KW0 (h₀ := X.base) I.ok.mod.kin D.F.kp hall (thn (hkw.run pos pins s σ H _ I h) fun ws s2 ⟨zs, H2, I2, rz, q2⟩ => ⟨I2.kIn, ?_⟩) hpl
  rw [hks]
  exact run_fnk F hr (hb _ _ _ D.F) pass0 I2 .nil rz q2
end
/-! ### a < b of data -/
def rLtD (K : PySem.W.Frag) : R2 := fun x y H Q => ∃ dx dy, Dp K H x dx ∧ Dp K H y dy ∧ PySem.W.alike dx dy = true ∧ dx ≠ .none ∧ dx.depth ≤ 16 ∧ Q (.bl (PySem.W.dataLt dx dy)) H
theorem op_ltD {X : Cx} (hu : X.A.units + 64 < cLine) : OpR X (compareOp .Lt) (rLtD X.K) := by
  intro pins s σ H x y v u Q I rx ry h
  obtain ⟨dx, dy, hx, hy, ha, hn, hd, q⟩ := h
  obtain ⟨as, ra⟩ := Dp.reads I dx x v hx rx
  obtain ⟨bs, rb⟩ := Dp.reads I dy y u hy ry
  refine PySem.W.lt_data ra rb ha hn ?_ ⟨.bl (PySem.W.dataLt dx dy), H, I, rfl, q⟩
  have := Nat.min_le_left dx.depth dy.depth
  omega
theorem q_ltD (K : PySem.W.Frag) {X : Cx} (e : X.K = K) (hu : X.A.units + 64 < cLine) : OpR X (compareOp .Lt) (rLtD K) := by subst e; exact op_ltD hu
theorem ro_ltD {K : PySem.W.Frag} {x y : PyData} (ha : PySem.W.alike x y = true) (hn : x ≠ .none) (hd : x.depth ≤ 16) : ROp K (rLtD K) x y (.bool (PySem.W.dataLt x y)) := fun G H s vx vy dx dy Q q =>
  ⟨x, y, dp_mono s x dx, dp_mono s y dy, ha, hn, hd, q _ G H (Nx.refl s) (.bl _)⟩
end Gw
namespace Gw
open PySem PySem.Spec PyProof.Rows L2
/-! ### statements over a view -/
section
variable {K : PySem.W.Frag} {σ : L2.St} {G H : Hp} {te ta tb : TE} {tt tu : TT} {tA tR : TA} {d e z : PyData} {ds es : List PyData} {t u : TS} {D : Ends}
theorem seq_let {i : Nat} (h : EvD K te σ G d) (s : Same G H) (k : ∀ v G1 H1, Nx G H G1 H1 → Dp K G1 v d → u D (σ.set i (some v)) H1) : tSeq (tAsg te (gName i)) u D σ H := h H s _ fun v G1 H1 n hd => k v G1 H1 n hd
theorem asg_let {i : Nat} (h : EvD K te σ G d) (s : Same G H) (k : ∀ v G1 H1, Nx G H G1 H1 → Dp K G1 v d → D.nx (σ.set i (some v)) H1) : tAsg te (gName i) D σ H := h H s _ fun v G1 H1 n hd => k v G1 H1 n hd
theorem seq_letN {i : Nat} (h : EvN K te σ G ds) (s : Same G H) (k : ∀ p vs G1 H1, Nx G H G1 H1 → H p = none → H1 p = some (.lst vs) → DpAll K G1 vs ds → u D (σ.set i (some (.ref p))) H1) : tSeq (tAsg te (gName i)) u D σ H := h H s _ fun p vs G1 H1 n hp _ e ha => k p vs G1 H1 n hp e ha
theorem seq_chk (h : EvB K tt σ G false) (s : Same G H) (k : ∀ G1 H1, Nx G H G1 H1 → u D σ H1) : tSeq (tIfS tt t tNext) u D σ H := h H s _ fun G1 H1 n => if_off rfl (k G1 H1 n)
theorem if_chk (h : EvB K tt σ G false) (s : Same G H) (k : ∀ G1 H1, Nx G H G1 H1 → D.nx σ H1) : tIfS tt t tNext D σ H := h H s _ fun G1 H1 n => if_off rfl (k G1 H1 n)
theorem eb_or0 (h1 : EvB K tt σ G false) (h2 : EvB K tu σ G false) : EvB K (tOr tt tu) σ G false := eb_or (a := false) (b := false) h1 fun _ => h2
theorem g21_dp {G' : Hp} {vs zs : List V} {x y : PyData} (h : DpAll K G' vs []) (h' : DpAll K G' zs [x, y]) : DpAll K G' (g21 vs zs) [y, x] := by
  cases h
  obtain _ | ⟨a, _ | ⟨b, _ | _⟩⟩ := h'
  exact .cons b (.cons a .nil)
end
end Gw
namespace Gw
open PySem PySem.Spec PyProof.Rows L2
/-! ### an error that a clause catches and keeps -/
/-- an error of the class cls, with its own dict d, stands at a -/
def ErrAt (cls : Value) (d : Option Addr) (a : Addr) (h : Heap) : Prop := ∃ (oe : Obj) (vs : Array Value), h.get? a = some oe ∧ Zc cls d oe ∧ oe.data = .fields vs
def ErrO (cls : Value) (d : Option Addr) (a : Addr) : HO := .ext (ErrAt cls d a)
theorem err_new {P : Program} {w : World} {H : Hp} {h : Heap} {a : Addr} {cls : Value} {d : Option Addr} (e : ErrAt cls d a h) : ObjOk P w H h a (ErrO cls d a) := by
  obtain ⟨oe, vs, q, r⟩ := e
  exact ⟨⟨oe, vs, q, r⟩, ⟨oe, q⟩, fun h1 h2 ⟨o, v, q1, r1⟩ k => ⟨o, v, k o q1, r1⟩⟩
section
variable {X : Cx} {pins : List (Addr × Obj)} {σ : L2.St} {H : Hp} {s : Shared}
/-- what is pinned, and new since the beginning, is told of from now on -/
theorem Inv_track {a : Addr} {oe : Obj} {u : HO} (J : Inv X ((a, oe) :: pins) σ H s) (h0 : X.s_0.heap.get? a = none) (np : ∀ p ∈ X.pn ++ pins, p.1 ≠ a) (new : ObjOk X.prog X.w (upd H a u) s.heap a u) : Inv X pins σ (upd H a u) s := by
  have mine := J.pin (a, oe) (List.mem_append_right _ List.mem_cons_self)
  have hn : H a = none := mine.2.1
  have old : ∀ b o, X.s_0.heap.get? b = some o → b ≠ a := fun b o e z => by rw [z, h0] at e; cases e
  refine ⟨J.ok, J.os, J.bare, ⟨J.base.keep, J.base.slot, fun b o e n hx => ?_, J.base.there, fun b xs e => ?_, fun b o v e => ?_, fun b ps e => ?_⟩, J.loc, J.cell, ?_, fun x c e => ?_, fun p hp => ?_, J.hok.laidN (fun _ _ z => z) hn new, J.len⟩
  · exact (upd_ne (old b o e)).trans (J.base.free b o e n hx)
  · have := J.base.tups b xs e
    exact (upd_ne (ne_of_none this hn)).trans this
  · have := J.base.frzs b o v e
    exact (upd_ne (ne_of_none this hn)).trans this
  · obtain ⟨more, this⟩ := J.base.tbls b ps e
    exact ⟨more, (upd_ne (ne_of_none this hn)).trans this⟩
  · exact (upd_ne (Ne.symm mine.2.2.1)).trans J.free
  · refine (upd_ne fun z => ?_).trans (J.freeC x c e)
    obtain ⟨v, o, ho, hd⟩ := J.cell x c e
    rw [z, mine.1] at ho
    cases ho
    exact mine.2.2.2.2 _ hd
  · have hp' : p ∈ X.pn ++ ((a, oe) :: pins) := by
      rcases List.mem_append.mp hp with z | z
      · exact List.mem_append_left _ z
      · exact List.mem_append_right _ (List.mem_cons_of_mem _ z)
    obtain ⟨q1, q2, q3⟩ := J.pin p hp'
    exact ⟨q1, (upd_ne (np p hp)).trans q2, q3⟩
end
/-- what «except x as n: y = n» wishes of an error of the body; slots i of n, j of y -/
def wKeep (K : PySem.W.Frag) (c : Value) (i j : Nat) (Wout : WX) (D : Ends) : WX := fun cls d σ H =>
  ∃ b, PySem.W.exmOne K cls c = some b ∧ (b = true → ∀ a, H a = none → D.nx (((σ.set i (some (.ref a))).set j (some (.ref a))).set i none) (upd H a (ErrO cls d a))) ∧ (b = false → Wout cls d σ H)
section
variable {X : Cx} {x n y : Str} {c : Value} {i j : Nat} {body : List Stmt} {np yp ep ap pos pos' : Pos} {tb : WX → TS} {Wout : WX}
theorem ps_keep (hs : X.stack = X.env :: X.outer) (hf : X.env.frame = some X.env.locals) (hex : X.ex = []) (hN : X.N.Nodup) (hi : X.N[i]? = some n) (hln : X.env.kindOf n = some .local) (hj : X.N[j]? = some y) (hjl : X.env.scope.names.lookup y = some .local)
    (hvn : Vis X.env.scope n) (hdn : (n == ("__debug__" : Str)) = false) (hcn : (n == ("__classdict__" : Str)) = false) (hsw : ∀ Y : Cx, Y.env = X.env → swapsWith (.Name n ep) (some (.Name y yp)) ap.line Y.env = pure false) (hlen : i < X.N.length) (hc : Names X x c) (tk : Takes X Wout)
    (hb : ∀ (W : WX) (pn : List (Addr × Obj)) (xe : Value → Shared → Prop), Takes (X.tr pn xe) W → PassesOwn (model X.prog X.w) X.A X.env xe → PSs (X.tr pn xe) body (tb W)) :
    PS X (.Try body [.ExceptHandler (some (.Name x np)) (some n) [.Assign [.Name y yp] (.Name n ep) ap] pos'] [] [] pos) (fun D σ H => tb (wKeep X.K c i j Wout D) D σ H) := by
  refine ⟨fun pins s σ H D I h => ?_⟩
  have okX := I.ok
  have frames : X.A.frames = some (X.env :: X.outer) := okX.frames.trans (congrArg some hs)
  refine wpAny_Try_except ?_
  have run := (hb (wKeep X.K c i j Wout D) (X.pn ++ pins) (fun e s₁ => wpAny (model X.prog X.w) X.A (noteFrame e X.env) (fun _ s₂ => wpAny (model X.prog X.w) X.A (setFlight e none) (fun _ s₃ =>
    wpAny (model X.prog X.w) X.A (handleBy e X.env [.ExceptHandler (some (.Name x np)) (some n) [.Assign [.Name y yp] (.Name n ep) ap] pos']) (SP X pins D) X.xe s₃) X.xe s₂) X.xe s₁) ?caught PassesOwn.looking).run [] s σ H D (I.toTry _) h
  case caught =>
    rintro u s' ⟨a, B, sI, pins', σ', H', cls, d, rfl, Jt, ground, up, sky, na, os, ag, b, hmatch, hyes, hno⟩
    have J : Inv X pins σ' H' sI := Jt.ofTry okX
    rw [show X.tr (X.pn ++ pins) _ = X.tr (X.pn ++ pins) _ from rfl] at sky
    have sky1 : Sky B (X.env :: X.outer) a (Zc cls d) X.env.locals s'.heap := by rw [← hs]; exact sky
    show wpAny (model X.prog X.w) X.A (noteFrame (.ref a) X.env) _ _ _
    refine Sky.land Zc.steady frames hf sky1 fun g fly upg => ?_
    have Jg : Inv X pins σ' H' { s' with heap := g } := J.landed ground fly.1 (up.trans upg) os ag
    obtain ⟨oe, vs, at1, z1, dat⟩ := fly.there
    have aFr : a ∉ frs (X.env :: X.outer) := fun hm => by
      obtain ⟨_, o1, q1, notF⟩ := fly.2.2.1.mem hm
      rw [at1] at q1
      cases q1
      exact notF _ dat
    have aL : a ≠ X.env.locals := fun z => aFr (List.mem_filterMap.mpr ⟨X.env, List.mem_cons_self, hf.trans (congrArg some z.symm)⟩)
    have aF : a ∉ X.fs := fun hm => by
      obtain ⟨e, he, q⟩ := List.mem_filterMap.mp hm
      exact aFr (List.mem_filterMap.mpr ⟨e, List.mem_cons_of_mem _ he, q⟩)
    have none_I : sI.heap.get? a = none := by
      cases q : sI.heap.get? a with
      | none => rfl
      | some o =>
        have := ground a o q (by rw [hs]; exact aFr)
        rw [fly.2.1] at this
        cases this
    have none_0 : X.s_0.heap.get? a = none := by
      cases q : X.s_0.heap.get? a with
      | none => rfl
      | some o =>
        obtain ⟨o', q'⟩ := J.base.there a o q (by rw [hex]; exact List.not_mem_nil)
        rw [none_I] at q'
        cases q'
    have pinsOff : ∀ p ∈ X.pn ++ pins, p.1 ≠ a := fun p hp z => by
      have := (J.pin p hp).1
      rw [z, none_I] at this
      cases this
    have Sg := Jg.suite at1 dat na aL aF
    refine wpAny_handleBy_cons (codeAny_handlers_test ?_) (fun q => nomatch q)
    have clsOf : PySem.W.Looks (model X.prog X.w) g (typeOf (.ref a)) cls := fun A Q E s k q => wpAny_typeOf_ref (k _ _ at1) (by rw [z1.1]; exact q)
    have asks := PySem.W.exm_one (M := model X.prog X.w) Jg.kIn clsOf hmatch
    have name : ∀ {Q : Value → Shared → Prop} {E : Value → Shared → Prop}, Q c { s' with heap := g } → wpAny (model X.prog X.w) (X.A.mark (some (.ref a))) (eval (.Name x np) X.env) Q E { s' with heap := g } := fun {Q E} q => by
      rcases hc with ⟨hg, hdbg, hm | ⟨hm, hv, hnn⟩⟩
      · exact ld_glob (X := X.suite a ((a, oe) :: (X.pn ++ pins))) Sg hg hm q hdbg
      · exact ld_blt (X := X.suite a ((a, oe) :: (X.pn ++ pins))) Sg hg hm hv q hnn hdbg
    refine name (asks.here ?_)
    cases b with
    | true =>
      refine codeAny_handlers_suite_as ?_
      refine HandSPX.lands_againZ fly fun g2 fly2 up2 => ?_
      have J2 : Inv X pins σ' H' { s' with heap := g2 } := J.landed ground fly2.1 ((up.trans upg).trans up2) os ag
      obtain ⟨oe2, vs2, at2, z2, dat2⟩ := fly2.there
      refine store_ok (X := X.suite a ((a, oe2) :: (X.pn ++ pins))) (v := .ref a) (J2.suite at2 dat2 na aL aF) hN hi (.inl hln) rfl (fun s5 S5 => ?_) (.inr hln)
      have one := (pss_one (ps_set (X := X.suite a ((a, oe2) :: (X.pn ++ pins))) (pos := ap) (pos' := yp) (i := j) hN hj (.inl hjl) (pe_var (pos := ep) (i := i) hi hvn hdn hcn) (hsw _ rfl) (.inr hjl))).run [] s5 _ H' { nx := fun σ6 H6 => σ6 = (σ'.set i (some (.ref a))).set j (some (.ref a)) ∧ H6 = H', rt := fun _ _ => False } S5
        ⟨.ref a, by rw [List.getElem?_set_self (by rw [J.len]; exact hlen)], rfl, rfl⟩
      refine wpAny_mono one (fun f s6 sp => ?_) (fun _ _ z => False.elim z)
      cases f with
      | next =>
        obtain ⟨σ6, H6, S6, rfl, rfl⟩ := sp
        have pinned := S6.pin (a, oe2) (List.mem_append_left _ List.mem_cons_self)
        have Jp : Inv X ((a, oe2) :: pins) ((σ'.set i (some (.ref a))).set j (some (.ref a))) H6 s6 := (S6.unsuite okX).pins_of fun p hp => by
          rcases List.mem_cons.mp hp with e | hp
          · rw [e]; exact pinned
          · exact (S6.unsuite okX).pin p (List.mem_append_right _ hp)
        exact gone_ok Jp hN hi hln fun s7 J7 => ⟨_, _, Inv_track J7 none_0 pinsOff (err_new ⟨oe2, vs2, (J7.pin (a, oe2) (List.mem_append_right _ List.mem_cons_self)).1, z2, dat2⟩), hyes rfl a na⟩
      | brk => obtain ⟨_, _, _, z⟩ := sp; exact False.elim z
      | cont => obtain ⟨_, _, _, z⟩ := sp; exact False.elim z
      | ret u => obtain ⟨_, _, _, _, _, z⟩ := sp; exact False.elim z
    | false =>
      show wpAny _ X.A (handleBy (.ref a) X.env []) _ _ _
      refine wpAny_handleBy_nil ?_
      have fly0 := fly
      obtain ⟨_, _, _, oe', vs', T, oT, ts', at', zz, dat', f1, _⟩ := fly
      unfold PySem.passOn
      refine wpAny_bind (wpAny_field at' dat' f1 ?_)
      rw [if_neg (by simp : ¬ ((Value.ref T == Value.none) = true))]
      have out : wpAny (model X.prog X.w) X.A (setFlight (.ref a) X.env.frame) (fun _ s4 => wpAny (model X.prog X.w) X.A (throw (.ref a) : Sem Flow) (SP X pins D) X.xe s4) X.xe { s' with heap := g } := by
        rw [hf]
        refine HandSPX.setFlight_upZ fly0 fun g2 held up2 => wpAny_throw (tk _ _ ?_)
        exact ⟨a, B, sI, pins, σ', H', cls, d, rfl, J, ground, (up.trans upg).trans up2, .inr (.inr (by rw [hs]; exact held)), na, os, ag, hno rfl⟩
      first
        | exact wpAny_bind (wpAny_pure (wpAny_bind out))
        | exact wpAny_bind out
  refine wpAny_mono run (fun f s1 sp => ?_) fun _ _ z => z
  cases f with
  | next => obtain ⟨σ', H', J', q⟩ := sp; exact wpAny_execs_nil ⟨σ', H', J'.ofTry okX, q⟩
  | brk => obtain ⟨σ', H', J', q⟩ := sp; exact ⟨σ', H', J'.ofTry okX, q⟩
  | cont => obtain ⟨σ', H', J', q⟩ := sp; exact ⟨σ', H', J'.ofTry okX, q⟩
  | ret u => obtain ⟨v, σ', H', J', r, q⟩ := sp; exact ⟨v, σ', H', J'.ofTry okX, r, q⟩
end
end Gw
namespace Gw
open PySem PySem.Spec PyProof.Rows L2
/-! ### defs that may raise, error classes -/
structure Err (K : PySem.W.Frag) (mg : Str → Option Value) (x : Str) (C : Addr) : Prop where
  g : mg x = some (.ref C)
  x : PySem.W.excIn K C [.type "ValueError", .type "Exception", .type "BaseException", .type "object"] "ValueError.__new__" = true
  k : PySem.W.keepIn K (.ref C) = true
  b : PySem.W.subIn K (.ref C) (.type "BaseException") = some true
  t : PySem.W.typeIn K (.ref C) = some (.type "type")
def OkX (P : Program) (w : World) (K : PySem.W.Frag) (mg : Str → Option Value) (base : Heap) (x : Str) (st : Stmt) (ps : List Str) (k : Nat) (sp : Sp) : Prop :=
  ∃ (f : Addr) (fd : FuncData), DefAt K mg x st ps f fd ∧ FnOk P w K mg base (L2.CX P w) k f fd ps sp
theorem DefAt.okX {P : Program} {w : World} {K : PySem.W.Frag} {mg : Str → Option Value} {base : Heap} {x : Str} {st : Stmt} {ps : List Str} {f : Addr} {fd : FuncData} {k : Nat} {sp : Sp}
    (D : DefAt K mg x st ps f fd) (h : FnOk P w K mg base (L2.CX P w) k f fd ps sp) : OkX P w K mg base x st ps k sp := ⟨f, fd, D, h⟩
section
variable {X : Cx} {x : Str} {st : Stmt} {ps ks : List Str} {k : Nat} {sp : Sp} {p pos : Pos} {e : Expr} {es : List Expr} {kws : List Keyword} {t tk : TA} {g : List Value → List Value → List Value} {gV : List V → List V → List V} {E : XK}
theorem pe_okX (h : OkX X.prog X.w X.K X.mg X.base x st ps k sp) (hx : Passes (L2.CX X.prog X.w) X E) (hr : Room k X.A) (hg : Gl X x) (ha : PA X (e :: es) t) (hdb : (x == ("__debug__" : Str)) = false := by decide)
    (he : starEach (e :: es) X.env = (false, eval e X.env) :: starEach es X.env := by rfl) (hpl : (backTo pos (starEach es X.env)).any (·.1) = false := by rfl) : PE X (.Call (.Name x p) (e :: es) [] pos) (tCall sp [] E t) := by
  obtain ⟨f, fd, D, F⟩ := h
  exact pe_call F hr hg D.m D.F.kp D.b .nil hx ha hdb he hpl
theorem pe_okXK0 (h : OkX X.prog X.w X.K X.mg X.base x st ps k sp) (hb : KwOf x st ps ks g gV) (hx : Passes (L2.CX X.prog X.w) X E) (hr : Room k X.A) (hg : Gl X x) (hkw : PK X kws tk) (hall : (backToKw pos (keywordEach kws X.env)).all (·.1.isSome) = true := by rfl)
    (hks : (backToKw pos (keywordEach kws X.env)).filterMap (·.1) = ks := by rfl) (hdb : (x == ("__debug__" : Str)) = false := by decide)
    (hpl : ((backTo pos (starEach [] X.env)).any (·.1) || (backToKw pos (keywordEach kws X.env)).any (·.1.isNone)) = false := by rfl) : PE X (.Call (.Name x p) [] kws pos) (tCallK sp gV E tNil tk) := by
  obtain ⟨f, fd, D, F⟩ := h
  refine ⟨fun pins s σ H Q I h => ?_⟩
  refine wpAny_Call_Name_kw (ld_glob I hg D.m ?_ hdb)
  refine PySem.W.callWith_KW0 (h₀ := X.base) I.ok.mod.kin D.F.kp hall (thn (hkw.run pos pins s σ H _ I h) fun ws s2 ⟨zs, H2, I2, rz, q2⟩ => ⟨I2.kIn, ?_⟩) hpl
  rw [hks]
  exact run_fnk F hr (hb _ _ _ D.F) hx I2 .nil rz q2
end
/-! ### things of any kind: data, or a new dict -/
theorem ty_mono {K : PySem.W.Frag} {H H' : Hp} (s : Same H H') {p : Addr} {kvs : List (Key × V)} (h : H p = some (.dK kvs)) : TyX K H' (.ref p) (.type "dict") := .base (.dK (s _ _ h))
def Th (K : PySem.W.Frag) (G : Hp) (v : V) (x : PyData) : Prop := Dp K G v x ∨ (x = .dict [] ∧ ∃ p, v = .ref p ∧ G p = some (.dK []))
theorem Th.mono {K : PySem.W.Frag} {G G' : Hp} (s : Same G G') {v : V} {x : PyData} (h : Th K G v x) : Th K G' v x := h.imp (dp_mono s x) fun ⟨e, p, e1, e2⟩ => ⟨e, p, e1, s _ _ e2⟩
theorem Th.ty {K : PySem.W.Frag} {G H : Hp} (s : Same G H) {v : V} {x : PyData} (h : Th K G v x) : TyX K H v (.type (tyOf x)) := by
  rcases h with h | ⟨rfl, p, rfl, e⟩
  · exact dp_ty s h
  · exact ty_mono s e
theorem Th.tup {K : PySem.W.Frag} {G : Hp} {v : V} {xs : List PyData} (h : Th K G v (.tuple xs)) : Dp K G v (.tuple xs) := h.elim id fun z => nomatch z.1
theorem ed_isiTh {K : PySem.W.Frag} {σ : L2.St} {G : Hp} {i : Nat} {v : V} {x : PyData} {n : String} {b : Bool} (h : σ[i]? = some (some v)) (hv : Th K G v x) (hk : kitB (tyOf x) n = some b) : EvD K (tCB (rIsi K) (tCons (tVar i) (tCons (tC (.ty n)) tNil))) σ G (.bool b) := fun H s Q q =>
  ⟨v, h, v, .ty n, .type (tyOf x), .type n, b, rfl, .ty n, hv.ty s, kit_ty hk, q _ G H (Nx.refl s) (.bl b)⟩
end Gw
namespace Gw
open PySem PySem.Spec PyProof.Rows L2 LamX
/-! ### a lambda as a value -/
/-- at f stands the lambda with the closure cl, its code at c' -/
def LamAt (f : Addr) (q : Str) (params : Arguments) (body : Expr) (scope : Scope) (cl : List (Str × Addr)) (c' : Addr) (h : Heap) : Prop := ∃ (pm ctv : Value), h.get? f = some (PySem.W.kla_obj "<lambda>" q params body scope cl pm c' ctv)
def LamO (f : Addr) (q : Str) (params : Arguments) (body : Expr) (scope : Scope) (cl : List (Str × Addr)) (c' : Addr) : HO := .ext (LamAt f q params body scope cl c')
theorem lam_new {P : Program} {w : World} {H : Hp} {h : Heap} {f : Addr} {q : Str} {params : Arguments} {body : Expr} {scope : Scope} {cl : List (Str × Addr)} {c' : Addr} (e : LamAt f q params body scope cl c' h) : ObjOk P w H h f (LamO f q params body scope cl c') := by
  obtain ⟨pm, ctv, e⟩ := e
  exact ⟨⟨pm, ctv, e⟩, ⟨_, e⟩, fun h1 h2 ⟨a, b, e1⟩ k => ⟨a, b, k _ e1⟩⟩
def tLamV (T : List (Addr × Str)) (q : Str) (params : Arguments) (body : Expr) (scope : Scope) (cl : List (Str × Addr)) : TE := fun σ H Q =>
  Tabs T H ∧ ∀ f c' H1, ExtN H H1 → Tabs T H1 → H f = none → H1 f = some (LamO f q params body scope cl c') → H1 c' = some (CodeO c' q) → Q (.ref f) H1
section
variable {X : Cx} {T : List (Addr × Str)} {c P : Addr} {params : Arguments} {body : Expr} {scope : Scope} {pos : Pos}
theorem pe_lamV (TB : TabB X.base X.mg c P) (hcode : X.env.code = .ref c) (hm : (P, X.env.qual ++ "<lambda>") ∈ T) (hu : ∀ p ∈ T, p.1 = P → p.2 = X.env.qual ++ "<lambda>") (L : LamS X.env.scope scope) (hdef : defaultsOf params X.env = ([], [])) :
    PE X (.Lambda params body scope pos) (tLamV T (X.env.qual ++ "<lambda>") params body scope (cloFrom X.env.cells scope.names [])) := by
  refine ⟨fun pins s σ H Q I h => ?_⟩
  obtain ⟨hT, h⟩ := h
  obtain ⟨ps, hP, okp, known⟩ := hT _ hm
  have cells := L.has I.ok
  have bmP := TB.bm.keeps I.bk
  have tabP : s.heap.get? P = some { cls := .none, data := .fields ps } := I.hok P _ hP
  refine PySem.W.kla_eval hdef ?_
  cases hit : codeAmong pos ps.toList with
  | some cv =>
    obtain ⟨c', rfl, hco⟩ := known pos cv hit
    refine PySem.W.kla_makeFunctionHit (mg := X.mg) (c := c) (P := P) (ps := ps) (closure_ok cells) I.ok.glob (I.mod.glob.keeps I.bk) hcode (TB.code.keeps I.bk) tabP okp hit bmP fun ctv h' tk keep big => ?_
    have J := I.kept (h' := h') (t' := tk) keep
    have nf : H h'.objs.size = none := I.hok.fresh big
    have J2 := J.laid (t' := tk) (h' := h'.push (PySem.W.kla_obj "<lambda>" (X.env.qual ++ "<lambda>") params body scope (cloFrom X.env.cells scope.names []) ((X.mg "__name__").getD .none) c' ctv)) (a := h'.objs.size) (o := LamO h'.objs.size (X.env.qual ++ "<lambda>") params body scope (cloFrom X.env.cells scope.names []) c')
      (fun b u e => Heap.get?_push_of_some _ e) (Nat.le_refl _) (lam_new ⟨_, ctv, Heap.get?_push_size _ rfl⟩)
    have ext : ∀ b o, H b = some o → upd H h'.objs.size (LamO h'.objs.size (X.env.qual ++ "<lambda>") params body scope (cloFrom X.env.cells scope.names []) c') b = some o := fun b o e => (upd_ne (ne_of_none e nf)).trans e
    exact ⟨.ref h'.objs.size, _, J2, rfl, h _ c' _ (ExtN.of ext) (hT.ext ext) nf upd_same (ext _ _ hco)⟩
  | none =>
    refine PySem.W.kla_makeFunction (mg := X.mg) (c := c) (P := P) (ps := ps) (closure_ok cells) I.ok.glob (I.mod.glob.keeps I.bk) hcode (TB.code.keeps I.bk) tabP okp hit TB.gP bmP fun c' ctv h' tk keep big lt rec tab => ?_
    obtain ⟨c2, oc, vs, t, e2, at2, d2, n2⟩ := rec
    cases e2
    have nc : H c' = none := I.hok.fresh big
    have nPc : P ≠ c' := ne_of_none hP nc
    have J := inv_table (t' := tk) (more := #[rawInt pos.line, rawInt pos.col, .ref c']) (h' := h') I hP (fun b o hb e => keep b o hb e) tab big ⟨oc, vs, t, at2, d2, n2⟩
    generalize hH1 : upd (upd H P (.tbl (ps ++ #[rawInt pos.line, rawInt pos.col, .ref c']))) c' (CodeO c' (X.env.qual ++ "<lambda>")) = H1 at J
    have atc : H1 c' = some (CodeO c' (X.env.qual ++ "<lambda>")) := by rw [← hH1]; exact upd_same
    have atP : H1 P = some (.tbl (ps ++ #[rawInt pos.line, rawInt pos.col, .ref c'])) := by rw [← hH1, upd_ne nPc]; exact upd_same
    have other : ∀ b o, b ≠ P → H b = some o → H1 b = some o := fun b o hb e => by rw [← hH1, upd_ne (ne_of_none e nc), upd_ne hb]; exact e
    have e1 : ExtN H H1 := fun b o e n => other b o (fun z => n ps (Option.some.inj (e.symm.trans (by rw [z]; exact hP)))) e
    have T1 : Tabs T H1 := fun p hp => by
      by_cases hb : p.1 = P
      · rw [hu p hp hb, hb]
        have eL : (ps ++ #[rawInt pos.line, rawInt pos.col, Value.ref c']).toList = ps.toList ++ [rawInt pos.line, rawInt pos.col, .ref c'] := by simp
        refine ⟨_, atP, by rw [eL]; exact PySem.TriplesOk_snoc _ _ _ _ okp, fun p' cv hcv => ?_⟩
        rw [eL] at hcv
        rcases among_app _ okp hcv with z | z
        · obtain ⟨c0, z1, z2⟩ := known p' cv z
          exact ⟨c0, z1, e1 _ _ z2 codeO_ne⟩
        · exact ⟨c', z, atc⟩
      · obtain ⟨ps', z1, z2, z3⟩ := hT p hp
        refine ⟨ps', other _ _ hb z1, z2, fun p' cv hcv => ?_⟩
        obtain ⟨c0, y1, y2⟩ := z3 p' cv hcv
        exact ⟨c0, y1, e1 _ _ y2 codeO_ne⟩
    have nf1 : H1 h'.objs.size = none := J.hok.fresh (Nat.le_refl _)
    have bigf : s.heap.objs.size ≤ h'.objs.size := Nat.le_trans big (Nat.le_of_lt lt)
    have J2 := J.laid (t' := tk) (h' := h'.push (PySem.W.kla_obj "<lambda>" (X.env.qual ++ "<lambda>") params body scope (cloFrom X.env.cells scope.names []) ((X.mg "__name__").getD .none) c' ctv)) (a := h'.objs.size) (o := LamO h'.objs.size (X.env.qual ++ "<lambda>") params body scope (cloFrom X.env.cells scope.names []) c')
      (fun b u e => Heap.get?_push_of_some _ e) (Nat.le_refl _) (lam_new ⟨_, ctv, Heap.get?_push_size _ rfl⟩)
    have ext : ∀ b o, H1 b = some o → upd H1 h'.objs.size (LamO h'.objs.size (X.env.qual ++ "<lambda>") params body scope (cloFrom X.env.cells scope.names []) c') b = some o := fun b o e => (upd_ne (ne_of_none e nf1)).trans e
    exact ⟨.ref h'.objs.size, _, J2, rfl, h _ c' _ (e1.trans (ExtN.of ext)) (T1.ext ext) (I.hok.fresh bigf) upd_same (ext _ _ atc)⟩
end
end Gw
namespace Gw
open PySem PySem.Spec PyProof.Rows L2 LamX
/-! ### a def that calls what it got, called with a lambda that is a value -/
section
variable {X : Cx} {pins : List (Addr × Obj)} {σ : L2.St} {H : Hp} {s : Shared}
/-- what was told of is told of no more -/
theorem Inv_forget {f : Addr} {φ : Heap → Prop} (I : Inv X pins σ H s) (hf : H f = some (.ext φ)) : Inv X pins σ (delH H f) s := by
  have off : ∀ b o, H b = some o → (∀ ψ, o ≠ .ext ψ) → delH H f b = some o := fun b o e n => (delH_ne fun z => n φ (Option.some.inj (e.symm.trans (by rw [z]; exact hf)))).trans e
  have nn : ∀ b, H b = none → delH H f b = none := fun b e => by
    by_cases z : b = f
    · rw [z]; exact delH_same
    · exact (delH_ne z).trans e
  refine ⟨I.ok, I.os, I.bare, ⟨I.base.keep, I.base.slot, fun b o e n hx => nn b (I.base.free b o e n hx), I.base.there, fun b xs e => off b _ (I.base.tups b xs e) (fun _ z => nomatch z), fun b o u e => off b _ (I.base.frzs b o u e) (fun _ z => nomatch z), fun b ps e => ?_⟩, I.loc, I.cell, nn _ I.free, fun x c e => nn _ (I.freeC x c e), fun p hp => ?_, fun b u e => ?_, I.len⟩
  · obtain ⟨more, z⟩ := I.base.tbls b ps e
    exact ⟨more, off b _ z fun _ z => nomatch z⟩
  · obtain ⟨q1, q2, q3⟩ := I.pin p hp
    exact ⟨q1, nn _ q2, q3⟩
  · have hb : b ≠ f := fun z => by rw [z, delH_same] at e; cases e
    rw [delH_ne hb] at e
    exact (I.hok b u e).stay (fun _ _ _ z => z) (fun c z => off c _ z fun _ z => nomatch z) fun c xs z => off c _ z fun _ z => nomatch z
/-- which lambdas may come, and how their bodies read -/
structure Lams (X : Cx) (k : Nat) (Cand : Arguments → Expr → Scope → (XK → TE) → Prop) : Prop where
  sc : ∀ params body scope t, Cand params body scope t → LamS X.env.scope scope
  bind : ∀ params body scope t, Cand params body scope t → ∀ (q : Str) (cl : List (Str × Addr)) (pm cv ctv : Value), bindArgs (PySem.W.kla_fn "<lambda>" q params body scope cl pm cv ctv) ⟨[], []⟩ = pure []
  body : ∀ params body scope t, Cand params body scope t → ∀ (A : Around) (outer : List Env) (s : Shared) (H : Hp) (E : XK) (f c' : Addr), Room k (A.deeper (lamEnv X scope s.heap.objs.size f c')) → PE (lamCx X A outer s H E scope f c') body (t E)
def tGiv (X : Cx) (Cand : Arguments → Expr → Scope → (XK → TE) → Prop) (TT : (XK → Hp → VK → Prop) → Hp → VK → Prop) (te : TE) : TE := fun σ H Q => te σ H fun v H1 => ∃ (f c' : Addr) (params : Arguments) (body : Expr) (scope : Scope) (t : XK → TE),
  Cand params body scope t ∧ v = .ref f ∧ H1 f = some (LamO f (X.env.qual ++ "<lambda>") params body scope (cloFrom X.env.cells scope.names []) c') ∧ H1 c' = some (CodeO c' (X.env.qual ++ "<lambda>")) ∧ c' ≠ f ∧ TT (fun E H' Q' => t E σ H' Q') (delH H1 f) Q
theorem pe_giv {Cand : Arguments → Expr → Scope → (XK → TE) → Prop} {TT : (XK → Hp → VK → Prop) → Hp → VK → Prop} {x a : Str} {g : Addr} {k : Nat} {pg : Arguments} {bg : List Stmt} {sg : Scope} {dV kV doc pm cdv ct oc : Value} {an od : Option Addr} {osl : Array (Option Value)} {Ng : List Str}
    {e : Expr} {te : TE} {p pos : Pos} (hg : Gl X x) (hm : X.mg x = some (.ref g)) (hk : PySem.W.keepIn X.K (.ref g) = true)
    (lk : X.K.lookup g = some ⟨oc, od, .func (PySem.W.fnOf x x pg bg sg dV kV doc pm an cdv ct), osl⟩) (hcg : PySem.W.codeIn X.K cdv x = true) (hb : L2.Binds X.K (PySem.W.fnOf x x pg bg sg dV kV doc pm an cdv ct) [a] []) (Sg : FnScope Ng [a] sg) (hNg : Ng[0]? = some a) (hva : Vis sg a)
    (hG : GivesTo X Ng x sg g cdv bg a (X.env.qual ++ "<lambda>") TT) (hr : Room (k + 2) X.A) (hex : X.ex = []) (C : Lams X k Cand) (he : PE X e te) (hst : starEach [e] X.env = [(false, eval e X.env)] := by rfl)
    (hdb : (x == ("__debug__" : Str)) = false := by decide) (hd : (a == ("__debug__" : Str)) = false := by decide) (hcd : (a == ("__classdict__" : Str)) = false := by decide) :
    PE X (.Call (.Name x p) [e] [] pos) (tGiv X Cand TT te) := by
  refine ⟨fun pins s σ H Q I h => ?_⟩
  refine wpAny_Call_Name_kw (ld_glob I hg hm ?_ hdb)
  refine PySem.W.callWith_K (h₀ := X.base) I.ok.mod.kin hk ?_ hst (by rfl)
  rw [hst]
  show wpAny _ _ (spliced ((false, eval e X.env) :: backTo pos (starEach [] X.env))) _ _ s
  refine Calls.spliced_cons (thn (he.run pins s σ H _ I h) fun u s' ⟨v, H1, I1, rv, f, c', params, body, scope, t, hC, ev, hf, hco, hne, htt⟩ => ?_)
  subst ev
  cases rv
  refine Calls.spliced_nil ⟨I1.kIn, ?_⟩
  obtain ⟨⟨pm', ctv, at1⟩, _⟩ := I1.hok f _ hf
  have I2 := Inv_forget I1 hf
  have fr : f ∉ frs X.stack := fun z => by
    have := I1.stkFree f z
    rw [hf] at this
    cases this
  have hco2 : delH H1 f c' = some (CodeO c' (X.env.qual ++ "<lambda>")) := (delH_ne hne).trans hco
  have rc : codeAny (model X.prog X.w) X.A (.call (.ref g) ⟨[.ref f], []⟩) (CR C8.CX0 X.stack X.prog X.w (delH H1 f) s' Q C8.E0) s' := by
    refine run_ofS (N := Ng) (ps := [a]) (us := [.ref f]) (vs := [.ref f]) lk hcg Sg hr I2.env0 (hb s' [.ref f] I1.kIn rfl) (.cons rfl .nil) rfl fun hr' => ?_
    obtain ⟨t', ht', hq'⟩ := hG f c' s' (delH H1 f) Q (fun E H' Q' => t E σ H' Q') (fun W pn xe E p1 p2 tk hW => pe_act (i := 0) I2 (C.sc _ _ _ _ hC) at1 delH_same fr (C.bind _ _ _ _ hC _ _ _ _ _) tk hW hr' (fun A outer s H hr2 => C.body _ _ _ _ hC A outer s H E f c' hr2) hNg hva hd hcd) hco2 htt
    exact ⟨t', ht'.nox, hq'⟩
  refine wpAny_call (codeAny_mono rc fun r s2 hq => ?_)
  cases r with
  | error e => exact (show False from hq).elim
  | ok fl =>
    cases fl with
    | ret u => exact I2.after hq
    | next => exact False.elim hq
    | brk => exact False.elim hq
    | cont => exact False.elim hq
end
end Gw
namespace Gw
open PySem PySem.Spec PyProof.Rows L2
/-! ### isinstance of None or of an error that was kept -/
def rIsC (K : PySem.W.Frag) : List V → Hp → VK → Prop := fun xs H Q => (∃ (C : Addr) (b : Bool), xs = [.non, .ref C] ∧ PySem.W.kitOne K (.type "NoneType") (.ref C) = some b ∧ Q (.bl b) H) ∨
  ∃ (a D C : Addr) (b : Bool), xs = [.ref a, .ref C] ∧ H a = some (ErrO (.ref D) none a) ∧ ExcC K D ∧ PySem.W.kitOne K (.ref D) (.ref C) = some b ∧ Q (.bl b) H
theorem cr_isC {X : Cx} : CallR X (.builtin "isinstance") (rIsC X.K) := by
  intro pins s σ H xs us Q I r h
  rcases h with ⟨C, b, rfl, e, q⟩ | ⟨a, D, C, b, rfl, ha, T, e, q⟩
  · exact call_isi pins s σ H _ us Q I r ⟨.non, .ref C, .type "NoneType", .ref C, b, rfl, .own C, .base .non, e, q⟩
  · obtain ⟨u1, u2, rfl, r1, r2⟩ := vals2 r
    cases r1
    cases r2
    obtain ⟨⟨oe, vs, at1, ⟨z1, z2⟩, d1⟩, _⟩ := I.hok a _ ha
    have J : PySem.W.InstAt s.heap a oe D none := by
      obtain ⟨oc, od, dat, osl⟩ := oe
      dsimp only at z1 z2 d1
      subst z1 z2 d1
      exact ⟨at1, rfl, rfl, trivial⟩
    exact PySem.W.kia_one (PySem.W.handS_kitx_exc T.hg T.hk T.hs T.hd T.ha T.hn T.ht T.hm) I.kIn J e (fun z => nomatch z) fun tk => ⟨.bl b, H, I.tok tk, rfl, q⟩
end Gw
namespace Gw
open PySem PySem.Spec PyProof.Rows L2 LamX
/-- every lambda whose body reads so -/
def Good (X : Cx) (k : Nat) : Arguments → Expr → Scope → (XK → TE) → Prop := fun params body scope t => LamS X.env.scope scope ∧ (∀ (q : Str) (cl : List (Str × Addr)) (pm cv ctv : Value), bindArgs (PySem.W.kla_fn "<lambda>" q params body scope cl pm cv ctv) ⟨[], []⟩ = pure []) ∧
  ∀ (A : Around) (outer : List Env) (s : Shared) (H : Hp) (E : XK) (f c' : Addr), Room k (A.deeper (lamEnv X scope s.heap.objs.size f c')) → PE (lamCx X A outer s H E scope f c') body (t E)
theorem lams_good {X : Cx} {k : Nat} : Lams X k (Good X k) := ⟨fun _ _ _ _ h => h.1, fun _ _ _ _ h => h.2.1, fun _ _ _ _ h => h.2.2⟩
end Gw
namespace Gw
open PySem PySem.Spec PyProof.Rows L2
/-- one of several defs that may raise, all of one promise, held by a name -/
structure HeldX (P : Program) (w : World) (K : PySem.W.Frag) (mg : Str → Option Value) (base : Heap) (k : Nat) (sp : Sp) (f : Addr) : Prop where
  ex : ∃ (fd : FuncData) (ps : List Str), FnOk P w K mg base (L2.CX P w) k f fd ps sp ∧ PySem.W.keepIn K (.ref f) = true ∧ Binds K fd ps []
theorem OkX.held {P : Program} {w : World} {K : PySem.W.Frag} {mg : Str → Option Value} {base : Heap} {x : Str} {st : Stmt} {ps : List Str} {k : Nat} {sp : Sp} (h : OkX P w K mg base x st ps k sp) : ∃ f, mg x = some (.ref f) ∧ HeldX P w K mg base k sp f := by
  obtain ⟨f, fd, D, F⟩ := h
  exact ⟨f, D.m, ⟨fd, ps, F, D.F.kp, D.b⟩⟩
def tHeld (i : Nat) (S : Addr → Prop) (sp : Sp) (E : XK) (t : TA) : TE := fun σ H Q => ∃ f, σ[i]? = some (some (.ref f)) ∧ S f ∧ t σ H fun vs H1 => sp (vs ++ []) H1 Q E
theorem pe_held {X : Cx} {S : Addr → Prop} {sp : Sp} {E : XK} {k i : Nat} {x : Str} {p pos : Pos} {e : Expr} {es : List Expr} {t : TA} (A : ∀ f, S f → HeldX X.prog X.w X.K X.mg X.base k sp f) (hx : Passes (L2.CX X.prog X.w) X E) (hr : Room k X.A) (hN : X.N[i]? = some x) (hv : Vis X.env.scope x) (ha : PA X (e :: es) t)
    (hdb : (x == ("__debug__" : Str)) = false := by decide) (hcd : (x == ("__classdict__" : Str)) = false := by decide)
    (he : starEach (e :: es) X.env = (false, eval e X.env) :: starEach es X.env := by rfl) (hpl : (backTo pos (starEach es X.env)).any (·.1) = false := by rfl) : PE X (.Call (.Name x p) (e :: es) [] pos) (tHeld i S sp E t) := by
  refine ⟨fun pins s σ H Q I h => ?_⟩
  obtain ⟨f, hs, hS, ht⟩ := h
  obtain ⟨fd, ps, F, hk, hb⟩ := (A f hS).ex
  exact (pe_callL (i := i) (f := f) (sp := sp) (dvs := []) (E := E) F hr hN hv hk hb .nil hx ha hdb hcd he hpl).run pins s σ H Q I ⟨hs, ht⟩
end Gw
namespace PySem
namespace SupX
open PySem.W PySem.Calls PyProof.Rows PySem.HandSPX
/-! ### own errors whose __init__ calls super().__init__(text) and keeps one thing -/
def eA (f : Str) (p1 p2 : Pos) : Arguments := { posonlyargs := [], args := [{ arg := "self", annotation := none, pos := p1 }, { arg := f, annotation := none, pos := p2 }], vararg := none, kwonlyargs := [], kw_defaults := [], kwarg := none, defaults := [] }
def eB (f txt : Str) (q1 q2 q3 q4 q5 q6 r1 r2 r3 r4 : Pos) : List Stmt :=
  [.Expr (.Call (.Attribute (.Call (.Name "super" q1) [] [] q2) "__init__" q3) [.Constant (.str txt) 0 q4] [] q5) q6, .Assign [.Attribute (.Name "self" r1) f r2] (.Name f r3) r4]
def eS (f : Str) : Scope := { kind := .function, names := [("self", .local), (f, .local), ("__class__", .free), ("super", .globalImplicit)], isGenerator := false, isCoroutine := false, more := [] }
/-- what is asked of the name of the thing that is kept -/
structure FldOk (f : Str) : Prop where
  l1 : (eS f).names.lookup ("self" : Str) = some .local
  l2 : (eS f).names.lookup f = some .local
  l3 : (eS f).names.lookup ("__class__" : Str) = some .free
  l4 : (eS f).names.lookup ("super" : Str) = some .globalImplicit
  nc : ∀ x ∈ (eS f).names, x.2 ≠ .cell
  nd : (f == ("__debug__" : Str)) = false
  ns : (f == ("self" : Str)) = false
  bd : ∀ (qn : Str) (p1 p2 : Pos) (b : List Stmt) (doc pm : Value) (an : Option Addr) (cd ct : Value) (cc : Addr) (a v : Value), bindArgs (ksFn "__init__" qn (eA f p1 p2) b (eS f) .none .none doc pm an cd ct cc) ⟨[a, v], []⟩ = pure [(("self" : Str), a), (f, v)]
theorem fld_part : FldOk "part" := ⟨rfl, rfl, rfl, rfl, by decide, rfl, rfl, fun _ _ _ _ _ _ _ _ _ _ _ _ => rfl⟩
theorem fld_most : FldOk "most" := ⟨rfl, rfl, rfl, rfl, by decide, rfl, rfl, fun _ _ _ _ _ _ _ _ _ _ _ _ => rfl⟩
structure SupTxt (prog : Program) (K : Frag) (mg : Str → Option Value) (x f : Str) (C fI : Addr) : Prop where
  gC : mg x = some (.ref C)
  cls : ∃ nm q N bs bm sn sub ab col dd k0 k1 k2 k3 k5, K.lookup C = some (excClassObj nm q C N bs bm true sn sub ab col dd k0 k1 k2 k3 k5 "ValueError.__new__") ∧ refsVE bm = true
  sa : findIn K (.ref C) "__setattr__" = some (some (.builtin "object.__setattr__"))
  ga : findIn K (.ref C) "__getattribute__" = some (some (.builtin "BaseException.__getattribute__"))
  gg : findIn K (.ref C) "__getattr__" = some none
  noN : findIn K (.ref C) f = some none
  iC : findIn K (.ref C) "__init__" = some (some (.ref fI))
  tC : typeIn K (.ref fI) = some (.type "function")
  kC : keepIn K (.ref C) = true
  exC : subIn K (.ref C) (.type "BaseException") = some true
  veC : subIn K (.ref C) (.type "ValueError") = some true
  tyC : typeIn K (.ref C) = some (.type "type")
  hdC : hasDictIn K C = true
  mC : mroIn K C (.ref C) = some true
  sup : ks_superIn K C C "__init__" = some (some (.builtin "ValueError.__init__"))
  op : nsIn K cStatics "thirdparty.any" = some none
  noS : mg "super" = none
  top : (prog.main.scope.names.lookup ("super" : Str)).isSome = false
  nf : FldOk f
  fn : ∃ (oc : Value) (od : Option Addr) (doc pm : Value) (an : Option Addr) (cda : Addr) (ct : Value) (osl : Array (Option Value)) (cc : Addr) (p1 p2 : Pos) (txt : Str) (q1 q2 q3 q4 q5 q6 r1 r2 r3 r4 : Pos) (qn : Str) (ccl cl : Value) (cdd cld : Option Addr) (vs : Array Value) (ccs csl : Array (Option Value)) (file : Str) (tf : Tok), (q3.endLine == q5.line) = true ∧
    K.lookup fI = some ⟨oc, od, .func (ksFn "__init__" qn (eA f p1 p2) (eB f txt q1 q2 q3 q4 q5 q6 r1 r2 r3 r4) (eS f) .none .none doc pm an (.ref cda) ct cc), osl⟩ ∧ codeIn K (.ref cda) qn = true ∧
    K.lookup cda = some ⟨ccl, cdd, .fields vs, ccs⟩ ∧ vs[2]? = some (.str file tf) ∧ ((prog.main.file : Str) == file) = true ∧ K.lookup cc = some ⟨cl, cld, .cell (some (.ref C)), csl⟩
theorem sup_he {env : Env} {txt : Str} {q1 q2 q3 q4 q5 : Pos} (hq : (q3.endLine == q5.line) = true) : eval (.Call (.Attribute (.Call (.Name "super" q1) [] [] q2) "__init__" q3) [.Constant (.str txt) 0 q4] [] q5) env = (do
      let ov ← attributeBase (.Call (.Name "super" q1) [] [] q2) "__init__" env (eval (.Call (.Name "super" q1) [] [] q2) env)
      standAt q3.atName
      let (f, first) ← holding [ov] (getMethod ov "__init__" (do return (← importBound (.Call (.Name "super" q1) [] [] q2) env).getD true))
      callWith q5 f first (backTo q5 (starEach [.Constant (.str txt) 0 q4] env)) []) := by
  have e : methodCallPos true (.Call (.Name "super" q1) [] [] q2) env q3 q5 = pure q5 := if_pos (by rw [hq]; rfl)
  show (do
      let ov ← attributeBase (.Call (.Name "super" q1) [] [] q2) "__init__" env (eval (.Call (.Name "super" q1) [] [] q2) env)
      standAt q3.atName
      let (f, first) ← holding [ov] (getMethod ov "__init__" (do return (← importBound (.Call (.Name "super" q1) [] [] q2) env).getD true))
      let callPos ← methodCallPos true (.Call (.Name "super" q1) [] [] q2) env q3 q5
      callWith callPos f first (backTo q5 (starEach [.Constant (.str txt) 0 q4] env)) []) = _
  rw [e]
  simp only [pure_bind]
/-! the bound __init__ of ValueError, called -/
section
variable {prog : Program} {w : World} {A : Around} {E : Value → Shared → Prop} {h : Heap} {g : Array GenState} {d : Drawn} {t : Nat} {os : OsState}
variable {nm q : Str} {C N : Addr} {bs bm : List Value} {hdct : Bool} {sn : List Str} {sub : List Value} {ab : Bool} {col : Option Bool} {dd : Option Addr} {k0 k1 k2 k3 k5 : Option Value}
theorem call_mw {u e t0 : Addr} {rest : List Value} {Q : Value → Shared → Prop}
    (hC : h.get? C = some (excClassObj nm q C N bs bm hdct sn sub ab col dd k0 k1 k2 k3 k5 "ValueError.__new__")) (he : h.get? e = some (excO C t0)) (hu : h.get? u = some (kxs_mw "ValueError.__init__" e)) (hrest : rest.length ≤ sizeLine)
    (hq : ∀ h' t1, (∀ b o, b ≠ e → h.get? b = some o → h'.get? b = some o) → h'.get? e = some (excO C t1) → Q .none ⟨h', g, d, t, os⟩) :
    wpAny (model prog w) A (call (.ref u) rest) Q E ⟨h, g, d, t, os⟩ := by
  refine wpAny_call (codeAny_of_tree ?_)
  show wpAny _ A.in1 (callAny (.ref u) ⟨rest, []⟩) _ _ _
  simp only [callAny]
  refine wpAny_bind (wpAny_load hu ?_)
  simp only [kxs_mw, show (Value.type "method-wrapper" == Value.type "method" || Value.type "method-wrapper" == Value.type "builtin_function_or_method" || Value.type "method-wrapper" == Value.type "method-wrapper") = true by decide, if_true]
  refine W.KFB.if_so (by decide) ?_
  refine wpAny_bind (check_bound_init F.excBase_ValueError.toExcCallFacts hC he rfl ?_)
  refine wpAny_bind (wpAny_pure (wpAny_pure ?_))
  refine ⟨plainId_quiet F.excBase_ValueError.init.plain _, codeAny_builtin F.excBase_ValueError.initEntry ?_⟩
  exact exc_init_tree (cls := .ref C) (t0 := t0) (dv := none) (c2 := .none) (c3 := .none) (b4 := .bool false) he hrest fun h' k e' _ => hq h' _ k e'
end
structure InitEnd (h h' : Heap) (x C dx t1 : Addr) (f : Str) (v : Value) : Prop where
  keep : ∀ b o, b ≠ x → h.get? b = some o → h'.get? b = some o
  obj : h'.get? x = some { cls := .ref C, dict := some dx, data := .fields #[.ref t1, .none, .none, .none, .bool false, .none] }
  dbig : h.objs.size ≤ dx
  dne : dx ≠ x
  ns : h'.Ns1 dx (fun y => if y = f then some v else none)
theorem one_size (v : Value) : [v].length ≤ sizeLine := by
  rw [sizeLine_eq]
  exact (by decide : 1 ≤ 16777216)
theorem kept_but {K : Frag} {h h' : Heap} {x : Addr} (X : K.In h) (hx : K.lookup x = none) (k : ∀ b o, b ≠ x → h.get? b = some o → h'.get? b = some o) : K.In h' := fun a o e =>
  k a o (fun z => by rw [z, hx] at e; cases e) (X a o e)
section
variable {prog : Program} {w : World} {A : Around} {E : Value → Shared → Prop} {R : Result → Shared → Prop} {s : Shared} {K : Frag} {mg mb : Str → Option Value} {xn f : Str} {C fI : Addr}
theorem sup_init (T : SupTxt prog K mg xn f C fI) {x t0 : Addr} {v : Value} (X : K.In s.heap) (hg : s.heap.Ns mainGlobals mg) (hb : s.heap.Ns builtinsNs mb) (hbb : ∀ y : Str, y ≠ "__name__" → mb y = bootBuiltins y) (hlim : s.heap.NoLimit) (hx : s.heap.get? x = some (excO C t0)) (hnx : K.lookup x = none) (hroom : A.depth < recursionLimit)
    (hq : ∀ h' tk dx t1, InitEnd s.heap h' x C dx t1 f v → R (.ok (.ret .none)) { s with heap := h', toks := tk }) :
    codeAny (model prog w) A (.call (.ref fI) ⟨[.ref x, v], []⟩) R s := by
  obtain ⟨oc, od, doc, pm, an, cda, ct, osl, cc, p1, p2, txt, q1, q2, q3, q4, q5, q6, r1, r2, r3, r4, qn, ccl, cl, cdd, cld, vs, ccs, csl, file, tf, hpos, ho, hcd, hcode, hvs, hfile, hcell⟩ := T.fn
  obtain ⟨nm, q, N, bs, bm, sn, sub, ab, col, dd, k0, k1, k2, k3, k5, hC, hbm⟩ := T.cls
  have hcl : clsIn K C = some { name := nm, bases := bs, mro := .ref C :: bm, ns := N, qualname := q, hasDict := true, slotNames := sn, subclasses := sub, abstract := ab, collection := col, hasDel := false } := by unfold clsIn; rw [hC] <;> rfl
  refine ks_codeAny_call_defAt (binds := [(("self" : Str), .ref x), (f, v)]) hroom (X _ _ ho) rfl hlim (codeRec_of X hcd) rfl (BindsTo.of_eq (T.nf.bd _ _ _ _ _ _ _ _ _ _ _ _)) T.nf.nc ?l (fun h₁ hns k => ?_) rfl rfl rfl
  case l =>
    intro y hy
    rcases List.mem_cons.mp hy with rfl | hy
    · exact T.nf.l1
    · rw [List.mem_singleton.mp hy]; exact T.nf.l2
  have X₁ : K.In h₁ := X.keeps k
  have hx₁ := k _ _ hx
  have hxL : s.heap.objs.size ≠ x := Nat.ne_of_gt (Heap.lt_size hx)
  obtain ⟨hp, g, d, tk0, os⟩ := s
  dsimp only at X hg hb hlim hx hns k hxL ⊢
  have m1 : [(("self" : Str), Value.ref x), (f, v)].reverse.lookup ("self" : Str) = some (.ref x) := by
    have : (("self" : Str) == f) = false := by
      have := T.nf.ns
      rw [beq_eq_false_iff_ne] at this ⊢
      exact fun z => this z.symm
    show [(f, v), (("self" : Str), Value.ref x)].lookup ("self" : Str) = _
    simp [List.lookup, this]
  have m2 : [(("self" : Str), Value.ref x), (f, v)].reverse.lookup f = some v := by
    show [(f, v), (("self" : Str), Value.ref x)].lookup f = _
    simp [List.lookup]
  show _root_.PySem.wpAt _ _ (.func (eB f txt q1 q2 q3 q4 q5 q6 r1 r2 r3 r4) (ksEnv qn (eS f) hp.objs.size fI (.ref cda) cc)) (execs (eB f txt q1 q2 q3 q4 q5 q6 r1 r2 r3 r4) (ksEnv qn (eS f) hp.objs.size fI (.ref cda) cc)) _ _ _
  refine ks_wpAt_execs_cons (ks_wpAt_Expr_any (ks_wpAt_MethodCall ?_ (sup_he hpos)))
  refine ks_wpAt_super_base (env := ksEnv qn (eS f) hp.objs.size fI (.ref cda) cc) T.nf.l4 T.nf.l3 (by decide) rfl (X₁ _ _ ho) rfl rfl rfl (X₁ _ _ hcode) rfl hvs hfile T.top ?_
  refine ks_loadName_global rfl T.nf.l4 (loadGlobal_builtin (env := ksEnv qn (eS f) hp.objs.size fI (.ref cda) cc) (hg.keeps k) T.noS (hb.keeps k) ((hbb _ (by decide +kernel)).trans (by first | boot_by_name | rfl | kernel_rfl)) ⟨rfl, ?_⟩)
  refine wpAny_loadName_free rfl T.nf.l3 rfl ⟨_, X₁ _ _ hcell, rfl⟩ ?_
  refine wpAny_loadName_local rfl T.nf.l1 hns m1 ?_
  refine ks_wpAny_isType_cls (X₁ _ _ hC) rfl ⟨rfl, ?_⟩
  refine ks_wpAny_call_super (X₁ _ _ hC) rfl hx₁ rfl (fun c e => by cases e) (looks_mroIn X₁ T.mC) (fun h₂ eso k₂ => ?_)
  have X₂ : K.In h₂ := X₁.keeps k₂
  have hx₂ := k₂ _ _ hx₁
  have I₂ : InstAt h₂ x (excO C t0) C none := ⟨hx₂, rfl, rfl, trivial⟩
  have hsup : alongIn K "__init__" (((Value.ref C :: bm).dropWhile (· != .ref C)).drop 1) = some (some (.builtin "ValueError.__init__")) := by
    have e := T.sup
    unfold ks_superIn at e
    rw [hcl] at e
    exact e
  refine kxs_getMethod kxs_ValueError eso (looks_opaque X₂ T.op) (l₀ := Value.ref C :: bm) (fun A Q E s k q => wpAny_bind ((looks_clsIn X₂ hcl) A _ E s k (wpAny_pure q))) rfl X₂ hsup (I₂.type.andThen (looks_subIn X₂ T.veC)) (ks_ne X₂ I₂ hcl) (by decide) ?_
  have k₃ : ∀ b o, h₂.get? b = some o → (h₂.push (kxs_mw "ValueError.__init__" x)).get? b = some o := fun b o e => Heap.get?_push_of_some _ e
  have hx₃ := k₃ _ _ hx₂
  have hmw : (h₂.push (kxs_mw "ValueError.__init__" x)).get? h₂.objs.size = some (kxs_mw "ValueError.__init__" x) := Heap.get?_push_at rfl rfl
  refine kxs_callWith (i := "ValueError.__init__") (x := x) (by rfl) (evalArgs_plain ?_)
  refine spliced_cons (Constant_str (pos := q4) (k := 0) (spliced_nil ⟨hmw, ?_⟩))
  refine call_mw (X₂.keeps k₃ _ _ hC) hx₃ hmw (one_size _) fun h₄ t1 k₄ hx₄ => ?_
  have X₄ : K.In h₄ := kept_but (X₂.keeps k₃) hnx k₄
  have hns₄ : h₄.Ns hp.objs.size (fun y => [(("self" : Str), Value.ref x), (f, v)].reverse.lookup y) := ((hns.keeps k₂).keeps k₃).at fun o q => k₄ _ _ hxL q
  refine ks_wpAt_execs_cons (wpAt_of_wpAny (plainObj_wpAny_Assign_Attribute ?_))
  refine wpAny_Name (wpAny_loadName_local rfl T.nf.l2 hns₄ m2 ?_) T.nf.nd
  refine wpAny_Name (wpAny_loadName_local rfl T.nf.l1 hns₄ m1 ?_) (by decide)
  refine set_plain X₄ (ox := excO C t1) (od := none) ⟨hx₄, rfl, rfl, trivial⟩ T.sa ?_
  refine exc_osa X₄ hx₄ hcl (show refsVE (.ref C :: bm) = true from hbm) rfl T.noN (fun h₅ tk₅ dx k₅ dn dne hx₅ hn₅ => ?_)
  refine wpAt_of_wpAny (wpAny_execs_nil (hq h₅ tk₅ dx t1 ⟨fun b o hb e => k₅ b o hb (k₄ b o hb (k₃ _ _ (k₂ _ _ (k b o e)))), hx₅, ?_, dne, hn₅⟩))
  exact Nat.le_of_lt (Nat.lt_of_lt_of_le hns₄.lt dn)
/-- a made error -/
structure OwnMade (h h' : Heap) (e C d : Addr) (f : Str) (v : Value) : Prop where
  keep : ∀ b o, h.get? b = some o → h'.get? b = some o
  new : h.objs.size ≤ e
  obj : ∃ oe vs, h'.get? e = some oe ∧ oe.cls = .ref C ∧ oe.dict = some d ∧ oe.data = .fields vs ∧ vs[1]? = some .none
  dbig : h.objs.size ≤ d
  dne : d ≠ e
  ns : h'.Ns1 d (fun y => if y = f then some v else none)
theorem sup_made (T : SupTxt prog K mg xn f C fI) {v : Value} (X : K.In s.heap) (hg : s.heap.Ns mainGlobals mg) (hb : s.heap.Ns builtinsNs mb) (hbb : ∀ y : Str, y ≠ "__name__" → mb y = bootBuiltins y) (hlim : s.heap.NoLimit) (hroom : A.depth + 1 < recursionLimit)
    (hq : ∀ h' tk e d, OwnMade s.heap h' e C d f v → R (.ok (.ret (.ref e))) { s with heap := h', toks := tk }) :
    codeAny (model prog w) A (.call (.ref C) ⟨[v], []⟩) R s := by
  obtain ⟨nm, q, N, bs, bm, sn, sub, ab, col, dd, k0, k1, k2, k3, k5, hC, hbm⟩ := T.cls
  obtain ⟨hp, g, dr, tk, os⟩ := s
  have k : ∀ b o, hp.get? b = some o → ((hp.push (kdv_tup [v])).push (excO C hp.objs.size)).get? b = some o := fun b o e => Heap.get?_push_of_some _ (Heap.get?_push_of_some _ e)
  have hget : ((hp.push (kdv_tup [v])).push (excO C hp.objs.size)).get? (hp.objs.size + 1) = some (excO C hp.objs.size) := by heap_get
  have hnx : K.lookup (hp.objs.size + 1) = none := by
    cases e : K.lookup (hp.objs.size + 1) with
    | none => rfl
    | some o =>
      have z : hp.get? (hp.objs.size + 1) = some o := X _ _ e
      exact absurd (Nat.lt_of_succ_lt (Heap.lt_size z)) (Nat.lt_irrefl _)
  refine call_own F.excBase_ValueError (fun X => refsVE_contains X bm hbm) (X _ _ hC) (looks_findIn X T.iC) (fun self => bind_fn X self T.tC) (one_size v) ?_
  refine sup_init (s := ⟨(hp.push (kdv_tup [v])).push (excO C hp.objs.size), g, dr, tk, os⟩) T (X.keeps k) (hg.keeps k) (hb.keeps k) hbb (hlim.keeps k) hget hnx ?_ fun h' tk' dx t1 ⟨k', hx, dn, dne, hns⟩ => ?_
  · show A.depth + 1 < recursionLimit
    exact hroom
  · have old : ∀ b o, hp.get? b = some o → h'.get? b = some o := fun b o e => k' b o (Nat.ne_of_lt (Nat.lt_succ_of_lt (Heap.lt_size e))) (k b o e)
    have z : hp.objs.size + 1 + 1 ≤ dx := by
      have q := dn; rw [Heap.size_push, Heap.size_push] at q; exact q
    exact ⟨rfl, hq h' tk' (hp.objs.size + 1) dx ⟨old, Nat.le_succ _, ⟨_, _, hx, rfl, rfl, rfl, rfl⟩, Nat.le_trans (Nat.le_trans (Nat.le_succ _) (Nat.le_succ _)) z, dne, hns⟩⟩
end
end SupX
end PySem
namespace Gw
open PySem PySem.Spec PyProof.Rows L2
theorem relO_fld {f : Str} {v : V} {v' : Value} (r : RelV v v') (y : Str) : RelO (List.lookup y [(f, v)]) (if y = f then some v' else none) := by
  by_cases hw : y = f
  · subst hw
    rw [if_pos rfl]
    have q : List.lookup y [(y, v)] = some v := by simp [List.lookup]
    rw [q]
    exact r
  · rw [if_neg hw]
    have qw : (y == f) = false := by simpa using hw
    have q2 : List.lookup y [(f, v)] = none := by simp [List.lookup, qw]
    rw [q2]
    trivial
section
variable {X : Cx} {C fI : Addr} {x f : Str}
/-- C(e): the error's own dict is new -/
def tMkSup (C : Addr) (f : Str) (ta : TA) : L2.St → Hp → XK → Prop := fun σ H Q => ta σ H fun vs H1 => ∃ v, vs = [v] ∧ ∀ d, H1 d = none → Q (.ref C) (some d) (upd H1 d (.xd [(f, v)]))
theorem pmk_sup {a : Expr} {ta : TA} {p pos : Pos} {k : Nat} (T : PySem.SupX.SupTxt X.prog X.K X.mg x f C fI) (hr : Room k X.A) (ha : PA X [a] ta) (hg : Gl X x) (hdb : (x == ("__debug__" : Str)) = false := by decide)
    (he : starEach (a :: []) X.env = (false, eval a X.env) :: starEach [] X.env := by rfl) (hpl : (backTo pos (starEach [] X.env)).any (·.1) = false := by rfl) :
    PMk X (.Call (.Name x p) [a] [] pos) (tMkSup C f ta) := by
  intro pins s σ H Q I h
  refine wpAny_Call_Name_kw (ld_glob I hg T.gC ?_ hdb)
  refine PySem.W.callWith_K (h₀ := X.base) I.ok.mod.kin T.kC (thn (ha.run pos pins s σ H _ I h) fun us s1 hh => ?_) he hpl
  obtain ⟨vs, H1, I1, r1, v, ev, q1⟩ := hh
  subst ev
  refine ⟨I1.kIn, ?_⟩
  cases r1 with
  | cons rv rn =>
    rename_i v' us'
    cases rn
    show wpAny _ _ (call (.ref C) [v']) _ _ _
    have hlim := I1.nolimit
    obtain ⟨mb, hb, hbb⟩ := I1.mod.blt
    have hgl := I1.mod.glob.keeps I1.bk
    have hbl := hb.keeps I1.bk
    obtain ⟨hp, g, dr, tk, os⟩ := s1
    refine wpAny_call (PySem.SupX.sup_made T I1.kIn hgl hbl hbb hlim (by have := hr.dp; omega) fun h' tk' e d M => ?_)
    show MkP X pins σ Q (.ref e) ⟨h', g, dr, tk', os⟩
    obtain ⟨oe, fv, hoe, hc, hd, hdat, h1⟩ := M.obj
    have hns := M.ns
    obtain ⟨G', g1, g2⟩ := restrict h' fun b => decide (b ≠ e)
    have gk : ∀ b, b ≠ e → G'.get? b = h'.get? b := fun b hb => g1 b (decide_eq_true hb)
    have ge : G'.get? e = none := g2 e (by simp)
    have old : ∀ b o, hp.get? b = some o → G'.get? b = some o := fun b o q => (gk b (Nat.ne_of_lt (Nat.lt_of_lt_of_le (Heap.lt_size q) M.new))).trans (M.keep b o q)
    have ob : ObjOk X.prog X.w (upd H1 d (.xd [(f, v)])) G' d (.xd [(f, v)]) :=
      ⟨_, hns.at (fun o q => (gk d M.dne).trans q), fun y => relO_fld rv y⟩
    have J : Inv X pins σ (upd H1 d (.xd [(f, v)])) ⟨G', g, dr, tk', os⟩ := I1.laid (t' := tk') old M.dbig ob
    refine ⟨e, oe, fv, ⟨G', g, dr, tk', os⟩, _, .ref C, some d, rfl, J, fun b o q => ?_, ge, hoe, ⟨hc, hd⟩, hdat, h1, ?_, rfl, I1.bare, raises_own T.exC T.tyC, q1 d (I1.hok.fresh M.dbig)⟩
    · by_cases hb : b = e
      · have q' : G'.get? b = some o := q
        rw [hb, ge] at q'; cases q'
      · exact (gk b hb).symm.trans q
    · rw [upd_ne (Ne.symm M.dne)]
      exact I1.hok.fresh M.new
/-- error.f, an error that was kept -/
def tErrFld (C : Addr) (f : Str) (te : TE) : TE := fun σ H Q => te σ H fun y H1 => ∃ a dd v, y = .ref a ∧ H1 a = some (ErrO (.ref C) (some dd) a) ∧ H1 dd = some (.xd [(f, v)]) ∧ Q v H1
theorem pe_errFld {e : Expr} {te : TE} {pos : Pos} (T : PySem.SupX.SupTxt X.prog X.K X.mg x f C fI) (he : PE X e te) (hb : attributeBase e f X.env (eval e X.env) = eval e X.env := by rfl) : PE X (.Attribute e f pos) (tErrFld C f te) := by
  refine ⟨fun pins s σ H Q I h => ?_⟩
  refine attr_of hb (thn (he.run pins s σ H _ I h) fun u s1 hh => ?_)
  obtain ⟨y, H1, I1, ry, a, dd, v, rfl, ha, hd, q⟩ := hh
  obtain rfl : u = Value.ref a := ry
  obtain ⟨⟨oe, vs, at1, ⟨z1, z2⟩, d1⟩, _⟩ := I1.hok a _ ha
  have hx : ObjOk X.prog X.w H1 s1.heap dd (.xd [(f, v)]) := I1.hok dd _ hd
  obtain ⟨mA, hns, hr⟩ := hx
  obtain ⟨od, ho, hl⟩ := lookIn_ns hns
  have l : List.lookup f [(f, v)] = some v := by simp [List.lookup]
  obtain ⟨u, hu, ru⟩ := RelO.some_of (v := v) (o := mA f) (by rw [← l]; exact hr f)
  have J : PySem.W.InstAt s1.heap a oe C (some od) := ⟨at1, z1, by unfold PySem.W.notCls; rw [d1] <;> rfl, by rw [z2]; exact ho⟩
  exact HandSPX.exc_get I1.kIn J T.ga T.gg T.exC (PySem.W.findObj_own T.hdC T.noN rfl (by rw [hl, hu])) (handed_of ru) ⟨v, H1, I1.tok _, ru, q⟩
end
/-! ### isinstance of None or of an error that was kept, with or without a dict -/
def rIsC2 (K : PySem.W.Frag) : List V → Hp → VK → Prop := fun xs H Q => (∃ (C : Addr) (b : Bool), xs = [.non, .ref C] ∧ PySem.W.kitOne K (.type "NoneType") (.ref C) = some b ∧ Q (.bl b) H) ∨
  ∃ (a D C : Addr) (d : Option Addr) (b : Bool), xs = [.ref a, .ref C] ∧ H a = some (ErrO (.ref D) d a) ∧ (∀ dd, d = some dd → ∃ fs, H dd = some (.xd fs)) ∧ ExcC K D ∧ PySem.W.kitOne K (.ref D) (.ref C) = some b ∧ Q (.bl b) H
theorem cr_isC2 {X : Cx} : CallR X (.builtin "isinstance") (rIsC2 X.K) := by
  intro pins s σ H xs us Q I r h
  rcases h with ⟨C, b, rfl, e, q⟩ | ⟨a, D, C, d, b, rfl, ha, hdd, T, e, q⟩
  · exact call_isi pins s σ H _ us Q I r ⟨.non, .ref C, .type "NoneType", .ref C, b, rfl, .own C, .base .non, e, q⟩
  · obtain ⟨u1, u2, rfl, r1, r2⟩ := vals2 r
    cases r1
    cases r2
    obtain ⟨⟨oe, vs, at1, ⟨z1, z2⟩, d1⟩, _⟩ := I.hok a _ ha
    have hcl : (PySem.W.clsIn X.K D).isSome = true := by
      obtain ⟨cd, hc, _⟩ := PySem.W.any_some T.hd
      rw [hc]; rfl
    obtain ⟨od, J⟩ : ∃ od, PySem.W.InstAt s.heap a oe D od := by
      cases d with
      | none => exact ⟨none, at1, z1, by unfold PySem.W.notCls; rw [d1] <;> rfl, by rw [z2]; trivial⟩
      | some dd =>
        obtain ⟨fs, hf⟩ := hdd dd rfl
        have hx : ObjOk X.prog X.w H s.heap dd (.xd fs) := I.hok dd _ hf
        obtain ⟨mA, hns, hr⟩ := hx
        obtain ⟨od, ho, hl⟩ := lookIn_ns hns
        exact ⟨some od, at1, z1, by unfold PySem.W.notCls; rw [d1] <;> rfl, by rw [z2]; exact ho⟩
    exact PySem.W.kia_one (PySem.W.kitx_exc hcl T.hg T.hk T.hs T.ha T.hn T.ht T.hm) I.kIn J e (fun z => nomatch z) fun tk => ⟨.bl b, H, I.tok tk, rfl, q⟩
end Gw
namespace Gw
open PySem PySem.Spec PyProof.Rows L2 LamX
/-! ### values and lists of values, of which something is known -/
abbrev VP := Hp → V → Prop
def MonP (R : VP) : Prop := ∀ G G' v, Same G G' → R G v → R G' v
def PR (G : Hp) : List V → List VP → Prop
  | [], [] => True
  | v :: vs, R :: Rs => R G v ∧ PR G vs Rs
  | _, _ => False
theorem PR.len {G : Hp} : ∀ {vs : List V} {Rs : List VP}, PR G vs Rs → vs.length = Rs.length
  | [], [], _ => rfl
  | _ :: _, _ :: _, h => by rw [List.length_cons, List.length_cons, PR.len h.2]
  | [], _ :: _, h => h.elim
  | _ :: _, [], h => h.elim
theorem PR.app {G : Hp} : ∀ {vs ws : List V} {Rs Ss : List VP}, PR G vs Rs → PR G ws Ss → PR G (vs ++ ws) (Rs ++ Ss)
  | [], _, [], _, _, h => h
  | _ :: _, _, _ :: _, _, h, h' => ⟨h.1, PR.app h.2 h'⟩
  | [], _, _ :: _, _, h, _ => h.elim
  | _ :: _, _, [], _, h, _ => h.elim
theorem PR.mono {G G' : Hp} (s : Same G G') : ∀ {vs : List V} {Rs : List VP}, (∀ R ∈ Rs, MonP R) → PR G vs Rs → PR G' vs Rs
  | [], [], _, h => h
  | v :: _, R :: _, m, h => ⟨m R List.mem_cons_self _ _ _ s h.1, PR.mono s (fun R hR => m R (List.mem_cons_of_mem _ hR)) h.2⟩
  | [], _ :: _, _, h => h.elim
  | _ :: _, [], _, h => h.elim
theorem PR.get {G : Hp} : ∀ {vs : List V} {Rs : List VP} {k : Nat} {v : V}, PR G vs Rs → vs[k]? = some v → ∃ R, Rs[k]? = some R ∧ R G v
  | v :: _, R :: _, 0, _, h, e => by cases e; exact ⟨R, rfl, h.1⟩
  | _ :: vs, _ :: Rs, k + 1, u, h, e => PR.get (vs := vs) (Rs := Rs) (k := k) h.2 (by simpa using e)
  | [], [], _, _, _, e => by simp at e
  | [], _ :: _, _, _, h, _ => h.elim
  | _ :: _, [], _, _, h, _ => h.elim
def EvX (te : TE) (σ : L2.St) (G : Hp) (R : VP) : Prop := ∀ H, Same G H → ∀ Q : VK, (∀ v G' H', Nx G H G' H' → R G' v → Q v H') → te σ H Q
def EvP (te : TE) (σ : L2.St) (G : Hp) (R : Hp → List V → Prop) : Prop := ∀ H, Same G H → ∀ Q : VK, (∀ p xs G' H', Nx G H G' H' → H p = none → G' p = none → H' p = some (.lst xs) → R G' xs → Q (.ref p) H') → te σ H Q
def EvQ (ta : TA) (σ : L2.St) (G : Hp) (Rs : List VP) : Prop := ∀ H, Same G H → ∀ Q : List V → Hp → Prop, (∀ vs G' H', Nx G H G' H' → PR G' vs Rs → Q vs H') → ta σ H Q
section
variable {K : PySem.W.Frag} {σ : L2.St} {G G1 H : Hp} {te t2 : TE} {ta : TA} {i : Nat} {v : V} {R : VP} {Rs Ss : List VP} {u : TS} {D : Ends}
theorem ex_of {d : PyData} (h : EvD K te σ G d) (f : ∀ G' v, Same G G' → Dp K G' v d → R G' v) : EvX te σ G R := fun H s Q q => h H s _ fun v G1 H1 n1 hd => q v G1 H1 n1 (f G1 v n1.gg hd)
theorem ex_var (h : σ[i]? = some (some v)) (hb : R G v) : EvX (tVar i) σ G R := fun H s Q q => ⟨v, h, q v G H (Nx.refl s) hb⟩
theorem eq_nil : EvQ tNil σ G [] := fun H s Q q => q [] G H (Nx.refl s) trivial
theorem eq_cons (m : MonP R) (h : EvX te σ G R) (t : ∀ G1, Same G G1 → EvQ ta σ G1 Rs) : EvQ (tCons te ta) σ G (R :: Rs) := fun H s Q q =>
  h H s _ fun v G1 H1 n1 hv => (t G1 n1.gg) H1 n1.gh _ fun vs G2 H2 n2 hvs => q (v :: vs) G2 H2 (n1.trans n2) ⟨m _ _ _ n2.gg hv, hvs⟩
theorem ep_lst (h : EvQ ta σ G Rs) (hz : Rs.length ≤ sizeLine) : EvP (tLst ta) σ G (fun G' xs => PR G' xs Rs) := fun H s Q q =>
  h H s _ fun vs G1 H1 n1 hv => ⟨by rw [hv.len]; exact hz, fun p hp => q p vs G1 _ (n1.trans (Nx.lay n1.gh hp)) (n1.hh.free hp) (n1.gh.free hp) upd_same hv⟩
/-- x + [..], x a list of the view -/
theorem ep_catV {l : Addr} {xs : List V} (h : σ[i]? = some (some (.ref l))) (hl : G l = some (.lst xs)) (ha : PR G xs Rs) (m : ∀ R ∈ Rs, MonP R) (h2 : EvP t2 σ G (fun G' xs => PR G' xs Ss)) (hz : Rs.length + Ss.length ≤ sizeLine) : EvP (tOp rCat (tVar i) t2) σ G (fun G' xs => PR G' xs (Rs ++ Ss)) := fun H s Q q =>
  ⟨_, h, h2 H s _ fun p2 ws G2 H2 n2 hp2 gp2 e2 ha2 => ⟨l, p2, xs, ws, rfl, rfl, n2.hh _ _ (s _ _ hl), e2, by rw [ha.len, ha2.len]; exact hz, fun p3 hp3 =>
    q p3 (xs ++ ws) G2 _ (n2.trans (Nx.lay n2.gh hp3)) (n2.hh.free hp3) (n2.gh.free hp3) upd_same ((ha.mono n2.gg m).app ha2)⟩⟩
theorem seq_letP {P : Hp → List V → Prop} (h : EvP te σ G P) (m : ∀ G G' xs, Same G G' → P G xs → P G' xs) (s : Same G H) (k : ∀ p xs G1 H1, Nx G H G1 H1 → G1 p = some (.lst xs) → P G1 xs → u D (σ.set i (some (.ref p))) H1) : tSeq (tAsg te (gName i)) u D σ H := h H s _ fun p xs G1 H1 n hp gp e hR => by
  obtain ⟨n2, gi⟩ := n.tell hp gp e
  exact k p xs _ H1 n2 upd_same (m _ _ _ gi hR)
end
/-! ### errors as values, over a view -/
/-- an error of the class at C stands there, with or without a dict of its own -/
def ErrV (C : Addr) (G : Hp) (v : V) : Prop := ∃ (a : Addr) (dd : Option Addr), v = .ref a ∧ G a = some (ErrO (.ref C) dd a) ∧ ∀ d, dd = some d → ∃ fs, G d = some (.xd fs)
theorem errV_mono (C : Addr) : MonP (ErrV C) := fun G G' v s ⟨a, dd, e, h, hd⟩ => ⟨a, dd, e, s _ _ h, fun d z => (hd d z).imp fun fs e => s _ _ e⟩
end Gw
namespace PySem
namespace SupX
open PySem.W PySem.Calls PyProof.Rows PySem.HandSPX
/-! ### own errors made by keyword, as values -/
section
variable {prog : Program} {w : World} {A : Around} {E : Value → Shared → Prop} {R : Result → Shared → Prop} {h : Heap} {g : Array GenState} {d : Drawn} {t : Nat} {os : OsState}
variable {nm q : Str} {C N : Addr} {bs bm bmB : List Value} {hdct : Bool} {sn : List Str} {sub : List Value} {ab : Bool} {col : Option Bool} {dd : Option Addr} {k0 k1 k2 k3 k5 : Option Value} {B newId initId : String}
theorem kw_check (F : ExcBaseFacts B newId initId bmB) (eT : ∀ X : String, bm.contains (.type X) = bmB.contains (.type X)) {kw : List (Str × Value)} {Q : Unit → Shared → Prop}
    (at1 : h.get? C = some (excClassObj nm q C N bs bm hdct sn sub ab col dd k0 k1 k2 k3 k5 newId)) (out : Q () ⟨h, g, d, t, os⟩) : wpAny (model prog w) A (checkBuiltinCall newId ⟨[.ref C], kw⟩) Q E ⟨h, g, d, t, os⟩ := by
  have c1 : (Value.ref C :: bm).contains (.type B) = true := by rw [List.contains_cons, eT, F.hasB, Bool.or_true]
  have c2 := F.noStar
  simp only [checkBuiltinCall, F.newKind, F.newSplit, F.newRow]
  repeat (first | refine wpAny_loadPart_at at1 ?_ | (refine wpAny_isSubtype_exc at1 ?_; rw [c1]) | refine wpAny_staticBase_exc at1 ?_ | refine wpAny_madeBy_exc at1 ?_ | simp only [bne_self_eq_false, Bool.false_eq_true, if_false] | wp_step)
  exact out
theorem kw_new (F : ExcBaseFacts B newId initId bmB) (eT : ∀ X : String, bm.contains (.type X) = bmB.contains (.type X)) {kw : List (Str × Value)} (at1 : h.get? C = some (excClassObj nm q C N bs bm hdct sn sub ab col dd k0 k1 k2 k3 k5 newId))
    (out : R (.ok (.ret (.ref (h.objs.size + 1)))) ⟨(h.push { cls := .type "tuple", data := .seq #[] }).push { cls := .ref C, data := .fields #[.ref h.objs.size, .none, .none, .none, .bool false, .none] }, g, d, t, os⟩) : codeAny (model prog w) A (.builtin newId ⟨[.ref C], kw⟩) R ⟨h, g, d, t, os⟩ := by
  have ends := F.ends
  have c1 : (Value.ref C :: bm).contains (.type B) = true := by rw [List.contains_cons, eT, F.hasB, Bool.or_true]
  have c2 : (Value.ref C :: bm).contains (.type "AttributeError") = false := by rw [List.contains_cons, eT, F.noAttr]; rfl
  have c3 : (Value.ref C :: bm).contains (.type "NameError") = false := by rw [List.contains_cons, eT, F.noName]; rfl
  refine codeAny_builtinAt F.entry ?_
  unfold Builtin.«BaseException.__new__»
  refine wpAt_bind ?_
  show wpAt _ _ _ (stack >>= _) _ _ _
  refine wpAt_bind (wpAt_stack fun p below => wpAt_of_wpAny ?_)
  wp_walk
  refine wpAt_of_wpAny ?_
  rw [F.owner]
  repeat (first | with_reducible refine wpAny_madeHere_exc F.canon at1 ?_ | with_reducible refine wpAny_loadPart_at at1 ?_ | (with_reducible refine wpAny_isSubtype_exc at1 ?_; first | rw [c1] | rw [c2] | rw [c3]) | wp_step)
  show R _ _
  rw [Heap.size_push]
  exact out
theorem kw_type (F : ExcBaseFacts B newId initId bmB) (eT : ∀ X : String, bm.contains (.type X) = bmB.contains (.type X)) {kw : List (Str × Value)} {fI : Addr} {Q : Fin → Shared → Prop} (at1 : h.get? C = some (excClassObj nm q C N bs bm hdct sn sub ab col dd k0 k1 k2 k3 k5 newId))
    (hi : W.Looks (model prog w) h (typeLookup (.ref C) "__init__") (some (.ref fI))) (hb : ∀ self, W.Looks (model prog w) h (bindSpecial (.ref fI) self) (.ref fI, [self]))
    (run : codeAny (model prog w) A (.call (.ref fI) ⟨[.ref (h.objs.size + 1)], kw⟩) (fun r s' => match r with | .ok (.ret v) => v = .none ∧ Q (.done (.ret (.ref (h.objs.size + 1)))) s' | .ok _ => False | .error e => E e s') ⟨(h.push (W.kdv_tup [])).push (excO C h.objs.size), g, d, t, os⟩) :
    wpAny (model prog w) A (Builtin.«type.__call__» ⟨[.ref C], kw⟩) Q E ⟨h, g, d, t, os⟩ := by
  repeat (first | with_reducible refine wpAny_loadPart_at at1 ?_ | with_reducible refine wpAny_madeBy_exc at1 ?_ | wp_step)
  refine codeAny_call_builtin_code (Code.quiet_builtin _ F.quiet) (kw_check F eT at1 ?_)
  refine kw_new F eT at1 ?_
  show wpAny _ _ _ _ _ _
  have k : ∀ b o, h.get? b = some o → ((h.push (W.kdv_tup [])).push (excO C h.objs.size)).get? b = some o := fun b o e => Heap.get?_push_of_some _ (Heap.get?_push_of_some _ e)
  have at2 := k _ _ at1
  have got : ((h.push (W.kdv_tup [])).push (excO C h.objs.size)).get? (h.objs.size + 1) = some (excO C h.objs.size) := by heap_get
  have c4 : (Value.ref C :: bm).contains (.ref C) = true := by simp
  have i1 := hi.keeps k
  have b1 := (hb (.ref (h.objs.size + 1))).keeps k
  unfold isInstance
  repeat (first | with_reducible refine wpAny_loadPart_at got ?_ | (with_reducible refine wpAny_isSubtype_exc at2 ?_; rw [c4]) | wp_step)
  show wpAny _ _ (typeLookup (.ref C) _) _ _ _
  refine i1.at ?_
  refine wpAny_holding (wpAny_bind (b1.at ?_))
  refine wpAny_bind (wpAny_call (codeAny_mono run fun r s' z => ?_))
  rcases r with e | (v | _ | _ | _) <;> first | exact z | exact z.elim | skip
  obtain ⟨rfl, z⟩ := z
  first
    | exact wpAny_pure (wpAny_pure z)
    | (wp_walk; exact z)
theorem kw_call (F : ExcBaseFacts B newId initId bmB) (eT : ∀ X : String, bm.contains (.type X) = bmB.contains (.type X)) {kw : List (Str × Value)} {fI : Addr} (at1 : h.get? C = some (excClassObj nm q C N bs bm hdct sn sub ab col dd k0 k1 k2 k3 k5 newId))
    (hi : W.Looks (model prog w) h (typeLookup (.ref C) "__init__") (some (.ref fI))) (hb : ∀ self, W.Looks (model prog w) h (bindSpecial (.ref fI) self) (.ref fI, [self]))
    (run : codeAny (model prog w) (A.under (.builtin "type.__call__" ⟨[.ref C], kw⟩)) (.call (.ref fI) ⟨[.ref (h.objs.size + 1)], kw⟩) (W.InitBack (h.objs.size + 1) R) ⟨(h.push (W.kdv_tup [])).push (excO C h.objs.size), g, d, t, os⟩) :
    codeAny (model prog w) A (.call (.ref C) ⟨[], kw⟩) R ⟨h, g, d, t, os⟩ := by
  have u1 := tc_lookup
  have u2 := tc_bind (.ref C)
  have ty : (⟨h, g, d, t, os⟩ : Shared).TypeIs (.ref C) "type" := ⟨_, at1, rfl⟩
  refine codeAny_of_tree ?_
  show wpAny _ _ (callAny (.ref C) _) _ _ _
  repeat (any_goals (first | assumption | with_reducible refine wpAny_loadPart_at at1 ?_ | wp_step))
  refine ⟨rfl, ?_⟩
  refine codeAny_call_builtin_at (Code.quiet_builtin _ (by decide +kernel)) entry_typeCall (wpAny_check_type_call_sub at1 (kw_type F eT at1 hi hb ?_))
  refine codeAny_mono run fun r s' z => ?_
  rcases r with e | (v | _ | _ | _) <;> exact z
end
def KwFld (f : Str) : Prop := ∀ (qn : Str) (p1 p2 : Pos) (b : List Stmt) (doc pm : Value) (an : Option Addr) (cd ct : Value) (cc : Addr) (a v : Value), bindArgs (ksFn "__init__" qn (eA f p1 p2) b (eS f) .none .none doc pm an cd ct cc) ⟨[a], [(f, v)]⟩ = pure [(("self" : Str), a), (f, v)]
section
variable {prog : Program} {w : World} {A : Around} {E : Value → Shared → Prop} {R : Result → Shared → Prop} {s : Shared} {K : Frag} {mg mb : Str → Option Value} {xn f : Str} {C fI : Addr}
theorem sup_initK (T : SupTxt prog K mg xn f C fI) (kb : KwFld f) {x t0 : Addr} {v : Value} (X : K.In s.heap) (hg : s.heap.Ns mainGlobals mg) (hb : s.heap.Ns builtinsNs mb) (hbb : ∀ y : Str, y ≠ "__name__" → mb y = bootBuiltins y) (hlim : s.heap.NoLimit) (hx : s.heap.get? x = some (excO C t0)) (hnx : K.lookup x = none) (hroom : A.depth < recursionLimit)
    (hq : ∀ h' tk dx t1, InitEnd s.heap h' x C dx t1 f v → R (.ok (.ret .none)) { s with heap := h', toks := tk }) :
    codeAny (model prog w) A (.call (.ref fI) ⟨[.ref x], [(f, v)]⟩) R s := by
  obtain ⟨oc, od, doc, pm, an, cda, ct, osl, cc, p1, p2, txt, q1, q2, q3, q4, q5, q6, r1, r2, r3, r4, qn, ccl, cl, cdd, cld, vs, ccs, csl, file, tf, hpos, ho, hcd, hcode, hvs, hfile, hcell⟩ := T.fn
  obtain ⟨nm, q, N, bs, bm, sn, sub, ab, col, dd, k0, k1, k2, k3, k5, hC, hbm⟩ := T.cls
  have hcl : clsIn K C = some { name := nm, bases := bs, mro := .ref C :: bm, ns := N, qualname := q, hasDict := true, slotNames := sn, subclasses := sub, abstract := ab, collection := col, hasDel := false } := by unfold clsIn; rw [hC] <;> rfl
  refine ks_codeAny_call_defAt (binds := [(("self" : Str), .ref x), (f, v)]) hroom (X _ _ ho) rfl hlim (codeRec_of X hcd) rfl (BindsTo.of_eq (kb _ _ _ _ _ _ _ _ _ _ _ _)) T.nf.nc ?l (fun h₁ hns k => ?_) rfl rfl rfl
  case l =>
    intro y hy
    rcases List.mem_cons.mp hy with rfl | hy
    · exact T.nf.l1
    · rw [List.mem_singleton.mp hy]; exact T.nf.l2
  have X₁ : K.In h₁ := X.keeps k
  have hx₁ := k _ _ hx
  have hxL : s.heap.objs.size ≠ x := Nat.ne_of_gt (Heap.lt_size hx)
  obtain ⟨hp, g, d, tk0, os⟩ := s
  dsimp only at X hg hb hlim hx hns k hxL ⊢
  have m1 : [(("self" : Str), Value.ref x), (f, v)].reverse.lookup ("self" : Str) = some (.ref x) := by
    have : (("self" : Str) == f) = false := by
      have := T.nf.ns
      rw [beq_eq_false_iff_ne] at this ⊢
      exact fun z => this z.symm
    show [(f, v), (("self" : Str), Value.ref x)].lookup ("self" : Str) = _
    simp [List.lookup, this]
  have m2 : [(("self" : Str), Value.ref x), (f, v)].reverse.lookup f = some v := by
    show [(f, v), (("self" : Str), Value.ref x)].lookup f = _
    simp [List.lookup]
  show _root_.PySem.wpAt _ _ (.func (eB f txt q1 q2 q3 q4 q5 q6 r1 r2 r3 r4) (ksEnv qn (eS f) hp.objs.size fI (.ref cda) cc)) (execs (eB f txt q1 q2 q3 q4 q5 q6 r1 r2 r3 r4) (ksEnv qn (eS f) hp.objs.size fI (.ref cda) cc)) _ _ _
  refine ks_wpAt_execs_cons (ks_wpAt_Expr_any (ks_wpAt_MethodCall ?_ (sup_he hpos)))
  refine ks_wpAt_super_base (env := ksEnv qn (eS f) hp.objs.size fI (.ref cda) cc) T.nf.l4 T.nf.l3 (by decide) rfl (X₁ _ _ ho) rfl rfl rfl (X₁ _ _ hcode) rfl hvs hfile T.top ?_
  refine ks_loadName_global rfl T.nf.l4 (loadGlobal_builtin (env := ksEnv qn (eS f) hp.objs.size fI (.ref cda) cc) (hg.keeps k) T.noS (hb.keeps k) ((hbb _ (by decide +kernel)).trans (by first | boot_by_name | rfl | kernel_rfl)) ⟨rfl, ?_⟩)
  refine wpAny_loadName_free rfl T.nf.l3 rfl ⟨_, X₁ _ _ hcell, rfl⟩ ?_
  refine wpAny_loadName_local rfl T.nf.l1 hns m1 ?_
  refine ks_wpAny_isType_cls (X₁ _ _ hC) rfl ⟨rfl, ?_⟩
  refine ks_wpAny_call_super (X₁ _ _ hC) rfl hx₁ rfl (fun c e => by cases e) (looks_mroIn X₁ T.mC) (fun h₂ eso k₂ => ?_)
  have X₂ : K.In h₂ := X₁.keeps k₂
  have hx₂ := k₂ _ _ hx₁
  have I₂ : InstAt h₂ x (excO C t0) C none := ⟨hx₂, rfl, rfl, trivial⟩
  have hsup : alongIn K "__init__" (((Value.ref C :: bm).dropWhile (· != .ref C)).drop 1) = some (some (.builtin "ValueError.__init__")) := by
    have e := T.sup
    unfold ks_superIn at e
    rw [hcl] at e
    exact e
  refine kxs_getMethod kxs_ValueError eso (looks_opaque X₂ T.op) (l₀ := Value.ref C :: bm) (fun A Q E s k q => wpAny_bind ((looks_clsIn X₂ hcl) A _ E s k (wpAny_pure q))) rfl X₂ hsup (I₂.type.andThen (looks_subIn X₂ T.veC)) (ks_ne X₂ I₂ hcl) (by decide) ?_
  have k₃ : ∀ b o, h₂.get? b = some o → (h₂.push (kxs_mw "ValueError.__init__" x)).get? b = some o := fun b o e => Heap.get?_push_of_some _ e
  have hx₃ := k₃ _ _ hx₂
  have hmw : (h₂.push (kxs_mw "ValueError.__init__" x)).get? h₂.objs.size = some (kxs_mw "ValueError.__init__" x) := Heap.get?_push_at rfl rfl
  refine kxs_callWith (i := "ValueError.__init__") (x := x) (by rfl) (evalArgs_plain ?_)
  refine spliced_cons (Constant_str (pos := q4) (k := 0) (spliced_nil ⟨hmw, ?_⟩))
  refine call_mw (X₂.keeps k₃ _ _ hC) hx₃ hmw (one_size _) fun h₄ t1 k₄ hx₄ => ?_
  have X₄ : K.In h₄ := kept_but (X₂.keeps k₃) hnx k₄
  have hns₄ : h₄.Ns hp.objs.size (fun y => [(("self" : Str), Value.ref x), (f, v)].reverse.lookup y) := ((hns.keeps k₂).keeps k₃).at fun o q => k₄ _ _ hxL q
  refine ks_wpAt_execs_cons (wpAt_of_wpAny (plainObj_wpAny_Assign_Attribute ?_))
  refine wpAny_Name (wpAny_loadName_local rfl T.nf.l2 hns₄ m2 ?_) T.nf.nd
  refine wpAny_Name (wpAny_loadName_local rfl T.nf.l1 hns₄ m1 ?_) (by decide)
  refine set_plain X₄ (ox := excO C t1) (od := none) ⟨hx₄, rfl, rfl, trivial⟩ T.sa ?_
  refine exc_osa X₄ hx₄ hcl (show refsVE (.ref C :: bm) = true from hbm) rfl T.noN (fun h₅ tk₅ dx k₅ dn dne hx₅ hn₅ => ?_)
  refine wpAt_of_wpAny (wpAny_execs_nil (hq h₅ tk₅ dx t1 ⟨fun b o hb e => k₅ b o hb (k₄ b o hb (k₃ _ _ (k₂ _ _ (k b o e)))), hx₅, ?_, dne, hn₅⟩))
  exact Nat.le_of_lt (Nat.lt_of_lt_of_le hns₄.lt dn)
theorem sup_madeK (T : SupTxt prog K mg xn f C fI) (kb : KwFld f) {v : Value} (X : K.In s.heap) (hg : s.heap.Ns mainGlobals mg) (hb : s.heap.Ns builtinsNs mb) (hbb : ∀ y : Str, y ≠ "__name__" → mb y = bootBuiltins y) (hlim : s.heap.NoLimit) (hroom : A.depth + 1 < recursionLimit)
    (hq : ∀ h' tk e d, OwnMade s.heap h' e C d f v → R (.ok (.ret (.ref e))) { s with heap := h', toks := tk }) : codeAny (model prog w) A (.call (.ref C) ⟨[], [(f, v)]⟩) R s := by
  obtain ⟨nm, q, N, bs, bm, sn, sub, ab, col, dd, k0, k1, k2, k3, k5, hC, hbm⟩ := T.cls
  obtain ⟨hp, g, dr, tk, os⟩ := s
  have k : ∀ b o, hp.get? b = some o → ((hp.push (kdv_tup [])).push (excO C hp.objs.size)).get? b = some o := fun b o e => Heap.get?_push_of_some _ (Heap.get?_push_of_some _ e)
  have hget : ((hp.push (kdv_tup [])).push (excO C hp.objs.size)).get? (hp.objs.size + 1) = some (excO C hp.objs.size) := by heap_get
  have hnx : K.lookup (hp.objs.size + 1) = none := by
    cases e : K.lookup (hp.objs.size + 1) with
    | none => rfl
    | some o =>
      have z : hp.get? (hp.objs.size + 1) = some o := X _ _ e
      exact absurd (Nat.lt_of_succ_lt (Heap.lt_size z)) (Nat.lt_irrefl _)
  refine kw_call F.excBase_ValueError (fun X => refsVE_contains X bm hbm) (X _ _ hC) (looks_findIn X T.iC) (fun self => bind_fn X self T.tC) ?_
  refine sup_initK (s := ⟨(hp.push (kdv_tup [])).push (excO C hp.objs.size), g, dr, tk, os⟩) T kb (X.keeps k) (hg.keeps k) (hb.keeps k) hbb (hlim.keeps k) hget hnx ?_ fun h' tk' dx t1 ⟨k', hx, dn, dne, hns⟩ => ?_
  · show A.depth + 1 < recursionLimit
    exact hroom
  · have old : ∀ b o, hp.get? b = some o → h'.get? b = some o := fun b o e => k' b o (Nat.ne_of_lt (Nat.lt_succ_of_lt (Heap.lt_size e))) (k b o e)
    have z : hp.objs.size + 1 + 1 ≤ dx := by
      have q := dn; rw [Heap.size_push, Heap.size_push] at q; exact q
    exact ⟨rfl, hq h' tk' (hp.objs.size + 1) dx ⟨old, Nat.le_succ _, ⟨_, _, hx, rfl, rfl, rfl, rfl⟩, Nat.le_trans (Nat.le_trans (Nat.le_succ _) (Nat.le_succ _)) z, dne, hns⟩⟩
theorem kw_part : KwFld "part" := fun _ _ _ _ _ _ _ _ _ _ _ _ => rfl
theorem kw_most : KwFld "most" := fun _ _ _ _ _ _ _ _ _ _ _ _ => rfl
theorem kw_place : KwFld "place" := fun _ _ _ _ _ _ _ _ _ _ _ _ => rfl
theorem kw_fault : KwFld "fault" := fun _ _ _ _ _ _ _ _ _ _ _ _ => rfl
theorem kw_at : KwFld "at" := fun _ _ _ _ _ _ _ _ _ _ _ _ => rfl
theorem kw_why : KwFld "why" := fun _ _ _ _ _ _ _ _ _ _ _ _ => rfl
theorem fld_place : FldOk "place" := ⟨rfl, rfl, rfl, rfl, by decide, rfl, rfl, fun _ _ _ _ _ _ _ _ _ _ _ _ => rfl⟩
theorem fld_fault : FldOk "fault" := ⟨rfl, rfl, rfl, rfl, by decide, rfl, rfl, fun _ _ _ _ _ _ _ _ _ _ _ _ => rfl⟩
theorem fld_at : FldOk "at" := ⟨rfl, rfl, rfl, rfl, by decide, rfl, rfl, fun _ _ _ _ _ _ _ _ _ _ _ _ => rfl⟩
theorem fld_why : FldOk "why" := ⟨rfl, rfl, rfl, rfl, by decide, rfl, rfl, fun _ _ _ _ _ _ _ _ _ _ _ _ => rfl⟩
end
end SupX
end PySem
namespace Gw
open PySem PySem.Spec PyProof.Rows L2
/-! ### errors as values -/
section
variable {X : Cx} {C fI : Addr} {x f : Str}
/-- what came: the error at e, its own dict at d -/
def MadeE (C : Addr) (f : Str) (v : V) (H : Hp) (Q : VK) : Prop := ∀ d e, H d = none → H e = none → e ≠ d → Q (.ref e) (upd (upd H d (.xd [(f, v)])) e (ErrO (.ref C) (some d) e))
theorem made_in {pins : List (Addr × Obj)} {σ : L2.St} {H1 : Hp} {Q : VK} {v : V} {v' : Value} {hp h' : Heap} {g : Array GenState} {dr : Drawn} {tk tk' : Nat} {os : OsState} {e d : Addr} (I1 : Inv X pins σ H1 ⟨hp, g, dr, tk, os⟩) (rv : RelV v v') (M : PySem.SupX.OwnMade hp h' e C d f v') (q : MadeE C f v H1 Q) : EP X pins σ Q (.ref e) ⟨h', g, dr, tk', os⟩ := by
  obtain ⟨oe, fv, hoe, hc, hd, hdat, h1⟩ := M.obj
  have hns := M.ns
  obtain ⟨G', g1, g2⟩ := restrict h' fun b => decide (b ≠ e)
  have gk : ∀ b, b ≠ e → G'.get? b = h'.get? b := fun b hb => g1 b (decide_eq_true hb)
  have ge : G'.get? e = none := g2 e (by simp)
  have old : ∀ b o, hp.get? b = some o → G'.get? b = some o := fun b o q => (gk b (Nat.ne_of_lt (Nat.lt_of_lt_of_le (Heap.lt_size q) M.new))).trans (M.keep b o q)
  have ob : ObjOk X.prog X.w (upd H1 d (.xd [(f, v)])) G' d (.xd [(f, v)]) := ⟨_, hns.at (fun o q => (gk d M.dne).trans q), fun y => relO_fld rv y⟩
  have J : Inv X pins σ (upd H1 d (.xd [(f, v)])) ⟨G', g, dr, tk', os⟩ := I1.laid (t' := tk') old M.dbig ob
  have fe := I1.hok.fresh M.new
  have ne : e ≠ d := Ne.symm M.dne
  have he : upd H1 d (.xd [(f, v)]) e = none := (upd_ne ne).trans fe
  have up : ∀ b o, G'.get? b = some o → h'.get? b = some o := fun b o q => by
    by_cases hb : b = e
    · rw [hb, ge] at q; cases q
    · exact (gk b hb).symm.trans q
  exact ⟨.ref e, _, J.laidN (t' := tk') up ge he (err_new ⟨oe, fv, hoe, ⟨hc, hd⟩, hdat⟩), rfl, q d e (I1.hok.fresh M.dbig) fe ne⟩
def tSupV (C : Addr) (f : Str) (ta : TA) : TE := fun σ H Q => ta σ H fun vs H1 => ∃ v, vs = [v] ∧ MadeE C f v H1 Q
theorem pe_supV {a : Expr} {ta : TA} {p pos : Pos} {k : Nat} (T : PySem.SupX.SupTxt X.prog X.K X.mg x f C fI) (hr : Room k X.A) (ha : PA X [a] ta) (hg : Gl X x) (hdb : (x == ("__debug__" : Str)) = false := by decide)
    (he : starEach (a :: []) X.env = (false, eval a X.env) :: starEach [] X.env := by rfl) (hpl : (backTo pos (starEach [] X.env)).any (·.1) = false := by rfl) : PE X (.Call (.Name x p) [a] [] pos) (tSupV C f ta) := by
  refine ⟨fun pins s σ H Q I h => ?_⟩
  refine wpAny_Call_Name_kw (ld_glob I hg T.gC ?_ hdb)
  refine PySem.W.callWith_K (h₀ := X.base) I.ok.mod.kin T.kC (thn (ha.run pos pins s σ H _ I h) fun us s1 hh => ?_) he hpl
  obtain ⟨vs, H1, I1, r1, v, ev, q1⟩ := hh
  subst ev
  refine ⟨I1.kIn, ?_⟩
  cases r1 with
  | cons rv rn =>
    rename_i v' us'
    cases rn
    show wpAny _ _ (call (.ref C) [v']) _ _ _
    have hlim := I1.nolimit
    obtain ⟨mb, hb, hbb⟩ := I1.mod.blt
    have hgl := I1.mod.glob.keeps I1.bk
    have hbl := hb.keeps I1.bk
    obtain ⟨hp, g, dr, tk, os⟩ := s1
    exact wpAny_call (PySem.SupX.sup_made T I1.kIn hgl hbl hbb hlim (by have := hr.dp; omega) fun h' tk' e d M => made_in I1 rv M q1)
def tSupK (C : Addr) (f : Str) (tk : TA) : TE := fun σ H Q => tk σ H fun vs H1 => ∃ v, vs = [v] ∧ MadeE C f v H1 Q
theorem pe_supK {kws : List Keyword} {tk : TA} {p pos : Pos} {k : Nat} (T : PySem.SupX.SupTxt X.prog X.K X.mg x f C fI) (kb : PySem.SupX.KwFld f) (hr : Room k X.A) (hg : Gl X x) (hkw : PK X kws tk) (hall : (backToKw pos (keywordEach kws X.env)).all (·.1.isSome) = true := by rfl)
    (hks : (backToKw pos (keywordEach kws X.env)).filterMap (·.1) = [f] := by rfl) (hdb : (x == ("__debug__" : Str)) = false := by decide)
    (hpl : ((backTo pos (starEach [] X.env)).any (·.1) || (backToKw pos (keywordEach kws X.env)).any (·.1.isNone)) = false := by rfl) : PE X (.Call (.Name x p) [] kws pos) (tSupK C f tk) := by
  refine ⟨fun pins s σ H Q I h => ?_⟩
  refine wpAny_Call_Name_kw (ld_glob I hg T.gC ?_ hdb)
  refine PySem.W.callWith_KW0 (h₀ := X.base) I.ok.mod.kin T.kC hall (thn (hkw.run pos pins s σ H _ I h) fun ws s1 ⟨vs, H1, I1, r1, v, ev, q1⟩ => ⟨I1.kIn, ?_⟩) hpl
  rw [hks]
  subst ev
  obtain ⟨v', rfl, rv⟩ : ∃ v', ws = [v'] ∧ RelV v v' := by obtain _ | ⟨r, _ | _⟩ := r1; exact ⟨_, rfl, r⟩
  · show wpAny _ _ (call (.ref C) [] [(f, v')]) _ _ _
    have hlim := I1.nolimit
    obtain ⟨mb, hb, hbb⟩ := I1.mod.blt
    have hgl := I1.mod.glob.keeps I1.bk
    have hbl := hb.keeps I1.bk
    obtain ⟨hp, g, dr, tk, os⟩ := s1
    exact wpAny_call (PySem.SupX.sup_madeK T kb I1.kIn hgl hbl hbb hlim (by have := hr.dp; omega) fun h' tk' e d M => made_in I1 rv M q1)
/-- an error class without an __init__ of its own -/
def tPlnV (C : Addr) (te : TE) : TE := fun σ H Q => te σ H fun _ H1 => ∀ e, H1 e = none → Q (.ref e) (upd H1 e (ErrO (.ref C) none e))
theorem pe_plnV {e : Expr} {te : TE} {p pos : Pos} (T : Err X.K X.mg x C) (he : PE X e te) (hg : Gl X x) (hs : starEach [e] X.env = (false, eval e X.env) :: starEach [] X.env := by rfl) (hdb : (x == ("__debug__" : Str)) = false := by decide) : PE X (.Call (.Name x p) [e] [] pos) (tPlnV C te) := by
  refine ⟨fun pins s σ H Q I h => ?_⟩
  refine wpAny_Call_Name_kw (ld_glob I hg T.g ?_ hdb)
  refine PySem.W.callWith_K (h₀ := X.base) I.ok.mod.kin T.k ?_ hs (by rfl)
  rw [hs]
  show wpAny _ _ (spliced ((false, eval e X.env) :: backTo pos (starEach [] X.env))) _ _ s
  refine Calls.spliced_cons (thn (he.run pins s σ H _ I h) fun u s1 ⟨v, H1, I1, r1, q1⟩ => ?_)
  refine Calls.spliced_nil ⟨I1.kIn, ?_⟩
  show wpAny _ _ (call (.ref C) [u]) _ _ _
  obtain ⟨bm, N, nm, qn, bs, hdct, sn, sub, ab, col, dd, k0, k1, k2, k3, k5, mN, hC, hN, hni, Ts⟩ := exc_obj I1.kIn T.x
  refine wpAny_call_exc_subT F.excBase_ValueError Ts hC hN hni (fun h' a hm => ?_) (by show 1 ≤ sizeLine; rw [sizeLine_eq]; omega)
  have hn : H1 a = none := I1.hok.gone hm.new
  obtain ⟨t, ht, _, _⟩ := hm.there
  exact ⟨.ref a, upd H1 a (ErrO (.ref C) none a), I1.laidN hm.keeps hm.new hn (err_new ⟨_, _, ht, ⟨rfl, rfl⟩, rfl⟩), rfl, q1 a hn⟩
end
end Gw
namespace Gw
open PySem PySem.Spec PyProof.Rows L2 LamX
/-! ### views without tables -/
def noT (G : Hp) : Hp := fun a => match G a with | some (.tbl _) => none | o => o
theorem noT_of {G : Hp} {a : Addr} {o : HO} (h : G a = some o) (n : ∀ ps, o ≠ .tbl ps) : noT G a = some o := by
  unfold noT
  rw [h]
  split
  · rename_i ps e; exact absurd (Option.some.inj e) (n ps)
  · rfl
theorem noT_inv {G : Hp} {a : Addr} {o : HO} (h : noT G a = some o) : G a = some o ∧ ∀ ps, o ≠ .tbl ps := by
  unfold noT at h
  split at h
  · cases h
  · rename_i x
    exact ⟨h, fun ps e => x ps (by rw [h, e])⟩
theorem noT_same {G : Hp} : Same (noT G) G := fun a o h => (noT_inv h).1
theorem noT_ext {G H H' : Hp} (s : Same (noT G) H) (e : ExtN H H') : Same (noT G) H' := fun a o h => e a o (s a o h) (noT_inv h).2
theorem noT_mono {G H : Hp} (s : Same G H) : Same (noT G) (noT H) := fun a o h => noT_of (s _ _ (noT_inv h).1) (noT_inv h).2
theorem noT_none {G : Hp} {a : Addr} (h : G a = none) : noT G a = none := by unfold noT; rw [h]
theorem sqT_noT {K : PySem.W.Frag} {G : Hp} {a : Addr} {xs : List V} (h : SqT K G a xs) : SqT K (noT G) a xs := by
  rcases h with (h | ⟨o, h⟩) | h
  · exact .inl (.inl (noT_of h fun _ z => nomatch z))
  · exact .inl (.inr ⟨o, noT_of h fun _ z => nomatch z⟩)
  · exact .inr h
theorem sqL_noT {K : PySem.W.Frag} {G : Hp} {a : Addr} {xs : List V} (h : SqL K G a xs) : SqL K (noT G) a xs := by
  rcases h with (h | ⟨o, h⟩) | h
  · exact .inl (.inl (noT_of h fun _ z => nomatch z))
  · exact .inl (.inr ⟨o, noT_of h fun _ z => nomatch z⟩)
  · exact .inr h
mutual
theorem dp_noT {K : PySem.W.Frag} {H : Hp} : ∀ (d : PyData) {v : V}, Dp K H v d → Dp K (noT H) v d
  | .none, _, .non => .non
  | .bool b, _, .bl _ => .bl b
  | .int i, _, .int _ => .int i
  | .str x, _, .str _ => .str x
  | .list ds, _, .lst hs ha => .lst (sqL_noT hs) (dpa_noT ds ha)
  | .tuple ds, _, .tup hs ha => .tup (sqT_noT hs) (dpa_noT ds ha)
theorem dpa_noT {K : PySem.W.Frag} {H : Hp} : ∀ (ds : List PyData) {vs : List V}, DpAll K H vs ds → DpAll K (noT H) vs ds
  | [], _, .nil => .nil
  | d :: ds, _, .cons h t => .cons (dp_noT d h) (dpa_noT ds t)
end
theorem Drw.noT {H : Hp} {d l c : Addr} (D : Drw H d l c) : Drw (noT H) d l c := by
  obtain ⟨r, t, ls, cs, h1, h2, h3, h4, h5⟩ := D.at'
  exact ⟨D.ne, r, t, ls, cs, noT_of h1 (fun _ z => nomatch z), noT_of h2 (fun _ z => nomatch z), noT_of h3 (fun _ z => nomatch z), h4, h5⟩
/-! ### what a draw's deed leaves -/
theorem Nd.off {d l c b : Addr} {H H' : Hp} {o : HO} (n : Nd d l H H') (D : Drw H d l c) (h : H b = some o) (n1 : ∀ kvs, o ≠ .dK kvs) (n2 : ∀ xs, o ≠ .lst xs) : H' b = some o := by
  obtain ⟨r, t, ls, cs, h1, h2, h3, h4, h5⟩ := D.at'
  exact n.hh b o (ne_of h h1 (n1 _)) (ne_of h h2 (n2 _)) h
theorem tabs_nd {T : List (Addr × Str)} {d l c : Addr} {H H' : Hp} (t : Tabs T H) (n : Nd d l H H') (D : Drw H d l c) : Tabs T H' := fun p hp => by
  obtain ⟨ps, h1, h2, h3⟩ := t p hp
  refine ⟨ps, n.off D h1 (fun _ z => nomatch z) (fun _ z => nomatch z), h2, fun pos cv hc => ?_⟩
  obtain ⟨c0, e1, e2⟩ := h3 pos cv hc
  exact ⟨c0, e1, n.off D e2 (fun _ z => nomatch z) (fun _ z => nomatch z)⟩
theorem tabs_same {T : List (Addr × Str)} {H H' : Hp} (t : Tabs T H) (s : Same H H') : Tabs T H' := t.ext s
theorem tabs_one {H : Hp} {P : Addr} {q : Str} (h : H P = some (.tbl #[])) : Tabs [(P, q)] H := fun p hp => by
  rw [List.mem_singleton.mp hp]
  exact TabS.nil h
/-! data without lists -/
mutual
def noL : PyData → Bool
  | .list _ => false
  | .dict _ => false
  | .tuple ds => noLA ds
  | _ => true
def noLA : List PyData → Bool
  | [] => true
  | d :: ds => noL d && noLA ds
end
mutual
theorem dp_nd {K : PySem.W.Frag} {d l c : Addr} {H H' : Hp} (n : Nd d l H H') (D : Drw H d l c) : ∀ (x : PyData) {v : V}, noL x = true → Dp K H v x → Dp K H' v x
  | .none, _, _, .non => .non
  | .bool b, _, _, .bl _ => .bl b
  | .int i, _, _, .int _ => .int i
  | .str x, _, _, .str _ => .str x
  | .tuple ds, _, z, .tup hs ha => .tup (n.seqT D hs) (dpa_nd n D ds (by rw [noL] at z; exact z) ha)
theorem dpa_nd {K : PySem.W.Frag} {d l c : Addr} {H H' : Hp} (n : Nd d l H H') (D : Drw H d l c) : ∀ (ds : List PyData) {vs : List V}, noLA ds = true → DpAll K H vs ds → DpAll K H' vs ds
  | [], _, _, .nil => .nil
  | x :: ds, _, z, .cons h t => by
    rw [noLA, Bool.and_eq_true] at z
    exact .cons (dp_nd n D x z.1 h) (dpa_nd n D ds z.2 t)
end
theorem noLA_ints : ∀ ns : List Int, noLA (ns.map .int) = true
  | [] => rfl
  | n :: ns => by rw [List.map_cons, noLA, noLA_ints ns]; rfl
/-! ### lambdas are no codes -/
theorem lam_code {f : Addr} {q q2 : Str} {params : Arguments} {body : Expr} {scope : Scope} {cl : List (Str × Addr)} {c' : Addr} : LamO f q params body scope cl c' ≠ CodeO f q2 := fun z => by
  have e := HO.ext.inj z
  let o := PySem.W.kla_obj "<lambda>" q params body scope cl .none c' .none
  let h0 : Heap := ⟨Array.replicate f default, {}⟩
  have g : (h0.push o).get? f = some o := by
    have := Heap.get?_push_size (o := o) h0 rfl
    have e2 : h0.objs.size = f := Array.size_replicate
    rw [e2] at this
    exact this
  have h1 : LamAt f q params body scope cl c' (h0.push o) := ⟨.none, .none, g⟩
  rw [e] at h1
  obtain ⟨oc, vs, t, g2, d, _⟩ := h1
  rw [g] at g2
  cases g2
  cases d
theorem tabs_del {T : List (Addr × Str)} {H : Hp} {f : Addr} {q : Str} {params : Arguments} {body : Expr} {scope : Scope} {cl : List (Str × Addr)} {c' : Addr} (t : Tabs T H) (hf : H f = some (LamO f q params body scope cl c')) : Tabs T (delH H f) := fun p hp => by
  obtain ⟨ps, h1, h2, h3⟩ := t p hp
  refine ⟨ps, (delH_ne (ne_of h1 hf fun z => nomatch z)).trans h1, h2, fun pos cv hc => ?_⟩
  obtain ⟨c0, e1, e2⟩ := h3 pos cv hc
  refine ⟨c0, e1, (delH_ne fun z => ?_).trans e2⟩
  subst z
  rw [hf] at e2
  exact lam_code (Option.some.inj e2)
theorem code_ne {H : Hp} {f c1 : Addr} {q q2 : Str} {params : Arguments} {body : Expr} {scope : Scope} {cl : List (Str × Addr)} {c' : Addr} (hf : H f = some (LamO f q params body scope cl c')) (hc : H c1 = some (CodeO c1 q2)) : c1 ≠ f := fun z => by
  subst z
  rw [hf] at hc
  exact lam_code (Option.some.inj hc)
theorem same_del {G H : Hp} {f : Addr} (s : Same G H) (g : G f = none) : Same G (delH H f) := fun a o h => (delH_ne (ne_of_none h g)).trans (s a o h)
theorem pick_go {K : PySem.W.Frag} {H : Hp} {d l c p : Addr} {xs : List V} {Q : VK} {E : XK} (D : Drw H d l c) (hp : H p = none) (h0 : 0 < xs.length) (h1 : xs.length < 100) (q : ∀ v H', v ∈ xs → Nd d l H H' → Drw H' d l c → Q v H') : spPick K [.ref d, .ref p] (upd H p (.lst xs)) Q E := by
  obtain ⟨o1, o2, o3⟩ := D.off hp
  have s : Same H (upd H p (.lst xs)) := fun b o e => by rw [upd_ne (ne_of_none e hp)]; exact e
  exact ⟨d, l, c, p, xs, rfl, D.upd o1 o2 o3, o2, SqL.of upd_same, h0, by omega, fun v H' hv n D' => q v H' hv ((Nd.of s).trans n) D'⟩
theorem same_upd {H : Hp} {p : Addr} {o : HO} (hp : H p = none) : Same H (upd H p o) := fun b u e => by rw [upd_ne (ne_of_none e hp)]; exact e
theorem rgV_ints (lo hi : Int) : rgV lo hi = ((List.range (hi - lo).toNat).map fun (i : Nat) => lo + (i : Int)).map V.int := by unfold rgV; rw [List.map_map]; rfl
theorem ro_repT {K : PySem.W.Frag} {ds : List PyData} {k : Int} (hne : ds ≠ []) (h1 : 2 ≤ k) (h2 : k ≤ 1000) (hz : ds.length ≤ 1000) : ROp K (rRepT K) (.tuple ds) (.int k) (.tuple (List.replicate k.toNat ds).flatten) := fun G H s vx vy dx dy Q q => by
  rw [dp_int dy]
  cases dx with
  | @tup a xs _ hs ha =>
    have l1 := dpa_length ha
    refine ⟨a, k, xs, rfl, rfl, same_tup s hs, fun e => hne ?_, h1, h2, by omega, fun p hp => ?_⟩
    · subst e; cases ha; rfl
    · have n := Nx.new (o := .tup (List.replicate k.toNat xs).flatten) s hp
      refine q _ _ _ n (.tup (SqT.of upd_same) ?_)
      have rep : ∀ m : Nat, DpAll K (L2.upd G p (.tup (List.replicate k.toNat xs).flatten)) (List.replicate m xs).flatten (List.replicate m ds).flatten := fun m => by
        induction m with
        | zero => exact .nil
        | succ m ih => rw [List.replicate_succ, List.replicate_succ, List.flatten_cons, List.flatten_cons]; exact dpa_append (dpa_mono n.gg _ ha) ih
      exact rep _
theorem rcl_listT {K : PySem.W.Frag} {ds : List PyData} : RCl K (rListQ K) [.tuple ds] (.list ds) := fun G H s vs hv Q q => by
  cases hv with
  | cons h t =>
    cases t
    cases h with
    | @tup a xs _ hs ha =>
      refine ⟨_, _, rfl, .inr (same_tup s hs), fun l hl => ?_⟩
      have n := Nx.new (o := .lst xs) s hl
      exact q _ _ _ n (.lst (SqL.of upd_same) (dpa_mono n.gg _ ha))
theorem seq_forN {K : PySem.W.Frag} {tl : TE} {g : TG} {tb u : TS} {D : Ends} {σ : L2.St} {G H : Hp} {ds : List PyData} (h : EvN K tl σ G ds) (s : Same G H)
    (k : ∀ p vs G1 H1, Nx G H G1 H1 → H p = none → H1 p = some (.lst vs) → DpAll K G1 vs ds → tFor (iList K (tC (.ref p))) g tb { D with nx := u D } σ H1) : tSeq (tFor (iList K tl) g tb) u D σ H := h H s _ fun p vs G' H' n hp _ e ha => k p vs G' H' n hp e ha
theorem lay_ints (zs : List Int) : ∀ d ∈ zs.map PyData.int, d.canLay0 = true ∧ d.depth ≤ 2 := fun d hd => by
  obtain ⟨z, _, rfl⟩ := List.mem_map.mp hd
  exact ⟨rfl, by simp [PyData.depth]⟩
theorem g1_dp {K : PySem.W.Frag} {G' : Hp} {vs zs : List V} {x : PyData} (h : DpAll K G' vs []) (h' : DpAll K G' zs [x]) : DpAll K G' (g1 vs zs) [x] := by
  cases h
  obtain _ | ⟨a, _ | _⟩ := h'
  exact .cons a .nil
theorem th_noT {K : PySem.W.Frag} {G : Hp} {v : V} {x : PyData} (h : Th K G v x) : Th K (noT G) v x := h.imp (dp_noT x) fun ⟨e, p, e1, e2⟩ => ⟨e, p, e1, noT_of e2 fun _ z => nomatch z⟩
/-- lists of things -/
def ThA (K : PySem.W.Frag) (G : Hp) (vs : List V) (ds : List PyData) : Prop := ∀ (i : Nat) (v : V), vs[i]? = some v → ∃ x, ds[i]? = some x ∧ Th K G v x
def EvT (K : PySem.W.Frag) (ta : TA) (σ : L2.St) (G : Hp) (n : Nat) (ds : List PyData) : Prop := ∀ H, Same G H → ∀ Q : List V → Hp → Prop, (∀ vs G' H', Nx G H G' H' → vs.length = n → ThA K G' vs ds → Q vs H') → ta σ H Q
section
variable {K : PySem.W.Frag} {σ : L2.St} {G : Hp} {te : TE} {tR : TA} {d : PyData} {ds : List PyData} {n : Nat}
theorem ThA.cons {v : V} {vs : List V} (h : Th K G v d) (t : ThA K G vs ds) : ThA K G (v :: vs) (d :: ds) := fun i u e => by
  cases i with
  | zero => cases e; exact ⟨d, rfl, h⟩
  | succ i => exact t i u e
theorem EvT.mono {G1 : Hp} (h : EvT K tR σ G n ds) (g : Same G G1) : EvT K tR σ G1 n ds := fun H s Q q => h H (g.trans s) Q fun vs G' H' m hl ht => by
  obtain ⟨G2, n2, s2⟩ := m.over g s
  exact q vs G2 H' n2 hl fun i v e => by
    obtain ⟨x, e1, e2⟩ := ht i v e
    exact ⟨x, e1, e2.mono s2⟩
theorem et_nil : EvT K tNil σ G 0 [] := fun H s _ q => q [] G H (Nx.refl s) rfl fun i v e => nomatch e
theorem et_cons (h : EvD K te σ G d) (hr : EvT K tR σ G n ds) : EvT K (tCons te tR) σ G (n + 1) (d :: ds) := fun H s Q q =>
  h H s _ fun v G1 H1 n1 hv => (hr.mono n1.gg) H1 n1.gh _ fun vs G2 H2 n2 hl ht => q (v :: vs) G2 H2 (n1.trans n2) (by rw [List.length_cons, hl]) (ThA.cons (.inl (dp_mono n2.gg d hv)) ht)
theorem et_dict (h : ∀ H, Same G H → ∀ Q : VK, (∀ p, H p = none → Q (.ref p) (upd H p (.dK []))) → te σ H Q) (hr : EvT K tR σ G n ds) : EvT K (tCons te tR) σ G (n + 1) (.dict [] :: ds) := fun H s Q q =>
  h H s _ fun p hp => by
    have n1 := Nx.new (o := .dK []) s hp
    exact (hr.mono n1.gg) _ n1.gh _ fun vs G2 H2 n2 hl ht => q (.ref p :: vs) G2 H2 (n1.trans n2) (by rw [List.length_cons, hl]) (ThA.cons (.inr ⟨rfl, p, rfl, n2.gg _ _ upd_same⟩) ht)
theorem seq_forT {tA : TA} {g : TG} {tb u : TS} {D : Ends} {H : Hp} (h : EvT K tA σ G n ds) (s : Same G H) (hz : n ≤ sizeLine)
    (k : ∀ p vs G1 H1, Nx G H G1 H1 → H1 p = some (.lst vs) → ThA K G1 vs ds → tFor (iList K (tC (.ref p))) g tb { D with nx := u D } σ H1) : tSeq (tFor (iList K (tLst tA)) g tb) u D σ H := h H s _ fun vs G' H' m hl ht => ⟨by rw [hl]; exact hz, fun p hp => by
      have n2 := Nx.new (o := .lst vs) m.gh hp
      exact k p vs _ _ (m.trans n2) upd_same fun i v e => by
        obtain ⟨x, e1, e2⟩ := ht i v e
        exact ⟨x, e1, e2.mono n2.gg⟩⟩
end
theorem for_goT {K : PySem.W.Frag} {σ : L2.St} {G : Hp} {ds : List PyData} {n : Nat} {tA : TA} {g : TG} {tb : TS} {D : Ends} {H : Hp} (h : EvT K tA σ G n ds) (s : Same G H) (hz : n ≤ sizeLine)
    (k : ∀ p vs G1 H1, Nx G H G1 H1 → H1 p = some (.lst vs) → ThA K G1 vs ds → tFor (iList K (tC (.ref p))) g tb D σ H1) : tFor (iList K (tLst tA)) g tb D σ H := h H s _ fun vs G' H' m hl ht => ⟨by rw [hl]; exact hz, fun p hp => by
      have n2 := Nx.new (o := .lst vs) m.gh hp
      exact k p vs _ _ (m.trans n2) upd_same fun i v e => by
        obtain ⟨x, e1, e2⟩ := ht i v e
        exact ⟨x, e1, e2.mono n2.gg⟩⟩
theorem nx_of {D : Ends} {σ : L2.St} {H : Hp} (h : D.nx σ H) : tNext D σ H := h
/-! ### the law's judges -/
section
variable {K : PySem.W.Frag} {σ : L2.St} {G H : Hp} {ta tb : TE}
theorem isc_yes {D a : Addr} {Q : VK} (T : ExcC K D) (hk : PySem.W.kitOne K (.ref D) (.ref D) = some true) (ha : H a = some (ErrO (.ref D) none a)) (q : Q (.bl true) H) : rIsC K [.ref a, .ref D] H Q := .inr ⟨a, D, D, true, rfl, ha, T, hk, q⟩
end
end Gw
namespace Gw
open PySem PySem.Spec PyProof.Rows L2
/-! ### repr of two things, dicts among them -/
/-- a new list, of which it is known that it is not the table of modules -/
def LsN (vs : List V) (p : Addr) : HO := .ext fun h => p ≠ sysModules ∧ ∃ (its : List Value) (n : Nat), Vals vs its ∧ h.get? p = some { cls := .type "list", data := .seq its.toArray n }
def tLstN (t : TA) : TE := fun σ H Q => t σ H fun xs H1 => xs.length ≤ sizeLine ∧ ∀ p, H1 p = none → Q (.ref p) (upd H1 p (LsN xs p))
theorem pe_lstN {X : Cx} {es : List Expr} {t : TA} {pos : Pos} (h : PA X es t) : PE X (.List es pos) (tLstN t) := by
  refine ⟨fun pins s σ H Q I hq => ?_⟩
  refine wpAny_List_spliced (thn (h.run pos pins s σ H _ I hq) fun us s1 ⟨xs, H1, I1, r, z, q⟩ => ⟨by rw [← r.length]; exact z, ?_⟩)
  have hf : H1 s1.heap.objs.size = none := I1.hok.fresh (Nat.le_refl _)
  have hg : (s1.heap.push { cls := .type "list", data := .seq us.toArray 0 }).get? s1.heap.objs.size = some { cls := .type "list", data := .seq us.toArray 0 } := Heap.get?_push_size _ rfl
  refine ⟨.ref s1.heap.objs.size, upd H1 s1.heap.objs.size (LsN xs s1.heap.objs.size), I1.laid (t' := s1.toks) (fun b u e => Heap.get?_push_of_some _ e) (Nat.le_refl _) ?_, rfl, q _ hf⟩
  exact ⟨⟨Ne.symm (Nat.ne_of_lt I1.big), us, 0, r, hg⟩, ⟨_, hg⟩, fun h1 h2 ⟨ne, its, n, rv, g⟩ k => ⟨ne, its, n, rv, k _ g⟩⟩
def kyD : Key → PyData | .inl i => .int i | .inr x => .str x
def KvD (K : PySem.W.Frag) (H : Hp) : List (Key × V) → List (PyData × PyData) → Prop
  | [], [] => True
  | (k, v) :: r, (a, d) :: t => a = kyD k ∧ Dp K H v d ∧ noL d = true ∧ KvD K H r t
  | _, _ => False
/-- data, or a dict of data without lists -/
def RdD (K : PySem.W.Frag) (H : Hp) (v : V) (d : PyData) : Prop := (Dp K H v d ∧ d.hasDict = false) ∨ ∃ (a : Addr) (kvs : List (Key × V)) (D : List (PyData × PyData)), v = .ref a ∧ H a = some (.dK kvs) ∧ d = .dict D ∧ KvD K H kvs D
theorem kvD_mono {K : PySem.W.Frag} {G G' : Hp} (s : Same G G') : ∀ {kvs : List (Key × V)} {D : List (PyData × PyData)}, KvD K G kvs D → KvD K G' kvs D
  | [], [], h => h
  | (_, _) :: _, (_, _) :: _, ⟨h1, h2, h3, h4⟩ => ⟨h1, dp_mono s _ h2, h3, kvD_mono s h4⟩
  | [], _ :: _, h => h
  | _ :: _, [], h => h
theorem RdD.mono {K : PySem.W.Frag} {G G' : Hp} {v : V} {d : PyData} (h : RdD K G v d) (s : Same G G') : RdD K G' v d := h.imp (fun h => ⟨dp_mono s _ h.1, h.2⟩) fun ⟨a, kvs, D, e1, e2, e3, e4⟩ => ⟨a, kvs, D, e1, s _ _ e2, e3, kvD_mono s e4⟩
mutual
theorem noL_addrs {h : Heap} : ∀ {d : PyData} {v : Value} {as : List Addr}, noL d = true → Reads h v d as → as = []
  | .none, _, _, _, .none => rfl
  | .bool _, _, _, _, .bool _ => rfl
  | .int _, _, _, _, .int _ _ => rfl
  | .str _, _, _, _, .str _ _ => rfl
  | .tuple ds, _, _, z, .tuple _ _ _ r => noLA_addrs (by rw [noL] at z; exact z) r
  | .list _, _, _, z, _ => by rw [noL] at z; cases z
  | .dict _, _, _, z, _ => by rw [noL] at z; cases z
theorem noLA_addrs {h : Heap} : ∀ {ds : List PyData} {vs : List Value} {as : List Addr}, noLA ds = true → ReadsAll h vs ds as → as = []
  | [], _, _, _, .nil => rfl
  | d :: ds, _, _, z, .cons a t => by
    rw [noLA, Bool.and_eq_true] at z
    rw [noL_addrs z.1 a, noLA_addrs z.2 t]
    rfl
end
section
variable {X : Cx} {pins : List (Addr × Obj)} {σ : L2.St} {H : Hp} {s : Shared}
theorem kvD_reads (I : Inv X pins σ H s) : ∀ {kvs : List (Key × V)} {D : List (PyData × PyData)} {vs : List (Key × Value)}, KvD X.K H kvs D → KV kvs vs → PyProof.V.PairsRead s.heap kyD vs D []
  | [], [], _, _, .nil => .nil
  | (k, v) :: r, (a, d) :: t, (k', u) :: vs, ⟨h1, h2, h3, h4⟩, .cons e rest => by
    obtain ⟨e1, e2⟩ := e
    have e1 : k = k' := e1
    subst h1 e1
    obtain ⟨as, q⟩ := Dp.reads I d v u h2 e2
    have z := noL_addrs h3 q
    subst z
    exact .cons (as := []) q (kvD_reads I h4 rest)
theorem kyD_reads {h : Heap} {P : Program} {w : World} (k : Key) (key : Value) (hk : (mixKind P w).is k key = true) : Reads h key (kyD k) [] := by
  rcases keyIs_shape hk with ⟨i, t, rfl, rfl⟩ | ⟨x, t, rfl, rfl⟩
  · exact .int i t
  · exact .str x t
theorem RdD.reads (I : Inv X pins σ H s) {v : V} {d : PyData} {u : Value} (h : RdD X.K H v d) (r : RelV v u) : ∃ as, Reads s.heap u d as ∧ (d.hasDict = true → sysModules ∉ as) := by
  rcases h with ⟨h, nd⟩ | ⟨a, kvs, D, rfl, ha, rfl, hk⟩
  · obtain ⟨as, q⟩ := Dp.reads I d v u h r
    exact ⟨as, q, fun z => by rw [nd] at z; cases z⟩
  · cases r
    obtain ⟨_, ne, vs, hv, hd⟩ := I.hok a _ ha
    refine ⟨[a], PyProof.V.reads_dictOf kyD_reads hd (kvD_reads I hk hv), fun _ z => ?_⟩
    rw [List.mem_singleton] at z
    rw [← z] at ne
    simp at ne
end
def rRepr2 (K : PySem.W.Frag) : List V → Hp → VK → Prop := fun xs H Q => ∃ (p : Addr) (v w : V) (d : PyData), xs = [.ref p] ∧ H p = some (LsN [v, w] p) ∧ RdD K H v d ∧ RdD K H w d ∧ (PyData.list [d, d]).showable = true ∧ (PyData.list [d, d]).shown.length ≤ sizeLine ∧ (PyData.list [d, d]).depth ≤ 60 ∧ Q (.str (PyData.list [d, d]).shown) H
theorem cr_repr2 {X : Cx} (hG : X.A.guards = some []) (hu : X.A.units + 64 < cLine) : CallR X (.builtin "repr") (rRepr2 X.K) := by
  intro pn s τ H xs us Q I r hyp
  obtain ⟨p, v, w, d, rfl, hp, h1, h2, hs, hz, hd, q⟩ := hyp
  obtain ⟨u, rfl, rv⟩ : ∃ u, us = [u] ∧ RelV (.ref p) u := by obtain _ | ⟨r1, _ | _⟩ := r; exact ⟨_, rfl, r1⟩
  cases rv
  obtain ⟨⟨ne, its, n, rit, hget⟩, _, _⟩ := I.hok p _ hp
  obtain _ | ⟨r1, _ | ⟨r2, _ | _⟩⟩ := rit
  obtain ⟨as1, q1, z1⟩ := h1.reads I r1
  obtain ⟨as2, q2, z2⟩ := h2.reads I r2
  have rd : Reads s.heap (.ref p) (.list [d, d]) (p :: (as1 ++ (as2 ++ []))) := Reads.list hget rfl rfl (.cons q1 (.cons q2 .nil))
  refine PySem.repr_of_reads' rd hs (fun e z => ?_) hG (by omega) (fun _ _ e => e) (fun h' t tk k => ⟨.str _, H, I.kept (t' := tk) k, ⟨_, rfl⟩, q⟩) hz
  have e' : d.hasDict = true := by
    simp only [PyData.hasDict, PyData.hasDictAll] at e
    simpa using e
  rcases List.mem_cons.mp z with z | z
  · exact ne z.symm
  · rcases List.mem_append.mp z with z | z
    · exact z1 e' z
    · rcases List.mem_append.mp z with z | z
      · exact z2 e' z
      · cases z
theorem q_repr2 {X : Cx} (K : PySem.W.Frag) (e : X.K = K) (hG : X.A.guards = some []) (hu : X.A.units + 64 < cLine) : CallR X (.builtin "repr") (rRepr2 K) := by subst e; exact cr_repr2 hG hu
end Gw
namespace Gw
open PySem PySem.Spec PyProof.Rows L2
/-! ### == and != of objects with their own __eq__ -/
section
open PySem.W
variable {prog : Program} {w : World} {A : Around} {E : Value → Shared → Prop} {s : Shared} {K : PySem.W.Frag} {x C L f : Addr} {h₀ : Heap} {m : Str → Option Value} {ox : Obj} {od : Option Obj} {b tb : Value}
theorem ne_own (hu : A.units + 1 < cLine) (X : K.In s.heap) (I : InstAt s.heap x ox C od) (hb : Looks (model prog w) s.heap (typeOf b) tb) (hn : notFirst K C tb = true)
    (hne : findIn K (.ref C) "__ne__" = some (some (.builtin "object.__ne__"))) (hob : mroIn K C (.type "object") = some true) (hs : findIn K (.ref C) "__eq__" = some (some (.ref f))) (hf : isFn K (.ref f) = true) {Q : Value → Shared → Prop}
    (h : wpAny (model prog w) A.in1 (call (.ref f) [.ref x, b]) (fun v s' => ∃ r, v = .bool r ∧ Q (.bool (!r)) s') E s) : wpAny (model prog w) A (richCompare .NotEq (.ref x) b) Q E s := by
  have FB := F.cmp_object
  have body : wpAny (model prog w) A (call (.builtin "object.__ne__") [.ref x, b]) (fun v s' => ∃ r, v = .bool r ∧ Q v s') E s := by
    refine wpAny_call (codeAny_call_builtin FB.ne.plain F.cmpEntry_ne (check_slot F.cmpKind_ne F.cmpSplit_ne (I.type.andThen (looks_mroIn X hob)) (F.cmpArgs_ne _ _) ?_))
    unfold Builtin.«object.__ne__»
    refine wpAny_bind (wpAny_of_eq (a := ((Value.ref x : Value), [b])) (by first | rfl | (simp only [slotArgs]; rfl)) ?_)
    refine wpAny_bind (wpAny_cRoomFor hu ?_)
    refine wpAny_bind (ifBound_K X I hs hf (wpAny_mono h (fun v s' hv => ?_) fun _ _ e => e))
    obtain ⟨r, rfl, q⟩ := hv
    refine wpAny_bind (wpAny_truthy_bool ?_)
    exact wpAny_pure ⟨_, rfl, q⟩
  have one : wpAny (model prog w) A (tryCompare (.ref x) "__ne__" b) (fun r s' => ∃ v, r = some v ∧ Q v s') E s := by
    unfold tryCompare
    simp only [callSpecialIfBound?, bindSpecialIfBound?]
    refine wpAny_bind (wpAny_holding (wpAny_bind (wpAny_bind (wpAny_bind (I.type.here ((looks_findIn X hne).here ?_))))))
    simp only [FB.ne.bind]
    have fin : wpAny (model prog w) A (call (.builtin "object.__ne__") ([.ref x] ++ [b]) >>= fun v => pure (some v)) (fun r s' => ∃ v u, r = some v ∧ v = .bool u ∧ Q v s') E s := wpAny_bind (wpAny_mono body (fun v s' ⟨u, e, h'⟩ => wpAny_pure ⟨v, u, rfl, e, h'⟩) fun _ _ h' => h')
    refine wpAny_bind (wpAny_askSetting (wpAny_ite ?_))
    have done : ∀ (r : Option Value) (s' : Shared), (∃ v u, r = some v ∧ v = Value.bool u ∧ Q v s') → ∃ v u, r = some v ∧ v = Value.bool u ∧ Q v s' := fun _ _ h => h
    split
    · refine wpAny_bind (wpAny_pure (wpAny_pure (wpAny_mono fin (fun r s' h' => ?_) fun _ _ h' => h')))
      obtain ⟨v, u, rfl, rfl, q⟩ := h'
      exact wpAny_pure ⟨_, rfl, q⟩
    · refine wpAny_tryCatch (wpAny_bind (wpAny_pure (wpAny_pure (wpAny_mono fin (fun r s' h' => ?_) fun _ _ h' => h'))))
      obtain ⟨v, u, rfl, rfl, q⟩ := h'
      exact wpAny_pure ⟨_, rfl, q⟩
  unfold richCompare
  simp only [oneThing_ref]
  refine wpAny_holding (wpAny_bind (wpAny_cRoomFor (Nat.lt_of_succ_lt hu) ?_))
  refine wpAny_bind (I.type.here (wpAny_bind (hb.here ?_)))
  split
  · rename_i q
    have e : subIn K tb (.ref C) = some false := by
      rcases Bool.or_eq_true_iff.mp hn with e | e
      · rw [beq_iff_eq.mp e] at q; simp at q
      · exact beq_iff_eq.mp e
    refine wpAny_bind ((looks_subIn X e).here ?_)
    simp only [Bool.false_eq_true, if_false]
    refine wpAny_bind (wpAny_mono one (fun r s' z => ?_) fun _ _ e => e)
    obtain ⟨v, rfl, hq⟩ := z
    exact wpAny_pure hq
  · refine wpAny_bind (wpAny_pure ?_)
    simp only [Bool.false_eq_true, if_false]
    refine wpAny_bind (wpAny_mono one (fun r s' z => ?_) fun _ _ e => e)
    obtain ⟨v, rfl, hq⟩ := z
    exact wpAny_pure hq
end
/-! the readings -/
/-- x == y by x's own __eq__, which keeps sp -/
def rOwnEq (K : PySem.W.Frag) (C : Addr) (sp : Sp) (E : XK) (g : Bool → Bool) : R2 := fun x y H Q => ∃ a dx fs t, x = .ref a ∧ H a = some (.ins C dx fs) ∧ TyX K H y t ∧ PySem.W.notFirst K C t = true ∧ sp [x, y] H (fun v H' => ∃ b, v = .bl b ∧ Q (.bl (g b)) H') E
structure OwnE (K : PySem.W.Frag) (C f : Addr) : Prop where
  eq : PySem.W.findIn K (.ref C) "__eq__" = some (some (.ref f))
  ne : PySem.W.findIn K (.ref C) "__ne__" = some (some (.builtin "object.__ne__"))
  ob : PySem.W.mroIn K C (.type "object") = some true
  fn : PySem.W.isFn K (.ref f) = true
section
variable {X : Cx} {CX : CXT} {C f : Addr} {fd : FuncData} {n : Nat} {sp : Sp} {E : XK} {x y : Str}
theorem run_ownEq {A : Around} (O : OwnE X.K C f) (F : FnOk X.prog X.w X.K X.mg X.base CX n f fd [x, y] sp) (hb : Binds X.K fd [x, y] []) (hx : Passes CX X E) (hr : Room n A) (hfr : A.frames = X.A.frames) {pins : List (Addr × Obj)} {s : Shared} {σ : L2.St} {H : Hp} {a : Addr} {z : V} {v : Value} {g : Bool → Bool} {Q : VK}
    (I : Inv X pins σ H s) (rz : RelV z v) (h : sp [.ref a, z] H (fun v H' => ∃ b, v = .bl b ∧ Q (.bl (g b)) H') E) :
    wpAny (model X.prog X.w) A (call (.ref f) [.ref a, v]) (fun u s' => ∃ b, u = .bool b ∧ EP X pins σ Q (.bool (g b)) s') X.xe s := by
  have e0 : Env0 X.prog X.w X.K X.mg X.base A X.stack s H := by
    have e := I.env0
    exact ⟨by rw [hfr]; exact e.frames, e.mod, e.bs, e.bsz, e.funs, e.frf, e.hok, e.bare⟩
  have r2 : Vals [V.ref a, z] [Value.ref a, v] := .cons rfl (.cons rz .nil)
  refine wpAny_call (codeAny_mono (F.run A X.stack s H ⟨[.ref a, v], []⟩ [.ref a, v] [.ref a, z] _ E hr e0 (by
    have := hb s [.ref a, v] I.kIn (by rfl)
    simpa using this) r2 h) fun r s' hq => ?_)
  cases r with
  | error e => exact hx pins σ H s e s' I hq
  | ok fl =>
    cases fl with
    | ret w =>
      obtain ⟨u, H', I', rw, b, eb, q⟩ := I.after hq
      subst eb
      cases rw
      exact ⟨b, rfl, .bl (g b), H', I', rfl, q⟩
    | next => exact False.elim hq
    | brk => exact False.elim hq
    | cont => exact False.elim hq
theorem op_ownEq (O : OwnE X.K C f) (F : FnOk X.prog X.w X.K X.mg X.base CX n f fd [x, y] sp) (hb : Binds X.K fd [x, y] []) (hx : Passes CX X E) (hr : Room n X.A) : OpR X (compareOp .Eq) (rOwnEq X.K C sp E fun b => b) := by
  intro pins s σ H p z v u Q I rp rz hq
  obtain ⟨a, dx, fs, t, rfl, ha, ty, nf, h⟩ := hq
  cases rp
  show wpAny (model X.prog X.w) X.A (richCompare .Eq (.ref a) u) (EP X pins σ Q) X.xe s
  obtain ⟨mA, J, _⟩ := ins_get I.hok ha
  obtain ⟨od, J, _⟩ := J.look
  obtain ⟨m, hF⟩ := I.fr
  obtain ⟨P, Z, p, _⟩ := kit_of I rz ty
  refine PySem.W.cmp_K (op := .Eq) (tb := t) hr.units0 hF I.ok.mod.kin J (Z.ty _ _ I.kIn p) nf O.eq O.fn ?_
  refine wpAny_mono (run_ownEq O F hb hx hr rfl I rz h) (fun v s' hv => ?_) fun _ _ e => e
  obtain ⟨b, rfl, q⟩ := hv
  exact q
theorem op_ownNe (O : OwnE X.K C f) (F : FnOk X.prog X.w X.K X.mg X.base CX n f fd [x, y] sp) (hb : Binds X.K fd [x, y] []) (hx : Passes CX X E) (hr : Room (n + 1) X.A) : OpR X (compareOp .NotEq) (rOwnEq X.K C sp E fun b => !b) := by
  intro pins s σ H p z v u Q I rp rz hq
  obtain ⟨a, dx, fs, t, rfl, ha, ty, nf, h⟩ := hq
  cases rp
  show wpAny (model X.prog X.w) X.A (richCompare .NotEq (.ref a) u) (EP X pins σ Q) X.xe s
  obtain ⟨mA, J, _⟩ := ins_get I.hok ha
  obtain ⟨od, J, _⟩ := J.look
  obtain ⟨P, Z, p, _⟩ := kit_of I rz ty
  exact ne_own (by have := hr.un; omega) I.kIn J (Z.ty _ _ I.kIn p) nf O.ne O.ob O.eq O.fn (run_ownEq O F hb hx hr.in1 rfl I rz h)
end
end Gw
namespace Gw
open PySem PySem.Spec PyProof.Rows L2
/-! ### a list or a tuple, walked -/
def iE (K : PySem.W.Frag) (tl : TE) : TI := fun σ H R => iList K tl σ H R ∨ iTup K tl σ H R
theorem q_iE (K : PySem.W.Frag) {X : Cx} {tg l : Expr} {tl : TE} (e : X.K = K) (h : PE X l tl) : PI X tg l (iE K tl) := by
  subst e
  exact ⟨fun pins s σ H R I q => q.elim (fun q => (pi_list h).run pins s σ H R I q) fun q => (pi_tup h).run pins s σ H R I q⟩
theorem q_isiT (K : PySem.W.Frag) {X : Cx} (e : X.K = K) : CallR X (.builtin "isinstance") (rIsiT K) := by subst e; exact call_isiT
/-- a block whose first statement never ends as it would -/
theorem pss_dead {X : Cx} {st : Stmt} {rest : List Stmt} {t : TS} (h : PS X st t) : PSs X (st :: rest) (fun D σ H => t { D with nx := fun _ _ => False } σ H) := by
  refine ⟨fun pins s σ H D I q => wpAny_execs_cons (wpAny_mono (h.run pins s σ H _ I q) (fun f s1 sp => ?_) fun _ _ z => z)⟩
  cases f with
  | next => obtain ⟨_, _, _, z⟩ := sp; exact False.elim z
  | brk => exact sp
  | cont => exact sp
  | ret u => exact sp
section
variable {K : PySem.W.Frag} {σ : L2.St} {G : Hp} {tl te : TE} {g : TG} {tt : TT} {vs : List Nat} {ds : List PyData}
theorem en_iL (h : EvN K (tLc (iList K tl) g tt te vs) σ G ds) : EvN K (tLc (iE K tl) g tt te vs) σ G ds := fun H s Q q => .inl (h H s Q q)
theorem en_iT (h : EvN K (tLc (iTup K tl) g tt te vs) σ G ds) : EvN K (tLc (iE K tl) g tt te vs) σ G ds := fun H s Q q => .inr (h H s Q q)
end
/-! ### kinds -/
def isLst : PyData → Bool | .list _ => true | _ => false
def isLT : PyData → Bool | .list _ => true | .tuple _ => true | _ => false
theorem kit_lst : ∀ x : PyData, kitB (tyOf x) "list" = some (isLst x)
  | .none => (by decide +kernel : kitB "NoneType" "list" = some false)
  | .bool _ => (by decide +kernel : kitB "bool" "list" = some false)
  | .int _ => (by decide +kernel : kitB "int" "list" = some false)
  | .str _ => (by decide +kernel : kitB "str" "list" = some false)
  | .list _ => (by decide +kernel : kitB "list" "list" = some true)
  | .tuple _ => (by decide +kernel : kitB "tuple" "list" = some false)
  | .dict _ => (by decide +kernel : kitB "dict" "list" = some false)
theorem kit_lt {K : PySem.W.Frag} (x : PyData) : PySem.W.kitAny K (.type (tyOf x)) [.type "list", .type "tuple"] = some (isLT x) := by
  refine kitAny_cons (b := isLst x) (kit_ty (kit_lst x)) (fun h => ?_) (fun h => ?_)
  · refine kitAny_cons (b := isTupK x) (kit_ty (kit_tup x)) (fun h2 => ?_) (fun h2 => ?_)
    · cases x <;> first | rfl | (exact absurd h2 (by decide)) | (exact absurd h (by decide)) | (cases h2; done) | (cases h; done)
    · cases x <;> first | rfl | cases h2
  · cases x <;> first | rfl | cases h
section
variable {K : PySem.W.Frag} {σ : L2.St} {G : Hp} {i : Nat} {v : V} {x : PyData}
theorem ed_isiLT (h : σ[i]? = some (some v)) (hv : Th K G v x) : EvD K (tCB (rIsiT K) (tCons (tVar i) (tCons (tTup (tCons (tC (.ty "list")) (tCons (tC (.ty "tuple")) tNil))) tNil))) σ G (.bool (isLT x)) := fun H s Q q => by
  refine ⟨v, h, by show 2 ≤ sizeLine; decide, fun tp htp => ?_⟩
  have n := Nx.lay (o := .tup [.ty "list", .ty "tuple"]) s htp
  exact ⟨v, tp, [.ty "list", .ty "tuple"], .type (tyOf x), [.type "list", .type "tuple"], _, rfl, upd_same, .cons (.ty "list") (.cons (.ty "tuple") .nil), hv.ty n.gh, kit_lt x, q _ _ _ n (.bl _)⟩
end
/-- isinstance of an own class: not for what is of a built-in kind -/
theorem kit_own {K : PySem.W.Frag} {C : Addr} {T : String} (hc : (PySem.W.clsIn K C).isSome = true) (ht : PySem.W.typeIn K (.ref C) = some (.type "type")) (hs : PySem.W.subIn K (.type T) (.ref C) = some false) : PySem.W.kitOne K (.type T) (.ref C) = some false := by
  have e1 : (Value.type T == Value.ref C) = false := by
    rw [beq_eq_false_iff_ne]; exact fun z => nomatch z
  have e2 : ((PySem.W.clsIn K C).isSome && PySem.W.typeIn K (.ref C) == some (.type "type")) = true := by rw [hc, ht] <;> rfl
  show (if (Value.type T == Value.ref C) = true then some true else if ((PySem.W.clsIn K C).isSome && PySem.W.typeIn K (.ref C) == some (.type "type")) = true then PySem.W.subIn K (.type T) (.ref C) else none) = some false
  rw [e1, if_neg Bool.false_ne_true, if_pos e2]
  exact hs
/-- what the top has written of an own class without bases -/
structure OwnC (K : PySem.W.Frag) (C : Addr) : Prop where
  cl : Cls K C
  ci : (PySem.W.clsIn K C).isSome = true
  ty : PySem.W.typeIn K (.ref C) = some (.type "type")
  ha : PySem.W.findIn K (.ref C) "__class__" = some (some (.builtin "object.__class__"))
  hn : PySem.W.specialIn K (.builtin "object.__class__") "__get__" = some (some (.builtin "getset_descriptor.__get__"))
  ht : PySem.W.takesIn K (.builtin "object.__class__") = some true
  hm : PySem.W.mroIn K C (.type "object") = some true
  no : PySem.W.subIn K (.type "NoneType") (.ref C) = some false
  bo : PySem.W.subIn K (.type "bool") (.ref C) = some false
  int : PySem.W.subIn K (.type "int") (.ref C) = some false
  st : PySem.W.subIn K (.type "str") (.ref C) = some false
  li : PySem.W.subIn K (.type "list") (.ref C) = some false
  tu : PySem.W.subIn K (.type "tuple") (.ref C) = some false
  di : PySem.W.subIn K (.type "dict") (.ref C) = some false
theorem OwnC.sub {K : PySem.W.Frag} {C : Addr} (O : OwnC K C) : ∀ x : PyData, PySem.W.subIn K (.type (tyOf x)) (.ref C) = some false
  | .none => O.no
  | .bool _ => O.bo
  | .int _ => O.int
  | .str _ => O.st
  | .list _ => O.li
  | .tuple _ => O.tu
  | .dict _ => O.di
theorem OwnC.kit {K : PySem.W.Frag} {C : Addr} (O : OwnC K C) (x : PyData) : PySem.W.kitOne K (.type (tyOf x)) (.ref C) = some false := kit_own O.ci O.ty (O.sub x)
theorem OwnC.nf {K : PySem.W.Frag} {C : Addr} (O : OwnC K C) (x : PyData) : PySem.W.notFirst K C (.type (tyOf x)) = true := by
  show (_ || PySem.W.subIn K (.type (tyOf x)) (.ref C) == some false) = true
  rw [O.sub x]; simp
theorem OwnC.me {K : PySem.W.Frag} {C : Addr} (O : OwnC K C) : PySem.W.kitOne K (.ref C) (.ref C) = some true := if_pos (beq_self_eq_true _)
theorem OwnC.tyx {K : PySem.W.Frag} {C a dx : Addr} {H : Hp} {fs : List (Str × V)} (O : OwnC K C) (h : H a = some (.ins C dx fs)) : TyX K H (.ref a) (.ref C) := .base (.ins h O.cl O.ha O.hn O.ht O.hm)
section
variable {K : PySem.W.Frag} {σ : L2.St} {G H : Hp} {tt : TT} {t u : TS} {D : Ends} {te : TE} {d : PyData}
theorem seq_ifB {b : Bool} (h : EvB K tt σ G b) (s : Same G H) (k1 : b = true → ∀ G1 H1, Nx G H G1 H1 → t { D with nx := u D } σ H1) (k0 : b = false → ∀ G1 H1, Nx G H G1 H1 → u D σ H1) : tSeq (tIfS tt t tNext) u D σ H := h H s _ fun G1 H1 n => by
  cases b with
  | true => exact if_on rfl (k1 rfl G1 H1 n)
  | false => exact if_off rfl (k0 rfl G1 H1 n)
theorem ed_isiC {i : Nat} {v : V} {ty : Value} {b : Bool} {C : Addr} (h : σ[i]? = some (some v)) (hty : ∀ H, Same G H → TyX K H v ty) (hk : PySem.W.kitOne K ty (.ref C) = some b) : EvD K (tCB (rIsi K) (tCons (tVar i) (tCons (tC (.ref C)) tNil))) σ G (.bool b) := fun H s Q q =>
  ⟨v, h, v, .ref C, ty, .ref C, b, rfl, .own C, hty H s, hk, q _ G H (Nx.refl s) (.bl b)⟩
theorem ed_fld {i : Nat} {g C dx : Addr} {fs : List (Str × V)} {f : Str} {v : V} (h : σ[i]? = some (some (.ref g))) (hg : G g = some (.ins C dx fs)) (cl : Cls K C) (na : NoAttr K C f) (hf : fs.lookup f = some v) (hd : Dp K G v d) : EvD K (tFld K (tVar i) f) σ G d := fun H s Q q =>
  ⟨_, h, g, C, dx, fs, v, rfl, s _ _ hg, cl, na, hf, q v G H (Nx.refl s) hd⟩
end
end Gw
namespace Gw
open PySem PySem.Spec PyProof.Rows L2
/-! ### [.. for a, b, c in ..], things turned around -/
section
variable {K : PySem.W.Frag} {σ : L2.St} {G : Hp} {tl te : TE} {ds : List PyData}
theorem en_lcT3 {i j k : Nat} {vs : List Nat} (f : PyData → PyData) (h : EvD K tl σ G (.tuple ds)) (hw : ∀ v1 v2 v3, wipe ((((wipe σ vs).set i (some v1)).set j (some v2)).set k (some v3)) vs = wipe σ vs) (hz : ds.length ≤ sizeLine) (h3 : ∀ d ∈ ds, ∃ x y z, d = .tuple [x, y, z])
    (he : ∀ x y z v1 v2 v3 Gi, PyData.tuple [x, y, z] ∈ ds → Same G Gi → Dp K Gi v1 x → Dp K Gi v2 y → Dp K Gi v3 z → EvD K te ((((wipe σ vs).set i (some v1)).set j (some v2)).set k (some v3)) Gi (f (.tuple [x, y, z]))) :
    EvN K (tLc (iTup K tl) (gTup K 3 (gCons (gName i) (gCons (gName j) (gCons (gName k) gNil)))) tYes te vs) σ G (ds.map f) := fun H s Q q =>
  h H s _ fun v G1 H1 n1 hv => by
    cases hv with
    | @tup a xs _ hs ha =>
      refine ⟨a, rfl, ⟨xs, same_tup n1.gh hs⟩, fun D hD => ?_⟩
      refine lc_tup (K := K) (a := a) (xs := xs) (fun k Hc => LcI K G1 H1 D ((ds.take k).map f) Hc) (LcI.start n1.gh hD) (fun k Hc _ p => ?_) (fun kk x Hc hk p => ?_) fun Hc p => ?_
      · obtain ⟨Gi, acc, n, _⟩ := p.ex
        exact same_tup (n1.gh.trans n.hh) hs
      · obtain ⟨dk, hdk, hdx⟩ := dpa_get ha hk
        have hm : dk ∈ ds := List.mem_of_getElem? hdk
        obtain ⟨x1, x2, x3, rfl⟩ := h3 dk hm
        cases hdx with
        | @tup b ys _ hy hya =>
          obtain _ | ⟨d1, _ | ⟨d2, _ | ⟨d3, _ | _⟩⟩⟩ := hya
          obtain ⟨Gi0, acc0, n0, _⟩ := id p.ex
          refine ⟨b, _, rfl, same_tup (n1.gh.trans n0.hh) hy, rfl, _, _, rfl, _, _, rfl, _, _, rfl, rfl, hw _ _ _, ?_⟩
          refine LcI.turn (b := true) (e := f (.tuple [x1, x2, x3])) hD p ?_ (fun Gi g => eb_yes) (fun _ Gi g => he x1 x2 x3 _ _ _ Gi hm (n1.gg.trans g) (dp_mono g _ d1) (dp_mono g _ d2) (dp_mono g _ d3)) fun H' p' => ?_
          · have := (List.getElem?_eq_some_iff.mp hdk).1
            rw [List.length_map, List.length_take]; omega
          · rw [List.take_succ, hdk, List.map_append]
            exact p'
      · rw [dpa_length ha, List.take_length] at p
        exact p.finN n1 hD q
theorem en_lcL3 {i j k : Nat} {vs : List Nat} (f : PyData → PyData) (h : EvD K tl σ G (.list ds)) (hw : ∀ v1 v2 v3, wipe ((((wipe σ vs).set i (some v1)).set j (some v2)).set k (some v3)) vs = wipe σ vs) (hz : ds.length ≤ sizeLine) (h3 : ∀ d ∈ ds, ∃ x y z, d = .tuple [x, y, z])
    (he : ∀ x y z v1 v2 v3 Gi, PyData.tuple [x, y, z] ∈ ds → Same G Gi → Dp K Gi v1 x → Dp K Gi v2 y → Dp K Gi v3 z → EvD K te ((((wipe σ vs).set i (some v1)).set j (some v2)).set k (some v3)) Gi (f (.tuple [x, y, z]))) :
    EvN K (tLc (iList K tl) (gTup K 3 (gCons (gName i) (gCons (gName j) (gCons (gName k) gNil)))) tYes te vs) σ G (ds.map f) := fun H s Q q =>
  h H s _ fun v G1 H1 n1 hv => by
    cases hv with
    | @lst a xs _ hs ha =>
      refine ⟨a, rfl, ⟨xs, n1.gh.seq hs⟩, fun D hD => ?_⟩
      refine lc_list (K := K) (a := a) (xs := xs) (fun k Hc => LcI K G1 H1 D ((ds.take k).map f) Hc) (LcI.start n1.gh hD) (fun k Hc _ p => ?_) (fun kk x Hc hk p => ?_) fun Hc p => ?_
      · obtain ⟨Gi, acc, n, _⟩ := p.ex
        exact (n1.gh.trans n.hh).seq hs
      · obtain ⟨dk, hdk, hdx⟩ := dpa_get ha hk
        have hm : dk ∈ ds := List.mem_of_getElem? hdk
        obtain ⟨x1, x2, x3, rfl⟩ := h3 dk hm
        cases hdx with
        | @tup b ys _ hy hya =>
          obtain _ | ⟨d1, _ | ⟨d2, _ | ⟨d3, _ | _⟩⟩⟩ := hya
          obtain ⟨Gi0, acc0, n0, _⟩ := id p.ex
          refine ⟨b, _, rfl, same_tup (n1.gh.trans n0.hh) hy, rfl, _, _, rfl, _, _, rfl, _, _, rfl, rfl, hw _ _ _, ?_⟩
          refine LcI.turn (b := true) (e := f (.tuple [x1, x2, x3])) hD p ?_ (fun Gi g => eb_yes) (fun _ Gi g => he x1 x2 x3 _ _ _ Gi hm (n1.gg.trans g) (dp_mono g _ d1) (dp_mono g _ d2) (dp_mono g _ d3)) fun H' p' => ?_
          · have := (List.getElem?_eq_some_iff.mp hdk).1
            rw [List.length_map, List.length_take]; omega
          · rw [List.take_succ, hdk, List.map_append]
            exact p'
      · rw [dpa_length ha, List.take_length] at p
        exact p.finN n1 hD q
/-! [::-1] of a list or a tuple -/
def tRevE (K : PySem.W.Frag) (te : TE) : TE := fun σ H Q => tRevL K te σ H Q ∨ tRevT K te σ H Q
theorem q_revE {X : Cx} (K : PySem.W.Frag) {e : Expr} {te : TE} {k : Nat} {p1 p2 p3 pos : Pos} (ek : X.K = K) (he : PE X e te) : PE X (.Subscript e (.Slice none none (some (.UnaryOp .USub (.Constant (.int 1) k p1) p2)) p3) pos) (tRevE K te) := by
  subst ek
  exact ⟨fun pins s σ H Q I q => q.elim (fun q => (pe_revL he).run pins s σ H Q I q) fun q => (pe_revT he).run pins s σ H Q I q⟩
theorem ed_revEL (h : EvD K tl σ G (.list ds)) : EvD K (tRevE K tl) σ G (.list ds.reverse) := fun H s Q q => .inl (h H s _ fun v G1 H1 n1 hv => by
  cases hv with
  | @lst a xs _ hs ha =>
    refine ⟨a, xs, rfl, n1.gh.seq hs, fun p hp => ?_⟩
    have m := Nx.new (o := .lst xs.reverse) n1.gh hp
    exact q _ _ _ (n1.trans m) (.lst (SqL.of upd_same) (dpa_mono m.gg _ (dpa_reverse ha))))
theorem ed_revET (h : EvD K tl σ G (.tuple ds)) : EvD K (tRevE K tl) σ G (.tuple ds.reverse) := fun H s Q q => .inr (ed_revT h H s Q q)
theorem en_lcL2 {i j : Nat} {vs : List Nat} (f : PyData → PyData) (h : EvD K tl σ G (.list ds)) (hw : ∀ v1 v2, wipe (((wipe σ vs).set i (some v1)).set j (some v2)) vs = wipe σ vs) (hz : ds.length ≤ sizeLine) (h3 : ∀ d ∈ ds, ∃ x y, d = .tuple [x, y])
    (he : ∀ x y v1 v2 Gi, PyData.tuple [x, y] ∈ ds → Same G Gi → Dp K Gi v1 x → Dp K Gi v2 y → EvD K te (((wipe σ vs).set i (some v1)).set j (some v2)) Gi (f (.tuple [x, y]))) :
    EvN K (tLc (iList K tl) (gTup K 2 (gCons (gName i) (gCons (gName j) gNil))) tYes te vs) σ G (ds.map f) := fun H s Q q =>
  h H s _ fun v G1 H1 n1 hv => by
    cases hv with
    | @lst a xs _ hs ha =>
      refine ⟨a, rfl, ⟨xs, n1.gh.seq hs⟩, fun D hD => ?_⟩
      refine lc_list (K := K) (a := a) (xs := xs) (fun k Hc => LcI K G1 H1 D ((ds.take k).map f) Hc) (LcI.start n1.gh hD) (fun k Hc _ p => ?_) (fun kk x Hc hk p => ?_) fun Hc p => ?_
      · obtain ⟨Gi, acc, n, _⟩ := p.ex
        exact (n1.gh.trans n.hh).seq hs
      · obtain ⟨dk, hdk, hdx⟩ := dpa_get ha hk
        have hm : dk ∈ ds := List.mem_of_getElem? hdk
        obtain ⟨x1, x2, rfl⟩ := h3 dk hm
        cases hdx with
        | @tup b ys _ hy hya =>
          obtain _ | ⟨d1, _ | ⟨d2, _ | _⟩⟩ := hya
          obtain ⟨Gi0, acc0, n0, _⟩ := id p.ex
          refine ⟨b, _, rfl, same_tup (n1.gh.trans n0.hh) hy, rfl, _, _, rfl, _, _, rfl, rfl, hw _ _, ?_⟩
          refine LcI.turn (b := true) (e := f (.tuple [x1, x2])) hD p ?_ (fun Gi g => eb_yes) (fun _ Gi g => he x1 x2 _ _ Gi hm (n1.gg.trans g) (dp_mono g _ d1) (dp_mono g _ d2)) fun H' p' => ?_
          · have := (List.getElem?_eq_some_iff.mp hdk).1
            rw [List.length_map, List.length_take]; omega
          · rw [List.take_succ, hdk, List.map_append]
            exact p'
      · rw [dpa_length ha, List.take_length] at p
        exact p.finN n1 hD q
/-! new lists -/
theorem en_cat2 {es : List PyData} {tr : TE} (h1 : EvN K tl σ G ds) (h2 : EvN K tr σ G es) (hz : ds.length + es.length ≤ sizeLine) : EvN K (tOp rCat tl tr) σ G (ds ++ es) := fun H s Q q =>
  h1 H s _ fun p vs G1 H1 n1 hp gp e ha => (h2.mono n1.gg) H1 n1.gh _ fun p2 ws G2 H2 n2 hp2 gp2 e2 ha2 => ⟨p, p2, vs, ws, rfl, rfl, n2.hh _ _ e, e2, by rw [dpa_length ha, dpa_length ha2]; exact hz, fun p3 hp3 =>
    q p3 (vs ++ ws) G2 _ ((n1.trans n2).trans (Nx.lay n2.gh hp3)) ((n1.trans n2).hh.free hp3) (n2.gh.free hp3) upd_same (dpa_append (dpa_mono n2.gg _ ha) ha2)⟩
theorem en_catV {es : List PyData} {tr : TE} {i : Nat} {l : Addr} {xs : List V} (h : σ[i]? = some (some (.ref l))) (hl : G l = some (.lst xs)) (ha : DpAll K G xs ds) (hr : EvN K tr σ G es) (hz : ds.length + es.length ≤ sizeLine) : EvN K (tOp rCat (tVar i) tr) σ G (ds ++ es) := fun H s Q q =>
  ⟨_, h, hr H s _ fun p vs G' H' n hp gp e hv => ⟨l, p, xs, vs, rfl, rfl, n.hh _ _ (s _ _ hl), e, by rw [dpa_length ha, dpa_length hv]; exact hz, fun p2 hp2 =>
    q p2 (xs ++ vs) G' _ (n.trans (Nx.lay n.gh hp2)) (n.hh.free hp2) (n.gh.free hp2) upd_same (dpa_append (dpa_mono n.gg _ ha) hv)⟩⟩
theorem en_listL {i : Nat} {v : V} (h : σ[i]? = some (some v)) (hv : Dp K G v (.list ds)) : EvN K (tCB (rListQ K) (tCons (tVar i) tNil)) σ G ds := fun H s Q q => by
  cases hv with
  | @lst a xs _ hs ha => exact ⟨_, h, a, xs, rfl, .inl (s.seq hs), fun p hp => q p xs G _ (Nx.lay s hp) hp (s.free hp) upd_same ha⟩
theorem rd_setN {i : Nat} {u : TS} {d : PyData} (h : EvN K te σ G ds) (h1 : ∀ p vs G', Same G G' → G' p = some (.lst vs) → DpAll K G' vs ds → RtD K u (σ.set i (some (.ref p))) G' d) : RtD K (tSeq (tAsg te (gName i)) u) σ G d := fun H s D q => h H s _ fun p vs G1 H1 n1 hp gp e ha => by
  obtain ⟨m, gi⟩ := n1.tell hp gp e
  exact h1 p vs _ m.gg upd_same (dpa_mono gi _ ha) H1 m.gh D fun v G2 H2 n2 hd => q v G2 H2 (m.trans n2) hd
end
end Gw
namespace Gw
open PySem PySem.Spec PyProof.Rows L2 LamX
/-! ### a list that grows, over a view -/
structure Grow (K : PySem.W.Frag) (G H : Hp) (p : Addr) (ds : List PyData) (Gi Hc : Hp) : Prop where
  n : Nx G H Gi Hc
  g : Gi p = none
  ex : ∃ acc, Hc p = some (.lst acc) ∧ DpAll K Gi acc ds
section
variable {K : PySem.W.Frag} {G H Gi Hc G2 H2 : Hp} {p : Addr} {ds : List PyData}
theorem Grow.start (s : Same G H) (hp : H p = none) : Grow K G H p [] G (upd H p (.lst [])) := ⟨Nx.lay s hp, s.free hp, [], upd_same, .nil⟩
theorem Grow.step (h : Grow K G H p ds Gi Hc) (n : Nx Gi Hc G2 H2) : Grow K G H p ds G2 H2 := by
  obtain ⟨acc, e, ha⟩ := h.ex
  exact ⟨h.n.trans n, (n.fr p (ne_none e)).trans h.g, acc, n.hh _ _ e, dpa_mono n.gg _ ha⟩
theorem Grow.add (h : Grow K G H p ds Gi Hc) (hp : H p = none) {v : V} {d : PyData} (hd : Dp K Gi v d) {acc : List V} (e : Hc p = some (.lst acc)) : Grow K G H p (ds ++ [d]) Gi (upd Hc p (.lst (acc ++ [v]))) := by
  obtain ⟨acc', e', ha⟩ := h.ex
  rw [e] at e'
  cases e'
  refine ⟨⟨h.n.gg, fun b u q => ?_, fun b u q => ?_, h.n.fr⟩, h.g, acc ++ [v], upd_same, dpa_append ha (.cons hd .nil)⟩
  · rw [upd_ne (ne_of_none q h.g)]; exact h.n.gh b u q
  · rw [upd_ne (ne_of_none q hp)]; exact h.n.hh b u q
end
section
variable {K : PySem.W.Frag} {σ : L2.St} {G H : Hp}
theorem seq_forR {te : TE} {g : TG} {tb u : TS} {D : Ends} {n : Nat} (Pv : Nat → L2.St → Hp → Prop) (h : EvD K te σ G (.int (n : Int))) (s : Same G H) (hz : n ≤ 1000000) (h0 : ∀ G1 H1, Nx G H G1 H1 → Pv 0 σ H1)
    (hs : ∀ (i : Nat) (σ : L2.St) (Hc : Hp), i < n → Pv i σ Hc → g (.int ((0 : Int) + (i : Int))) σ Hc fun σ2 H2 => tb { nx := Pv (i + 1), rt := D.rt, bk := u D, ct := Pv (i + 1) } σ2 H2) (hd : ∀ σ Hc, Pv n σ Hc → u D σ Hc) : tSeq (tFor (iRng1 (tCons te tNil)) g tb) u D σ H :=
  h H s _ fun v G1 H1 n1 hv => ⟨(n : Int), by rw [dp_int hv], by omega, by omega, by
    rw [Int.toNat_natCast]
    exact for_range (lo := 0) (n := n) Pv (h0 G1 H1 n1) hs hd⟩
end
end Gw
namespace Gw
open PySem PySem.Spec PyProof.Rows L2 LamX
/-! ### an object that is being made: it stands in the heap, not in the view -/
structure No (g : Addr) (G H G' H' : Hp) : Prop where
  gg : Same G G'
  gh : Same G' H'
  hh : ∀ a o, a ≠ g → H a = some o → H' a = some o
  fr : ∀ a, H a ≠ none → G' a = G a
section
variable {K : PySem.W.Frag} {CG g dx : Addr} {σ : L2.St} {G H G1 H1 G2 H2 : Hp} {te : TE} {d : PyData} {f : Str} {fs : List (Str × V)}
theorem No.of (n : Nx G H G1 H1) : No g G H G1 H1 := ⟨n.gg, n.gh, fun a o _ e => n.hh a o e, n.fr⟩
theorem No.trans (a : No g G H G1 H1) (b : No g G1 H1 G2 H2) (hg : ∀ o, H g = some o → H1 g ≠ none) : No g G H G2 H2 := by
  refine ⟨a.gg.trans b.gg, b.gh, fun x o n e => b.hh x o n (a.hh x o n e), fun x hx => (b.fr x ?_).trans (a.fr x hx)⟩
  cases hxo : H x with
  | none => exact absurd hxo hx
  | some o =>
    by_cases hxg : x = g
    · subst hxg; exact hg o hxo
    · rw [a.hh x o hxg hxo]; exact fun z => nomatch z
theorem off_same {o : HO} (s : Same G H) (g0 : G g = none) : Same G (upd H g o) := fun a u z => (upd_ne (fun w => by rw [w, g0] at z; cases z)).trans (s a u z)
theorem asg_fld {D : Ends} (h : EvD K te σ G d) (s : Same G H) (g0 : G g = none) (hg : H g = some (.ins CG dx fs)) (hσ : σ[0]? = some (some (.ref g))) (cl : Cls K CG) (na : NoAttr K CG f) (hz : fs.length < 1000)
    (k : ∀ v G1 H1, No g G H G1 H1 → G1 g = none → H1 g = some (.ins CG dx (putF f v fs)) → Dp K G1 v d → D.nx σ H1) : sFld K (tVar 0) te f D σ H := h H s _ fun v G1 H1 n1 hd => by
  have g1 : G1 g = none := (n1.fr g (ne_none hg)).trans g0
  exact ⟨_, hσ, g, CG, dx, fs, rfl, n1.hh _ _ hg, cl, na, hz, k v G1 _ ⟨n1.gg, off_same n1.gh g1, fun a o n e => (upd_ne n).trans (n1.hh a o e), n1.fr⟩ g1 upd_same hd⟩
theorem seq_fld {u : TS} {D : Ends} (h : EvD K te σ G d) (s : Same G H) (g0 : G g = none) (hg : H g = some (.ins CG dx fs)) (hσ : σ[0]? = some (some (.ref g))) (cl : Cls K CG) (na : NoAttr K CG f) (hz : fs.length < 1000)
    (k : ∀ v G1 H1, No g G H G1 H1 → G1 g = none → H1 g = some (.ins CG dx (putF f v fs)) → Dp K G1 v d → u D σ H1) : tSeq (sFld K (tVar 0) te f) u D σ H := asg_fld (D := { D with nx := u D }) h s g0 hg hσ cl na hz k
/-- made at a new place -/
theorem obj_made {a : Addr} {o : HO} (s : Same G H) (ha : H a = none) (hdx : H dx = none) (hne : dx ≠ a) (n : No a G (upd (upd H dx (.own a)) a o) G1 H1) {fs : List (Str × V)} (e1 : H1 a = some (.ins CG dx fs)) : Nx G H (upd G1 a (.ins CG dx fs)) H1 ∧ Same G1 (upd G1 a (.ins CG dx fs)) := by
  have na : G1 a = none := (n.fr a (ne_none upd_same)).trans (s.free ha)
  have sG := same_upd (o := .ins CG dx fs) na
  have s1 := same_upd (o := .own a) hdx
  refine ⟨⟨n.gg.trans sG, fun b u e => ?_, fun b u e => ?_, fun b nb => ?_⟩, sG⟩
  · by_cases hba : b = a
    · subst hba
      rw [upd_same] at e
      rw [← Option.some.inj e]; exact e1
    · rw [upd_ne hba] at e
      exact n.gh _ _ e
  · have hba : b ≠ a := ne_of_none e ha
    exact n.hh b u hba ((upd_ne hba).trans (s1 _ _ e))
  · have hba : b ≠ a := fun z => nb (by rw [z]; exact ha)
    rw [upd_ne hba]
    refine n.fr b ?_
    rw [upd_ne hba]
    by_cases hbd : b = dx
    · exact absurd (hbd ▸ hdx) nb
    · rw [upd_ne hbd]; exact nb
end
end Gw
namespace Gw
open PySem PySem.Spec PyProof.Rows L2 LamX
/-! ### dicts by comprehensions -/
theorem dc_it {J : It} {n : Nat} {Gd : Hp → Prop} {Y : Nat → Hp → V → Hp → Prop} (w : Walk J n Gd Y) {g : TG} {tt : TT} {tk tv : TE} {vs : List Nat} {σ : L2.St} {H1 : Hp} {D : Addr} {Qd : Hp → Prop} (Pv : Nat → Hp → Prop) (h0 : Pv 0 (upd H1 D (.dK []))) (hG : ∀ i H, i ≤ n → Pv i H → Gd H)
    (hs : ∀ i x H H', i < n → Pv i H → Y i H x H' → g x (wipe σ vs) H' fun σ2 H2 => wipe σ2 vs = wipe σ vs ∧ tt σ2 H2 fun b H3 => if b = true then tk σ2 H3 fun y H4 => tv σ2 H4 fun z H5 => ∃ kvs k, y = kV k ∧ H5 D = some (.dK kvs) ∧ kvs.length < sizeLine ∧ Pv (i + 1) (upd H5 D (.dK (putK kvs k z))) else Pv (i + 1) H3)
    (hd : ∀ H, Pv n H → Qd H) : ∃ W : Nat → Nat → Hp → Prop, (∃ m, W 0 m (upd H1 D (.dK []))) ∧ ∀ i m H, W i m H → (J.stop i H ∧ Qd H) ∨ (J.go i H ∧ ∃ Nx : Hp → Prop, (∀ H', Nx H' → ∃ m', m' < m ∧ W (i + 1) m' H') ∧
      ∀ x H', J.yld i H x H' → g x (wipe σ vs) H' fun σ2 H2 => wipe σ2 vs = wipe σ vs ∧ tt σ2 H2 fun b H3 => if b = true then tk σ2 H3 fun y H4 => tv σ2 H4 fun z H5 => ∃ kvs k, y = kV k ∧ H5 D = some (.dK kvs) ∧ kvs.length < sizeLine ∧ Nx (upd H5 D (.dK (putK kvs k z))) else Nx H3) := by
  refine ⟨fun i m H => i ≤ n ∧ m = n - i ∧ Pv i H, ⟨n, Nat.zero_le _, rfl, h0⟩, fun i m H ⟨hi, hm, hp⟩ => ?_⟩
  rcases Nat.lt_or_ge i n with z | z
  · refine .inr ⟨w.goes i H z (hG i H hi hp), Pv (i + 1), fun H' hp' => ⟨n - (i + 1), by omega, by omega, rfl, hp'⟩, fun x H' hy => hs i x H H' z hp (w.yields i H x H' z (hG i H hi hp) hy)⟩
  · have e : i = n := by omega
    subst e
    exact .inl ⟨w.stops H (hG i H hi hp), hd H hp⟩
theorem one_of {n c : Nat} (h : n + 64 < c) : n + 1 < c := by omega
theorem put_len (kvs : List (Key × V)) (k : Key) (v : V) : (putK kvs k v).length ≤ kvs.length + 1 := by
  unfold putK
  split
  · rw [List.length_map]; omega
  · rw [List.length_append]; exact Nat.le_refl _
section
variable {K : PySem.W.Frag} {σ : L2.St} {G H G1 H1 : Hp} {tl te : TE} {tt : TT} {ds : List PyData} {p : Addr} {Gi Hc : Hp}
theorem en_lcLF2 {i j : Nat} {vs : List Nat} (f : PyData → Option PyData) (h : EvD K tl σ G (.list ds)) (hw : ∀ v1 v2, wipe (((wipe σ vs).set i (some v1)).set j (some v2)) vs = wipe σ vs) (hz : ds.length ≤ sizeLine) (h3 : ∀ d ∈ ds, ∃ x y, d = .tuple [x, y])
    (ht : ∀ x y v1 v2 Gi, PyData.tuple [x, y] ∈ ds → Same G Gi → Dp K Gi v1 x → Dp K Gi v2 y → EvB K tt (((wipe σ vs).set i (some v1)).set j (some v2)) Gi (f (.tuple [x, y])).isSome)
    (he : ∀ x y e v1 v2 Gi, PyData.tuple [x, y] ∈ ds → f (.tuple [x, y]) = some e → Same G Gi → Dp K Gi v1 x → Dp K Gi v2 y → EvD K te (((wipe σ vs).set i (some v1)).set j (some v2)) Gi e) :
    EvN K (tLc (iList K tl) (gTup K 2 (gCons (gName i) (gCons (gName j) gNil))) tt te vs) σ G (ds.filterMap f) := fun H s Q q =>
  h H s _ fun v G1 H1 n1 hv => by
    cases hv with
    | @lst a xs _ hs ha =>
      refine ⟨a, rfl, ⟨xs, n1.gh.seq hs⟩, fun D hD => ?_⟩
      refine lc_list (K := K) (a := a) (xs := xs) (fun k Hc => LcI K G1 H1 D ((ds.take k).filterMap f) Hc) (LcI.start n1.gh hD) (fun k Hc _ p => ?_) (fun kk x Hc hk p => ?_) fun Hc p => ?_
      · obtain ⟨Gi, acc, n, _⟩ := p.ex
        exact (n1.gh.trans n.hh).seq hs
      · obtain ⟨dk, hdk, hdx⟩ := dpa_get ha hk
        have hm : dk ∈ ds := List.mem_of_getElem? hdk
        obtain ⟨x1, x2, rfl⟩ := h3 dk hm
        cases hdx with
        | @tup b ys _ hy hya =>
          obtain _ | ⟨d1, _ | ⟨d2, _ | _⟩⟩ := hya
          obtain ⟨Gi0, acc0, n0, _⟩ := id p.ex
          refine ⟨b, _, rfl, same_tup (n1.gh.trans n0.hh) hy, rfl, _, _, rfl, _, _, rfl, rfl, hw _ _, ?_⟩
          refine LcI.turn (b := (f (.tuple [x1, x2])).isSome) (e := (f (.tuple [x1, x2])).getD .none) hD p (Nat.lt_of_le_of_lt (List.length_filterMap_le _ _) ?_) (fun Gi g => ht x1 x2 _ _ Gi hm (n1.gg.trans g) (dp_mono g _ d1) (dp_mono g _ d2)) (fun hb Gi g => ?_) fun H' p' => ?_
          · have := (List.getElem?_eq_some_iff.mp hdk).1
            rw [List.length_take]; omega
          · obtain ⟨e, hee⟩ := Option.isSome_iff_exists.mp hb
            rw [hee]
            exact he x1 x2 e _ _ Gi hm hee (n1.gg.trans g) (dp_mono g _ d1) (dp_mono g _ d2)
          · rw [fm_take f ds kk _ hdk]
            cases hf : f (.tuple [x1, x2]) with
            | none => rw [hf] at p'; simpa using p'
            | some e => rw [hf] at p'; simpa using p'
      · rw [dpa_length ha, List.take_length] at p
        exact p.finN n1 hD q
theorem dc_tup {g : TG} {tk tv : TE} {vs : List Nat} {Q : VK} (h : EvD K te σ G (.tuple ds)) (s : Same G H)
    (k : ∀ a xs G1 H1, Nx G H G1 H1 → SqT K G1 a xs → DpAll K G1 xs ds → ∀ D, H1 D = none → ∃ W : Nat → Nat → Hp → Prop, (∃ m, W 0 m (upd H1 D (.dK []))) ∧ ∀ i m H, W i m H → ((Itt K a).stop i H ∧ Q (.ref D) H) ∨ ((Itt K a).go i H ∧ ∃ Nx : Hp → Prop, (∀ H', Nx H' → ∃ m', m' < m ∧ W (i + 1) m' H') ∧
      ∀ x H', (Itt K a).yld i H x H' → g x (wipe σ vs) H' fun σ2 H2 => wipe σ2 vs = wipe σ vs ∧ tt σ2 H2 fun b H3 => if b = true then tk σ2 H3 fun y H4 => tv σ2 H4 fun z H5 => ∃ kvs k, y = kV k ∧ H5 D = some (.dK kvs) ∧ kvs.length < sizeLine ∧ Nx (upd H5 D (.dK (putK kvs k z))) else Nx H3)) : tDc (iTup K te) g tt tk tv vs σ H Q := h H s _ fun v G1 H1 n1 hv => by
  cases hv with
  | @tup a xs _ hs ha => exact ⟨a, rfl, ⟨xs, same_tup n1.gh hs⟩, k a xs G1 H1 n1 hs ha⟩
/-- the list that grows takes another one's things -/
theorem Grow.addAll {es : List PyData} (h : Grow K G H p ds Gi Hc) (hp : H p = none) {vs : List V} (hd : DpAll K Gi vs es) {acc : List V} (e : Hc p = some (.lst acc)) : Grow K G H p (ds ++ es) Gi (upd Hc p (.lst (acc ++ vs))) := by
  obtain ⟨acc', e', ha⟩ := h.ex
  rw [e] at e'
  cases e'
  refine ⟨⟨h.n.gg, fun b u q => ?_, fun b u q => ?_, h.n.fr⟩, h.g, acc ++ vs, upd_same, dpa_append ha hd⟩
  · rw [upd_ne (ne_of_none q h.g)]; exact h.n.gh b u q
  · rw [upd_ne (ne_of_none q hp)]; exact h.n.hh b u q
theorem EvN.tellV {te : TE} {Q : VK} (h : EvN K te σ G ds) (s : Same G H) (k : ∀ p vs G1 H1, Nx G H G1 H1 → H p = none → G1 p = some (.lst vs) → DpAll K G1 vs ds → Q (.ref p) H1) : te σ H Q := h H s _ fun p vs G1 H1 n hp gp e ha => by
  obtain ⟨m, gi⟩ := n.tell hp gp e
  exact k p vs _ H1 m hp upd_same (dpa_mono gi _ ha)
theorem seq_letV {te : TE} {i : Nat} {u : TS} {D : Ends} (h : EvN K te σ G ds) (s : Same G H) (k : ∀ p vs G1 H1, Nx G H G1 H1 → H p = none → G1 p = some (.lst vs) → DpAll K G1 vs ds → u D (σ.set i (some (.ref p))) H1) : tSeq (tAsg te (gName i)) u D σ H := h.tellV s k
end
end Gw
namespace Gw
open PySem PySem.Spec PyProof.Rows L2 LamX
/-! ### of which class an error is -/
def Kinds (K : PySem.W.Frag) (cls : List Addr) (D : Addr) (f : Nat → Bool) : Prop := ∀ (k : Nat) (C : Addr), cls[k]? = some C → PySem.W.kitOne K (.ref D) (.ref C) = some (f k)
def kindsD (f : Nat → Bool) : PyData := .list ((List.range 31).map fun k => .bool (f k))
def spKi (K : PySem.W.Frag) (cls : List Addr) : Sp := fun vs H Q _ => ∃ (G : Hp) (v : V) (D : Addr) (f : Nat → Bool), Same G H ∧ vs = [v] ∧ ErrV D G v ∧ ExcC K D ∧ Kinds K cls D f ∧ ∀ u G' H', Nx G H G' H' → Dp K G' u (kindsD f) → Q u H'
section
variable {P : Program} {w : World} {K : PySem.W.Frag} {mg : Str → Option Value} {base : Heap} {f : Addr} {fd : FuncData}
theorem ed_kind {σ : L2.St} {G : Hp} {i : Nat} {v : V} {D C : Addr} {b : Bool} (h : σ[i]? = some (some v)) (hv : ErrV D G v) (T : ExcC K D) (hk : PySem.W.kitOne K (.ref D) (.ref C) = some b) : EvD K (tCB (rIsC2 K) (tCons (tVar i) (tCons (tC (.ref C)) tNil))) σ G (.bool b) := fun H s Q q => by
  obtain ⟨a, dd, rfl, ha, hd⟩ := hv
  exact ⟨_, h, .inr ⟨a, D, C, dd, b, rfl, s _ _ ha, fun d z => (hd d z).imp fun fs e => s _ _ e, T, hk, q _ G H (Nx.refl s) (.bl _)⟩⟩
theorem ok_law_kinds {C_BadBack C_BadWord C_BadStep C_BadRoad C_BadFraction C_NoGroup C_BadPaper C_BadSpelling C_NotShort C_Endless C_BadChange C_BadQuestion C_BadDeed C_BadLive C_BadValue C_BadLog C_BadNumber C_BadGroup C_BadMachine C_BadClaim C_BadSystem C_BadMap C_TooMany C_BadSteady C_BadJudged C_BadSubgroup C_BadLefts C_NotLet C_BadBytes C_BadText C_BadGiant : Addr} (D : DefAt K mg "_law_kinds" s_law_kinds P_law_kinds f fd) (T : Bt mg) (g_BadBack : mg "BadBack" = some (.ref C_BadBack)) (g_BadWord : mg "BadWord" = some (.ref C_BadWord)) (g_BadStep : mg "BadStep" = some (.ref C_BadStep)) (g_BadRoad : mg "BadRoad" = some (.ref C_BadRoad)) (g_BadFraction : mg "BadFraction" = some (.ref C_BadFraction)) (g_NoGroup : mg "NoGroup" = some (.ref C_NoGroup)) (g_BadPaper : mg "BadPaper" = some (.ref C_BadPaper)) (g_BadSpelling : mg "BadSpelling" = some (.ref C_BadSpelling)) (g_NotShort : mg "NotShort" = some (.ref C_NotShort)) (g_Endless : mg "Endless" = some (.ref C_Endless)) (g_BadChange : mg "BadChange" = some (.ref C_BadChange)) (g_BadQuestion : mg "BadQuestion" = some (.ref C_BadQuestion)) (g_BadDeed : mg "BadDeed" = some (.ref C_BadDeed)) (g_BadLive : mg "BadLive" = some (.ref C_BadLive)) (g_BadValue : mg "BadValue" = some (.ref C_BadValue)) (g_BadLog : mg "BadLog" = some (.ref C_BadLog)) (g_BadNumber : mg "BadNumber" = some (.ref C_BadNumber)) (g_BadGroup : mg "BadGroup" = some (.ref C_BadGroup)) (g_BadMachine : mg "BadMachine" = some (.ref C_BadMachine)) (g_BadClaim : mg "BadClaim" = some (.ref C_BadClaim)) (g_BadSystem : mg "BadSystem" = some (.ref C_BadSystem)) (g_BadMap : mg "BadMap" = some (.ref C_BadMap)) (g_TooMany : mg "TooMany" = some (.ref C_TooMany)) (g_BadSteady : mg "BadSteady" = some (.ref C_BadSteady)) (g_BadJudged : mg "BadJudged" = some (.ref C_BadJudged)) (g_BadSubgroup : mg "BadSubgroup" = some (.ref C_BadSubgroup)) (g_BadLefts : mg "BadLefts" = some (.ref C_BadLefts)) (g_NotLet : mg "NotLet" = some (.ref C_NotLet)) (g_BadBytes : mg "BadBytes" = some (.ref C_BadBytes)) (g_BadText : mg "BadText" = some (.ref C_BadText)) (g_BadGiant : mg "BadGiant" = some (.ref C_BadGiant)) : Ok P w K mg base "_law_kinds" P_law_kinds 3 (spKi K [C_BadBack, C_BadWord, C_BadStep, C_BadRoad, C_BadFraction, C_NoGroup, C_BadPaper, C_BadSpelling, C_NotShort, C_Endless, C_BadChange, C_BadQuestion, C_BadDeed, C_BadLive, C_BadValue, C_BadLog, C_BadNumber, C_BadGroup, C_BadMachine, C_BadClaim, C_BadSystem, C_BadMap, C_TooMany, C_BadSteady, C_BadJudged, C_BadSubgroup, C_BadLefts, C_NotLet, C_BadBytes, C_BadText, C_BadGiant]) := by
  refine D.ok (D.F.ok sc_law_kinds (fun vs H Q E h => ?_) fun cdv A outer s H vs Q E hr h => ?_)
  · obtain ⟨G, v, D', f', _, rfl, _⟩ := h; rfl
  have S := sc_law_kinds
  obtain ⟨G, v, D', g, hs, rfl, hv, ex, hk, q⟩ := h
  refine ⟨_, (pss_cons (ps_set (i := 1) S.nd rfl (by first | exact .inl rfl | exact .inr rfl) (pe_lst pa_nil))
  (pss_cons (ps_set (i := 1) S.nd rfl (by first | exact .inl rfl | exact .inr rfl) (pe_op op_cat (pv 1) (pe_lst (pa_cons (pe_callB cr_isC2 (by rfl) T.isinstance (by decide +kernel) (pa_cons (pv 0) (pa_cons (pe_glob (v := .ref C_BadBack) (by rfl) g_BadBack rfl) pa_nil))) (pa_cons (pe_callB cr_isC2 (by rfl) T.isinstance (by decide +kernel) (pa_cons (pv 0) (pa_cons (pe_glob (v := .ref C_BadWord) (by rfl) g_BadWord rfl) pa_nil))) (pa_cons (pe_callB cr_isC2 (by rfl) T.isinstance (by decide +kernel) (pa_cons (pv 0) (pa_cons (pe_glob (v := .ref C_BadStep) (by rfl) g_BadStep rfl) pa_nil))) pa_nil))))))
  (pss_cons (ps_set (i := 1) S.nd rfl (by first | exact .inl rfl | exact .inr rfl) (pe_op op_cat (pv 1) (pe_lst (pa_cons (pe_callB cr_isC2 (by rfl) T.isinstance (by decide +kernel) (pa_cons (pv 0) (pa_cons (pe_glob (v := .ref C_BadRoad) (by rfl) g_BadRoad rfl) pa_nil))) (pa_cons (pe_callB cr_isC2 (by rfl) T.isinstance (by decide +kernel) (pa_cons (pv 0) (pa_cons (pe_glob (v := .ref C_BadFraction) (by rfl) g_BadFraction rfl) pa_nil))) (pa_cons (pe_callB cr_isC2 (by rfl) T.isinstance (by decide +kernel) (pa_cons (pv 0) (pa_cons (pe_glob (v := .ref C_NoGroup) (by rfl) g_NoGroup rfl) pa_nil))) pa_nil))))))
  (pss_cons (ps_set (i := 1) S.nd rfl (by first | exact .inl rfl | exact .inr rfl) (pe_op op_cat (pv 1) (pe_lst (pa_cons (pe_callB cr_isC2 (by rfl) T.isinstance (by decide +kernel) (pa_cons (pv 0) (pa_cons (pe_glob (v := .ref C_BadPaper) (by rfl) g_BadPaper rfl) pa_nil))) (pa_cons (pe_callB cr_isC2 (by rfl) T.isinstance (by decide +kernel) (pa_cons (pv 0) (pa_cons (pe_glob (v := .ref C_BadSpelling) (by rfl) g_BadSpelling rfl) pa_nil))) (pa_cons (pe_callB cr_isC2 (by rfl) T.isinstance (by decide +kernel) (pa_cons (pv 0) (pa_cons (pe_glob (v := .ref C_NotShort) (by rfl) g_NotShort rfl) pa_nil))) pa_nil))))))
  (pss_cons (ps_set (i := 1) S.nd rfl (by first | exact .inl rfl | exact .inr rfl) (pe_op op_cat (pv 1) (pe_lst (pa_cons (pe_callB cr_isC2 (by rfl) T.isinstance (by decide +kernel) (pa_cons (pv 0) (pa_cons (pe_glob (v := .ref C_Endless) (by rfl) g_Endless rfl) pa_nil))) (pa_cons (pe_callB cr_isC2 (by rfl) T.isinstance (by decide +kernel) (pa_cons (pv 0) (pa_cons (pe_glob (v := .ref C_BadChange) (by rfl) g_BadChange rfl) pa_nil))) (pa_cons (pe_callB cr_isC2 (by rfl) T.isinstance (by decide +kernel) (pa_cons (pv 0) (pa_cons (pe_glob (v := .ref C_BadQuestion) (by rfl) g_BadQuestion rfl) pa_nil))) pa_nil))))))
  (pss_cons (ps_set (i := 1) S.nd rfl (by first | exact .inl rfl | exact .inr rfl) (pe_op op_cat (pv 1) (pe_lst (pa_cons (pe_callB cr_isC2 (by rfl) T.isinstance (by decide +kernel) (pa_cons (pv 0) (pa_cons (pe_glob (v := .ref C_BadDeed) (by rfl) g_BadDeed rfl) pa_nil))) (pa_cons (pe_callB cr_isC2 (by rfl) T.isinstance (by decide +kernel) (pa_cons (pv 0) (pa_cons (pe_glob (v := .ref C_BadLive) (by rfl) g_BadLive rfl) pa_nil))) (pa_cons (pe_callB cr_isC2 (by rfl) T.isinstance (by decide +kernel) (pa_cons (pv 0) (pa_cons (pe_glob (v := .ref C_BadValue) (by rfl) g_BadValue rfl) pa_nil))) pa_nil))))))
  (pss_cons (ps_set (i := 1) S.nd rfl (by first | exact .inl rfl | exact .inr rfl) (pe_op op_cat (pv 1) (pe_lst (pa_cons (pe_callB cr_isC2 (by rfl) T.isinstance (by decide +kernel) (pa_cons (pv 0) (pa_cons (pe_glob (v := .ref C_BadLog) (by rfl) g_BadLog rfl) pa_nil))) (pa_cons (pe_callB cr_isC2 (by rfl) T.isinstance (by decide +kernel) (pa_cons (pv 0) (pa_cons (pe_glob (v := .ref C_BadNumber) (by rfl) g_BadNumber rfl) pa_nil))) (pa_cons (pe_callB cr_isC2 (by rfl) T.isinstance (by decide +kernel) (pa_cons (pv 0) (pa_cons (pe_glob (v := .ref C_BadGroup) (by rfl) g_BadGroup rfl) pa_nil))) pa_nil))))))
  (pss_cons (ps_set (i := 1) S.nd rfl (by first | exact .inl rfl | exact .inr rfl) (pe_op op_cat (pv 1) (pe_lst (pa_cons (pe_callB cr_isC2 (by rfl) T.isinstance (by decide +kernel) (pa_cons (pv 0) (pa_cons (pe_glob (v := .ref C_BadMachine) (by rfl) g_BadMachine rfl) pa_nil))) (pa_cons (pe_callB cr_isC2 (by rfl) T.isinstance (by decide +kernel) (pa_cons (pv 0) (pa_cons (pe_glob (v := .ref C_BadClaim) (by rfl) g_BadClaim rfl) pa_nil))) (pa_cons (pe_callB cr_isC2 (by rfl) T.isinstance (by decide +kernel) (pa_cons (pv 0) (pa_cons (pe_glob (v := .ref C_BadSystem) (by rfl) g_BadSystem rfl) pa_nil))) pa_nil))))))
  (pss_cons (ps_set (i := 1) S.nd rfl (by first | exact .inl rfl | exact .inr rfl) (pe_op op_cat (pv 1) (pe_lst (pa_cons (pe_callB cr_isC2 (by rfl) T.isinstance (by decide +kernel) (pa_cons (pv 0) (pa_cons (pe_glob (v := .ref C_BadMap) (by rfl) g_BadMap rfl) pa_nil))) (pa_cons (pe_callB cr_isC2 (by rfl) T.isinstance (by decide +kernel) (pa_cons (pv 0) (pa_cons (pe_glob (v := .ref C_TooMany) (by rfl) g_TooMany rfl) pa_nil))) (pa_cons (pe_callB cr_isC2 (by rfl) T.isinstance (by decide +kernel) (pa_cons (pv 0) (pa_cons (pe_glob (v := .ref C_BadSteady) (by rfl) g_BadSteady rfl) pa_nil))) pa_nil))))))
  (pss_cons (ps_set (i := 1) S.nd rfl (by first | exact .inl rfl | exact .inr rfl) (pe_op op_cat (pv 1) (pe_lst (pa_cons (pe_callB cr_isC2 (by rfl) T.isinstance (by decide +kernel) (pa_cons (pv 0) (pa_cons (pe_glob (v := .ref C_BadJudged) (by rfl) g_BadJudged rfl) pa_nil))) (pa_cons (pe_callB cr_isC2 (by rfl) T.isinstance (by decide +kernel) (pa_cons (pv 0) (pa_cons (pe_glob (v := .ref C_BadSubgroup) (by rfl) g_BadSubgroup rfl) pa_nil))) pa_nil)))))
  (pss_cons (ps_set (i := 1) S.nd rfl (by first | exact .inl rfl | exact .inr rfl) (pe_op op_cat (pv 1) (pe_lst (pa_cons (pe_callB cr_isC2 (by rfl) T.isinstance (by decide +kernel) (pa_cons (pv 0) (pa_cons (pe_glob (v := .ref C_BadLefts) (by rfl) g_BadLefts rfl) pa_nil))) (pa_cons (pe_callB cr_isC2 (by rfl) T.isinstance (by decide +kernel) (pa_cons (pv 0) (pa_cons (pe_glob (v := .ref C_NotLet) (by rfl) g_NotLet rfl) pa_nil))) (pa_cons (pe_callB cr_isC2 (by rfl) T.isinstance (by decide +kernel) (pa_cons (pv 0) (pa_cons (pe_glob (v := .ref C_BadBytes) (by rfl) g_BadBytes rfl) pa_nil))) pa_nil))))))
  (pss_cons (ps_set (i := 1) S.nd rfl (by first | exact .inl rfl | exact .inr rfl) (pe_op op_cat (pv 1) (pe_lst (pa_cons (pe_callB cr_isC2 (by rfl) T.isinstance (by decide +kernel) (pa_cons (pv 0) (pa_cons (pe_glob (v := .ref C_BadText) (by rfl) g_BadText rfl) pa_nil))) (pa_cons (pe_callB cr_isC2 (by rfl) T.isinstance (by decide +kernel) (pa_cons (pv 0) (pa_cons (pe_glob (v := .ref C_BadGiant) (by rfl) g_BadGiant rfl) pa_nil))) pa_nil)))))
  (pss_one (ps_ret (pv 1))))))))))))))), ?_⟩
  have big : 100000 ≤ sizeLine := by decide
  refine seq_letV (K := K) (G := G) (en_lst ea_nil (Nat.zero_le _)) hs fun p0 xs0 G0 H0 n0 _ e0 a0 => ?_
  have hv0 := errV_mono D' _ _ _ n0.gg hv
  refine seq_letV (K := K) (G := G0) (en_catV (i := 1) rfl e0 a0 (en_lst (ea_cons (ed_kind (i := 0) (D := D') (C := C_BadBack) (b := g 0) rfl hv0 ex (hk 0 _ rfl)) (ea_cons (ed_kind (i := 0) (D := D') (C := C_BadWord) (b := g 1) rfl hv0 ex (hk 1 _ rfl)) (ea_cons (ed_kind (i := 0) (D := D') (C := C_BadStep) (b := g 2) rfl hv0 ex (hk 2 _ rfl)) ea_nil))) (by show 3 ≤ sizeLine; omega)) (by show 0 + 3 ≤ sizeLine; omega)) n0.gh fun p1 xs1 G1 H1 m1 _ e1 a1 => ?_
  have n1 := n0.trans m1
  have hv1 := errV_mono D' _ _ _ n1.gg hv
  refine seq_letV (K := K) (G := G1) (en_catV (i := 1) rfl e1 a1 (en_lst (ea_cons (ed_kind (i := 0) (D := D') (C := C_BadRoad) (b := g 3) rfl hv1 ex (hk 3 _ rfl)) (ea_cons (ed_kind (i := 0) (D := D') (C := C_BadFraction) (b := g 4) rfl hv1 ex (hk 4 _ rfl)) (ea_cons (ed_kind (i := 0) (D := D') (C := C_NoGroup) (b := g 5) rfl hv1 ex (hk 5 _ rfl)) ea_nil))) (by show 3 ≤ sizeLine; omega)) (by show 3 + 3 ≤ sizeLine; omega)) n1.gh fun p2 xs2 G2 H2 m2 _ e2 a2 => ?_
  have n2 := n1.trans m2
  have hv2 := errV_mono D' _ _ _ n2.gg hv
  refine seq_letV (K := K) (G := G2) (en_catV (i := 1) rfl e2 a2 (en_lst (ea_cons (ed_kind (i := 0) (D := D') (C := C_BadPaper) (b := g 6) rfl hv2 ex (hk 6 _ rfl)) (ea_cons (ed_kind (i := 0) (D := D') (C := C_BadSpelling) (b := g 7) rfl hv2 ex (hk 7 _ rfl)) (ea_cons (ed_kind (i := 0) (D := D') (C := C_NotShort) (b := g 8) rfl hv2 ex (hk 8 _ rfl)) ea_nil))) (by show 3 ≤ sizeLine; omega)) (by show 6 + 3 ≤ sizeLine; omega)) n2.gh fun p3 xs3 G3 H3 m3 _ e3 a3 => ?_
  have n3 := n2.trans m3
  have hv3 := errV_mono D' _ _ _ n3.gg hv
  refine seq_letV (K := K) (G := G3) (en_catV (i := 1) rfl e3 a3 (en_lst (ea_cons (ed_kind (i := 0) (D := D') (C := C_Endless) (b := g 9) rfl hv3 ex (hk 9 _ rfl)) (ea_cons (ed_kind (i := 0) (D := D') (C := C_BadChange) (b := g 10) rfl hv3 ex (hk 10 _ rfl)) (ea_cons (ed_kind (i := 0) (D := D') (C := C_BadQuestion) (b := g 11) rfl hv3 ex (hk 11 _ rfl)) ea_nil))) (by show 3 ≤ sizeLine; omega)) (by show 9 + 3 ≤ sizeLine; omega)) n3.gh fun p4 xs4 G4 H4 m4 _ e4 a4 => ?_
  have n4 := n3.trans m4
  have hv4 := errV_mono D' _ _ _ n4.gg hv
  refine seq_letV (K := K) (G := G4) (en_catV (i := 1) rfl e4 a4 (en_lst (ea_cons (ed_kind (i := 0) (D := D') (C := C_BadDeed) (b := g 12) rfl hv4 ex (hk 12 _ rfl)) (ea_cons (ed_kind (i := 0) (D := D') (C := C_BadLive) (b := g 13) rfl hv4 ex (hk 13 _ rfl)) (ea_cons (ed_kind (i := 0) (D := D') (C := C_BadValue) (b := g 14) rfl hv4 ex (hk 14 _ rfl)) ea_nil))) (by show 3 ≤ sizeLine; omega)) (by show 12 + 3 ≤ sizeLine; omega)) n4.gh fun p5 xs5 G5 H5 m5 _ e5 a5 => ?_
  have n5 := n4.trans m5
  have hv5 := errV_mono D' _ _ _ n5.gg hv
  refine seq_letV (K := K) (G := G5) (en_catV (i := 1) rfl e5 a5 (en_lst (ea_cons (ed_kind (i := 0) (D := D') (C := C_BadLog) (b := g 15) rfl hv5 ex (hk 15 _ rfl)) (ea_cons (ed_kind (i := 0) (D := D') (C := C_BadNumber) (b := g 16) rfl hv5 ex (hk 16 _ rfl)) (ea_cons (ed_kind (i := 0) (D := D') (C := C_BadGroup) (b := g 17) rfl hv5 ex (hk 17 _ rfl)) ea_nil))) (by show 3 ≤ sizeLine; omega)) (by show 15 + 3 ≤ sizeLine; omega)) n5.gh fun p6 xs6 G6 H6 m6 _ e6 a6 => ?_
  have n6 := n5.trans m6
  have hv6 := errV_mono D' _ _ _ n6.gg hv
  refine seq_letV (K := K) (G := G6) (en_catV (i := 1) rfl e6 a6 (en_lst (ea_cons (ed_kind (i := 0) (D := D') (C := C_BadMachine) (b := g 18) rfl hv6 ex (hk 18 _ rfl)) (ea_cons (ed_kind (i := 0) (D := D') (C := C_BadClaim) (b := g 19) rfl hv6 ex (hk 19 _ rfl)) (ea_cons (ed_kind (i := 0) (D := D') (C := C_BadSystem) (b := g 20) rfl hv6 ex (hk 20 _ rfl)) ea_nil))) (by show 3 ≤ sizeLine; omega)) (by show 18 + 3 ≤ sizeLine; omega)) n6.gh fun p7 xs7 G7 H7 m7 _ e7 a7 => ?_
  have n7 := n6.trans m7
  have hv7 := errV_mono D' _ _ _ n7.gg hv
  refine seq_letV (K := K) (G := G7) (en_catV (i := 1) rfl e7 a7 (en_lst (ea_cons (ed_kind (i := 0) (D := D') (C := C_BadMap) (b := g 21) rfl hv7 ex (hk 21 _ rfl)) (ea_cons (ed_kind (i := 0) (D := D') (C := C_TooMany) (b := g 22) rfl hv7 ex (hk 22 _ rfl)) (ea_cons (ed_kind (i := 0) (D := D') (C := C_BadSteady) (b := g 23) rfl hv7 ex (hk 23 _ rfl)) ea_nil))) (by show 3 ≤ sizeLine; omega)) (by show 21 + 3 ≤ sizeLine; omega)) n7.gh fun p8 xs8 G8 H8 m8 _ e8 a8 => ?_
  have n8 := n7.trans m8
  have hv8 := errV_mono D' _ _ _ n8.gg hv
  refine seq_letV (K := K) (G := G8) (en_catV (i := 1) rfl e8 a8 (en_lst (ea_cons (ed_kind (i := 0) (D := D') (C := C_BadJudged) (b := g 24) rfl hv8 ex (hk 24 _ rfl)) (ea_cons (ed_kind (i := 0) (D := D') (C := C_BadSubgroup) (b := g 25) rfl hv8 ex (hk 25 _ rfl)) ea_nil)) (by show 2 ≤ sizeLine; omega)) (by show 24 + 2 ≤ sizeLine; omega)) n8.gh fun p9 xs9 G9 H9 m9 _ e9 a9 => ?_
  have n9 := n8.trans m9
  have hv9 := errV_mono D' _ _ _ n9.gg hv
  refine seq_letV (K := K) (G := G9) (en_catV (i := 1) rfl e9 a9 (en_lst (ea_cons (ed_kind (i := 0) (D := D') (C := C_BadLefts) (b := g 26) rfl hv9 ex (hk 26 _ rfl)) (ea_cons (ed_kind (i := 0) (D := D') (C := C_NotLet) (b := g 27) rfl hv9 ex (hk 27 _ rfl)) (ea_cons (ed_kind (i := 0) (D := D') (C := C_BadBytes) (b := g 28) rfl hv9 ex (hk 28 _ rfl)) ea_nil))) (by show 3 ≤ sizeLine; omega)) (by show 26 + 3 ≤ sizeLine; omega)) n9.gh fun p10 xs10 G10 H10 m10 _ e10 a10 => ?_
  have n10 := n9.trans m10
  have hv10 := errV_mono D' _ _ _ n10.gg hv
  refine seq_letV (K := K) (G := G10) (en_catV (i := 1) rfl e10 a10 (en_lst (ea_cons (ed_kind (i := 0) (D := D') (C := C_BadText) (b := g 29) rfl hv10 ex (hk 29 _ rfl)) (ea_cons (ed_kind (i := 0) (D := D') (C := C_BadGiant) (b := g 30) rfl hv10 ex (hk 30 _ rfl)) ea_nil)) (by show 2 ≤ sizeLine; omega)) (by show 29 + 2 ≤ sizeLine; omega)) n10.gh fun p11 xs11 G11 H11 m11 _ e11 a11 => ?_
  have n11 := n10.trans m11
  exact (rd_ret (K := K) (G := G11) (d := kindsD g) (ed_var (i := 1) rfl (.lst (SqL.of e11) a11))) H11 n11.gh _ fun u G' H' n hd => q u G' H' (n11.trans n) hd
end
/-! ### errors made -/
section
variable {K : PySem.W.Frag} {σ : L2.St} {G H : Hp} {te t2 t3 : TE} {C : Addr} {f : Str} {v0 : V} {i : Nat}
theorem ex_pln (h : EvX te σ G fun _ _ => True) : EvX (tPlnV C te) σ G (ErrV C) := fun H s Q q => h H s _ fun v G1 H1 n1 _ => fun e he => q _ _ _ (n1.trans (Nx.new n1.gh he)) ⟨e, none, rfl, upd_same, fun d z => nomatch z⟩
/-- an error with its one attribute -/
def SupV (C : Addr) (f : Str) (v0 : V) (G : Hp) (v : V) : Prop := ∃ e d : Addr, v = .ref e ∧ G e = some (ErrO (.ref C) (some d) e) ∧ G d = some (.xd [(f, v0)])
theorem SupV.err {v : V} (h : SupV C f v0 G v) : ErrV C G v := by
  obtain ⟨e, d, h1, h2, h3⟩ := h
  exact ⟨e, some d, h1, h2, fun d' z => by cases z; exact ⟨_, h3⟩⟩
theorem made_ex {H1 : Hp} {Q : VK} (n : Same G H1) (q : ∀ v G' H', Nx G H1 G' H' → SupV C f v0 G' v → Q v H') : MadeE C f v0 H1 Q := fun d e hd he ne => by
  have n1 := Nx.new (o := .xd [(f, v0)]) n hd
  have he' : upd H1 d (.xd [(f, v0)]) e = none := (upd_ne ne).trans he
  have n2 := n1.trans (Nx.new (o := ErrO (.ref C) (some d) e) n1.gh he')
  exact q _ _ _ n2 ⟨e, d, rfl, upd_same, (upd_ne (Ne.symm ne)).trans upd_same⟩
theorem ex_sup (h : σ[i]? = some (some v0)) : EvX (tSupV C f (tCons (tVar i) tNil)) σ G (SupV C f v0) := fun H s Q q => ⟨_, h, _, rfl, made_ex s fun v G' H' n hv => q v G' H' n hv⟩
theorem ex_supK (h : σ[i]? = some (some v0)) : EvX (tSupK C f (tCons (tVar i) tNil)) σ G (SupV C f v0) := fun H s Q q => ⟨_, h, _, rfl, made_ex s fun v G' H' n hv => q v G' H' n hv⟩
theorem ex_fld (h : EvX te σ G (SupV C f v0)) : EvX (tErrFld C f te) σ G (fun _ v => v = v0) := fun H s Q q => h H s _ fun v G1 H1 n1 ⟨e, d, h1, h2, h3⟩ => ⟨e, d, v0, h1, n1.gh _ _ h2, n1.gh _ _ h3, q v0 G1 H1 n1 rfl⟩
/-- an error, and twice what it was made of -/
def ThrV (K : PySem.W.Frag) (C : Addr) (v0 : V) (G : Hp) (v : V) : Prop := ∃ (t : Addr) (w : V), v = .ref t ∧ SqT K G t [w, v0, v0] ∧ ErrV C G w
theorem thrV_mono : MonP (ThrV K C v0) := fun G G' v s ⟨t, w, e, h, hw⟩ => ⟨t, w, e, same_tup s h, errV_mono C _ _ _ s hw⟩
theorem ex_thr (h1 : EvX te σ G (SupV C f v0)) (h2 : ∀ G1, Same G G1 → EvX t2 σ G1 fun _ v => v = v0) (h3 : ∀ G1, Same G G1 → EvX t3 σ G1 fun _ v => v = v0) : EvX (tTup (tCons te (tCons t2 (tCons t3 tNil)))) σ G (ThrV K C v0) := fun H s Q q =>
  h1 H s _ fun w G1 H1 n1 hw => (h2 G1 n1.gg) H1 n1.gh _ fun x G2 H2 n2 hx => (h3 G2 (n1.gg.trans n2.gg)) H2 n2.gh _ fun y G3 H3 n3 hy => by
    subst hx hy
    refine ⟨by show 3 ≤ sizeLine; decide, fun p hp => ?_⟩
    have n4 := Nx.new (o := .tup [w, y, y]) n3.gh hp
    exact q _ _ _ (((n1.trans n2).trans n3).trans n4) ⟨p, w, rfl, SqT.of upd_same, errV_mono C _ _ _ ((n2.gg.trans n3.gg).trans n4.gg) hw.err⟩
/-- a list that grows beside the view -/
structure GroP (G H : Hp) (p : Addr) (Rs : List VP) (Gi Hc : Hp) : Prop where
  n : Nx G H Gi Hc
  g : Gi p = none
  ex : ∃ acc, Hc p = some (.lst acc) ∧ PR Gi acc Rs
theorem GroP.start {p : Addr} (s : Same G H) (hp : H p = none) : GroP G H p [] G (upd H p (.lst [])) := ⟨Nx.lay s hp, s.free hp, [], upd_same, trivial⟩
theorem GroP.add {p : Addr} {Rs : List VP} {R : VP} {Gi Hc G2 H2 : Hp} {v : V} {acc : List V} (h : GroP G H p Rs Gi Hc) (hp : H p = none) (m : ∀ R ∈ Rs, MonP R) (n : Nx Gi Hc G2 H2) (hv : R G2 v) (e : H2 p = some (.lst acc)) : GroP G H p (Rs ++ [R]) G2 (upd H2 p (.lst (acc ++ [v]))) := by
  obtain ⟨acc', e', ha⟩ := h.ex
  have e2 := n.hh _ _ e'
  rw [e] at e2
  cases e2
  have gp : G2 p = none := (n.fr p (ne_none e')).trans h.g
  have n12 := h.n.trans n
  refine ⟨⟨n12.gg, fun b u q => ?_, fun b u q => ?_, n12.fr⟩, gp, acc ++ [v], upd_same, (ha.mono n.gg m).app ⟨hv, trivial⟩⟩
  · rw [upd_ne (ne_of_none q gp)]; exact n.gh b u q
  · rw [upd_ne (ne_of_none q hp)]; exact n12.hh b u q
end
def spPl (cls : List Addr) : Sp := fun vs H Q _ => ∃ (G : Hp) (v : V), Same G H ∧ vs = [v] ∧ ∀ p xs G' H', Nx G H G' H' → G' p = some (.lst xs) → PR G' xs (cls.map ErrV) → Q (.ref p) H'
def spEo (K : PySem.W.Frag) (cls : List Addr) : Sp := fun vs H Q _ => ∃ (G : Hp) (v : V), Same G H ∧ vs = [v] ∧ ∀ p xs G' H', Nx G H G' H' → G' p = some (.lst xs) → PR G' xs (cls.map fun C => ThrV K C v) → Q (.ref p) H'
section
variable {P : Program} {w : World} {K : PySem.W.Frag} {mg : Str → Option Value} {base : Heap} {f : Addr} {fd : FuncData}
theorem ok_law_plain_errors {C_BadBack C_BadWord C_BadStep C_BadRoad C_BadFraction C_NoGroup C_BadPaper C_BadSpelling C_NotShort C_Endless C_BadChange C_BadQuestion C_BadDeed C_BadLive C_BadValue C_BadLog : Addr} (D : DefAt K mg "_law_plain_errors" s_law_plain_errors P_law_plain_errors f fd) (T : Bt mg) (e_BadBack : Err K mg "BadBack" C_BadBack) (e_BadWord : Err K mg "BadWord" C_BadWord) (e_BadStep : Err K mg "BadStep" C_BadStep) (e_BadRoad : Err K mg "BadRoad" C_BadRoad) (e_BadFraction : Err K mg "BadFraction" C_BadFraction) (e_NoGroup : Err K mg "NoGroup" C_NoGroup) (e_BadPaper : Err K mg "BadPaper" C_BadPaper) (e_BadSpelling : Err K mg "BadSpelling" C_BadSpelling) (e_NotShort : Err K mg "NotShort" C_NotShort) (e_Endless : Err K mg "Endless" C_Endless) (e_BadChange : Err K mg "BadChange" C_BadChange) (e_BadQuestion : Err K mg "BadQuestion" C_BadQuestion) (e_BadDeed : Err K mg "BadDeed" C_BadDeed) (e_BadLive : Err K mg "BadLive" C_BadLive) (e_BadValue : Err K mg "BadValue" C_BadValue) (e_BadLog : Err K mg "BadLog" C_BadLog) : Ok P w K mg base "_law_plain_errors" P_law_plain_errors 3 (spPl [C_BadBack, C_BadWord, C_BadStep, C_BadRoad, C_BadFraction, C_NoGroup, C_BadPaper, C_BadSpelling, C_NotShort, C_Endless, C_BadChange, C_BadQuestion, C_BadDeed, C_BadLive, C_BadValue, C_BadLog]) := by
  refine D.ok (D.F.ok sc_law_plain_errors (fun vs H Q E h => ?_) fun cdv A outer s H vs Q E hr h => ?_)
  · obtain ⟨G, v, _, rfl, _⟩ := h; rfl
  have S := sc_law_plain_errors
  obtain ⟨G, v, hs, rfl, q⟩ := h
  refine ⟨_, (pss_cons (ps_set (i := 1) S.nd rfl (by first | exact .inl rfl | exact .inr rfl) (pe_lst pa_nil))
  (pss_cons (ps_set (i := 1) S.nd rfl (by first | exact .inl rfl | exact .inr rfl) (pe_op op_cat (pv 1) (pe_lst (pa_cons (pe_plnV e_BadBack (pv 0) (by rfl)) (pa_cons (pe_plnV e_BadWord (pv 0) (by rfl)) (pa_cons (pe_plnV e_BadStep (pv 0) (by rfl)) (pa_cons (pe_plnV e_BadRoad (pv 0) (by rfl)) pa_nil)))))))
  (pss_cons (ps_set (i := 1) S.nd rfl (by first | exact .inl rfl | exact .inr rfl) (pe_op op_cat (pv 1) (pe_lst (pa_cons (pe_plnV e_BadFraction (pv 0) (by rfl)) (pa_cons (pe_plnV e_NoGroup (pv 0) (by rfl)) (pa_cons (pe_plnV e_BadPaper (pv 0) (by rfl)) pa_nil))))))
  (pss_cons (ps_set (i := 1) S.nd rfl (by first | exact .inl rfl | exact .inr rfl) (pe_op op_cat (pv 1) (pe_lst (pa_cons (pe_plnV e_BadSpelling (pv 0) (by rfl)) (pa_cons (pe_plnV e_NotShort (pv 0) (by rfl)) (pa_cons (pe_plnV e_Endless (pv 0) (by rfl)) pa_nil))))))
  (pss_cons (ps_set (i := 1) S.nd rfl (by first | exact .inl rfl | exact .inr rfl) (pe_op op_cat (pv 1) (pe_lst (pa_cons (pe_plnV e_BadChange (pv 0) (by rfl)) (pa_cons (pe_plnV e_BadQuestion (pv 0) (by rfl)) (pa_cons (pe_plnV e_BadDeed (pv 0) (by rfl)) (pa_cons (pe_plnV e_BadLive (pv 0) (by rfl)) pa_nil)))))))
  (pss_cons (ps_set (i := 1) S.nd rfl (by first | exact .inl rfl | exact .inr rfl) (pe_op op_cat (pv 1) (pe_lst (pa_cons (pe_plnV e_BadValue (pv 0) (by rfl)) (pa_cons (pe_plnV e_BadLog (pv 0) (by rfl)) pa_nil)))))
  (pss_one (ps_ret (pv 1))))))))), ?_⟩
  have big : 100000 ≤ sizeLine := by decide
  have mE : ∀ (l : List Addr), ∀ R ∈ l.map ErrV, MonP R := fun l R hR => by
    obtain ⟨C, _, rfl⟩ := List.mem_map.mp hR
    exact errV_mono C
  have mP : ∀ (l : List Addr), ∀ G G' xs, Same G G' → PR G xs (l.map ErrV) → PR G' xs (l.map ErrV) := fun l G G' xs s h => h.mono s (mE l)
  refine seq_letP (P := fun G' xs => PR G' xs (([] : List Addr).map ErrV)) (ep_lst eq_nil (Nat.zero_le _)) (mP []) hs fun p0 xs0 G0 H0 n0 e0 a0 => ?_
  refine seq_letP (P := fun G' xs => PR G' xs (([C_BadBack, C_BadWord, C_BadStep, C_BadRoad] : List Addr).map ErrV)) (ep_catV (i := 1) rfl e0 a0 (mE []) (ep_lst (eq_cons (errV_mono _) (ex_pln (C := C_BadBack) (ex_var (i := 0) rfl trivial)) fun _ _ => (eq_cons (errV_mono _) (ex_pln (C := C_BadWord) (ex_var (i := 0) rfl trivial)) fun _ _ => (eq_cons (errV_mono _) (ex_pln (C := C_BadStep) (ex_var (i := 0) rfl trivial)) fun _ _ => (eq_cons (errV_mono _) (ex_pln (C := C_BadRoad) (ex_var (i := 0) rfl trivial)) fun _ _ => eq_nil)))) (by show 4 ≤ sizeLine; omega)) (by show 0 + 4 ≤ sizeLine; omega)) (mP _) n0.gh fun p1 xs1 G1 H1 m1 e1 a1 => ?_
  have n1 := n0.trans m1
  refine seq_letP (P := fun G' xs => PR G' xs (([C_BadBack, C_BadWord, C_BadStep, C_BadRoad, C_BadFraction, C_NoGroup, C_BadPaper] : List Addr).map ErrV)) (ep_catV (i := 1) rfl e1 a1 (mE [C_BadBack, C_BadWord, C_BadStep, C_BadRoad]) (ep_lst (eq_cons (errV_mono _) (ex_pln (C := C_BadFraction) (ex_var (i := 0) rfl trivial)) fun _ _ => (eq_cons (errV_mono _) (ex_pln (C := C_NoGroup) (ex_var (i := 0) rfl trivial)) fun _ _ => (eq_cons (errV_mono _) (ex_pln (C := C_BadPaper) (ex_var (i := 0) rfl trivial)) fun _ _ => eq_nil))) (by show 3 ≤ sizeLine; omega)) (by show 4 + 3 ≤ sizeLine; omega)) (mP _) n1.gh fun p2 xs2 G2 H2 m2 e2 a2 => ?_
  have n2 := n1.trans m2
  refine seq_letP (P := fun G' xs => PR G' xs (([C_BadBack, C_BadWord, C_BadStep, C_BadRoad, C_BadFraction, C_NoGroup, C_BadPaper, C_BadSpelling, C_NotShort, C_Endless] : List Addr).map ErrV)) (ep_catV (i := 1) rfl e2 a2 (mE [C_BadBack, C_BadWord, C_BadStep, C_BadRoad, C_BadFraction, C_NoGroup, C_BadPaper]) (ep_lst (eq_cons (errV_mono _) (ex_pln (C := C_BadSpelling) (ex_var (i := 0) rfl trivial)) fun _ _ => (eq_cons (errV_mono _) (ex_pln (C := C_NotShort) (ex_var (i := 0) rfl trivial)) fun _ _ => (eq_cons (errV_mono _) (ex_pln (C := C_Endless) (ex_var (i := 0) rfl trivial)) fun _ _ => eq_nil))) (by show 3 ≤ sizeLine; omega)) (by show 7 + 3 ≤ sizeLine; omega)) (mP _) n2.gh fun p3 xs3 G3 H3 m3 e3 a3 => ?_
  have n3 := n2.trans m3
  refine seq_letP (P := fun G' xs => PR G' xs (([C_BadBack, C_BadWord, C_BadStep, C_BadRoad, C_BadFraction, C_NoGroup, C_BadPaper, C_BadSpelling, C_NotShort, C_Endless, C_BadChange, C_BadQuestion, C_BadDeed, C_BadLive] : List Addr).map ErrV)) (ep_catV (i := 1) rfl e3 a3 (mE [C_BadBack, C_BadWord, C_BadStep, C_BadRoad, C_BadFraction, C_NoGroup, C_BadPaper, C_BadSpelling, C_NotShort, C_Endless]) (ep_lst (eq_cons (errV_mono _) (ex_pln (C := C_BadChange) (ex_var (i := 0) rfl trivial)) fun _ _ => (eq_cons (errV_mono _) (ex_pln (C := C_BadQuestion) (ex_var (i := 0) rfl trivial)) fun _ _ => (eq_cons (errV_mono _) (ex_pln (C := C_BadDeed) (ex_var (i := 0) rfl trivial)) fun _ _ => (eq_cons (errV_mono _) (ex_pln (C := C_BadLive) (ex_var (i := 0) rfl trivial)) fun _ _ => eq_nil)))) (by show 4 ≤ sizeLine; omega)) (by show 10 + 4 ≤ sizeLine; omega)) (mP _) n3.gh fun p4 xs4 G4 H4 m4 e4 a4 => ?_
  have n4 := n3.trans m4
  refine seq_letP (P := fun G' xs => PR G' xs (([C_BadBack, C_BadWord, C_BadStep, C_BadRoad, C_BadFraction, C_NoGroup, C_BadPaper, C_BadSpelling, C_NotShort, C_Endless, C_BadChange, C_BadQuestion, C_BadDeed, C_BadLive, C_BadValue, C_BadLog] : List Addr).map ErrV)) (ep_catV (i := 1) rfl e4 a4 (mE [C_BadBack, C_BadWord, C_BadStep, C_BadRoad, C_BadFraction, C_NoGroup, C_BadPaper, C_BadSpelling, C_NotShort, C_Endless, C_BadChange, C_BadQuestion, C_BadDeed, C_BadLive]) (ep_lst (eq_cons (errV_mono _) (ex_pln (C := C_BadValue) (ex_var (i := 0) rfl trivial)) fun _ _ => (eq_cons (errV_mono _) (ex_pln (C := C_BadLog) (ex_var (i := 0) rfl trivial)) fun _ _ => eq_nil)) (by show 2 ≤ sizeLine; omega)) (by show 14 + 2 ≤ sizeLine; omega)) (mP _) n4.gh fun p5 xs5 G5 H5 m5 e5 a5 => ?_
  have n5 := n4.trans m5
  exact ⟨_, rfl, q p5 xs5 G5 H5 n5 e5 a5⟩
theorem ok_law_errors_of {C_BadNumber C_BadGroup C_BadMachine C_BadClaim C_BadSystem C_BadMap C_TooMany C_BadSteady C_BadJudged C_BadSubgroup C_BadLefts C_NotLet C_BadBytes C_BadText C_BadGiant : Addr} {fI_BadNumber fI_BadGroup fI_BadMachine fI_BadClaim fI_BadSystem fI_BadMap fI_TooMany fI_BadSteady fI_BadJudged fI_BadSubgroup fI_BadLefts fI_NotLet fI_BadBytes fI_BadText fI_BadGiant : Addr} (D : DefAt K mg "_law_errors_of" s_law_errors_of P_law_errors_of f fd) (T : Bt mg) (t_BadNumber : PySem.SupX.SupTxt P K mg "BadNumber" "part" C_BadNumber fI_BadNumber) (t_BadGroup : PySem.SupX.SupTxt P K mg "BadGroup" "part" C_BadGroup fI_BadGroup) (t_BadMachine : PySem.SupX.SupTxt P K mg "BadMachine" "part" C_BadMachine fI_BadMachine) (t_BadClaim : PySem.SupX.SupTxt P K mg "BadClaim" "part" C_BadClaim fI_BadClaim) (t_BadSystem : PySem.SupX.SupTxt P K mg "BadSystem" "part" C_BadSystem fI_BadSystem) (t_BadMap : PySem.SupX.SupTxt P K mg "BadMap" "part" C_BadMap fI_BadMap) (t_TooMany : PySem.SupX.SupTxt P K mg "TooMany" "most" C_TooMany fI_TooMany) (t_BadSteady : PySem.SupX.SupTxt P K mg "BadSteady" "fault" C_BadSteady fI_BadSteady) (t_BadJudged : PySem.SupX.SupTxt P K mg "BadJudged" "part" C_BadJudged fI_BadJudged) (t_BadSubgroup : PySem.SupX.SupTxt P K mg "BadSubgroup" "part" C_BadSubgroup fI_BadSubgroup) (t_BadLefts : PySem.SupX.SupTxt P K mg "BadLefts" "place" C_BadLefts fI_BadLefts) (t_NotLet : PySem.SupX.SupTxt P K mg "NotLet" "why" C_NotLet fI_NotLet) (t_BadBytes : PySem.SupX.SupTxt P K mg "BadBytes" "place" C_BadBytes fI_BadBytes) (t_BadText : PySem.SupX.SupTxt P K mg "BadText" "at" C_BadText fI_BadText) (t_BadGiant : PySem.SupX.SupTxt P K mg "BadGiant" "part" C_BadGiant fI_BadGiant) : Ok P w K mg base "_law_errors_of" P_law_errors_of 3 (spEo K [C_BadNumber, C_BadGroup, C_BadMachine, C_BadClaim, C_BadSystem, C_BadMap, C_TooMany, C_BadSteady, C_BadJudged, C_BadSubgroup, C_BadLefts, C_NotLet, C_BadBytes, C_BadText, C_BadGiant]) := by
  refine D.ok (D.F.ok sc_law_errors_of (fun vs H Q E h => ?_) fun cdv A outer s H vs Q E hr h => ?_)
  · obtain ⟨G, v, _, rfl, _⟩ := h; rfl
  have S := sc_law_errors_of
  obtain ⟨G, v, hs, rfl, q⟩ := h
  refine ⟨_, (pss_cons (ps_set (i := 1) S.nd rfl (by first | exact .inl rfl | exact .inr rfl) (pe_lst pa_nil))
  (pss_cons (ps_expr (pe_bm PySem.F.plainAttrs_list PySem.F.slot_list_append PySem.F.type_list_append mt_append (pv 1) (pa_cons (pe_tup (pa_cons (pe_supV t_BadNumber hr (pa_cons (pv 0) pa_nil) (by rfl)) (pa_cons (pe_errFld t_BadNumber (pe_supV t_BadNumber hr (pa_cons (pv 0) pa_nil) (by rfl))) (pa_cons (pe_errFld t_BadNumber (pe_supK t_BadNumber PySem.SupX.kw_part hr (by rfl) (pk_cons (pv 0) pk_nil))) pa_nil)))) pa_nil)))
  (pss_cons (ps_expr (pe_bm PySem.F.plainAttrs_list PySem.F.slot_list_append PySem.F.type_list_append mt_append (pv 1) (pa_cons (pe_tup (pa_cons (pe_supV t_BadGroup hr (pa_cons (pv 0) pa_nil) (by rfl)) (pa_cons (pe_errFld t_BadGroup (pe_supV t_BadGroup hr (pa_cons (pv 0) pa_nil) (by rfl))) (pa_cons (pe_errFld t_BadGroup (pe_supK t_BadGroup PySem.SupX.kw_part hr (by rfl) (pk_cons (pv 0) pk_nil))) pa_nil)))) pa_nil)))
  (pss_cons (ps_expr (pe_bm PySem.F.plainAttrs_list PySem.F.slot_list_append PySem.F.type_list_append mt_append (pv 1) (pa_cons (pe_tup (pa_cons (pe_supV t_BadMachine hr (pa_cons (pv 0) pa_nil) (by rfl)) (pa_cons (pe_errFld t_BadMachine (pe_supV t_BadMachine hr (pa_cons (pv 0) pa_nil) (by rfl))) (pa_cons (pe_errFld t_BadMachine (pe_supK t_BadMachine PySem.SupX.kw_part hr (by rfl) (pk_cons (pv 0) pk_nil))) pa_nil)))) pa_nil)))
  (pss_cons (ps_expr (pe_bm PySem.F.plainAttrs_list PySem.F.slot_list_append PySem.F.type_list_append mt_append (pv 1) (pa_cons (pe_tup (pa_cons (pe_supV t_BadClaim hr (pa_cons (pv 0) pa_nil) (by rfl)) (pa_cons (pe_errFld t_BadClaim (pe_supV t_BadClaim hr (pa_cons (pv 0) pa_nil) (by rfl))) (pa_cons (pe_errFld t_BadClaim (pe_supK t_BadClaim PySem.SupX.kw_part hr (by rfl) (pk_cons (pv 0) pk_nil))) pa_nil)))) pa_nil)))
  (pss_cons (ps_expr (pe_bm PySem.F.plainAttrs_list PySem.F.slot_list_append PySem.F.type_list_append mt_append (pv 1) (pa_cons (pe_tup (pa_cons (pe_supV t_BadSystem hr (pa_cons (pv 0) pa_nil) (by rfl)) (pa_cons (pe_errFld t_BadSystem (pe_supV t_BadSystem hr (pa_cons (pv 0) pa_nil) (by rfl))) (pa_cons (pe_errFld t_BadSystem (pe_supK t_BadSystem PySem.SupX.kw_part hr (by rfl) (pk_cons (pv 0) pk_nil))) pa_nil)))) pa_nil)))
  (pss_cons (ps_expr (pe_bm PySem.F.plainAttrs_list PySem.F.slot_list_append PySem.F.type_list_append mt_append (pv 1) (pa_cons (pe_tup (pa_cons (pe_supV t_BadMap hr (pa_cons (pv 0) pa_nil) (by rfl)) (pa_cons (pe_errFld t_BadMap (pe_supV t_BadMap hr (pa_cons (pv 0) pa_nil) (by rfl))) (pa_cons (pe_errFld t_BadMap (pe_supK t_BadMap PySem.SupX.kw_part hr (by rfl) (pk_cons (pv 0) pk_nil))) pa_nil)))) pa_nil)))
  (pss_cons (ps_expr (pe_bm PySem.F.plainAttrs_list PySem.F.slot_list_append PySem.F.type_list_append mt_append (pv 1) (pa_cons (pe_tup (pa_cons (pe_supV t_TooMany hr (pa_cons (pv 0) pa_nil) (by rfl)) (pa_cons (pe_errFld t_TooMany (pe_supV t_TooMany hr (pa_cons (pv 0) pa_nil) (by rfl))) (pa_cons (pe_errFld t_TooMany (pe_supK t_TooMany PySem.SupX.kw_most hr (by rfl) (pk_cons (pv 0) pk_nil))) pa_nil)))) pa_nil)))
  (pss_cons (ps_expr (pe_bm PySem.F.plainAttrs_list PySem.F.slot_list_append PySem.F.type_list_append mt_append (pv 1) (pa_cons (pe_tup (pa_cons (pe_supV t_BadSteady hr (pa_cons (pv 0) pa_nil) (by rfl)) (pa_cons (pe_errFld t_BadSteady (pe_supV t_BadSteady hr (pa_cons (pv 0) pa_nil) (by rfl))) (pa_cons (pe_errFld t_BadSteady (pe_supK t_BadSteady PySem.SupX.kw_fault hr (by rfl) (pk_cons (pv 0) pk_nil))) pa_nil)))) pa_nil)))
  (pss_cons (ps_expr (pe_bm PySem.F.plainAttrs_list PySem.F.slot_list_append PySem.F.type_list_append mt_append (pv 1) (pa_cons (pe_tup (pa_cons (pe_supV t_BadJudged hr (pa_cons (pv 0) pa_nil) (by rfl)) (pa_cons (pe_errFld t_BadJudged (pe_supV t_BadJudged hr (pa_cons (pv 0) pa_nil) (by rfl))) (pa_cons (pe_errFld t_BadJudged (pe_supK t_BadJudged PySem.SupX.kw_part hr (by rfl) (pk_cons (pv 0) pk_nil))) pa_nil)))) pa_nil)))
  (pss_cons (ps_expr (pe_bm PySem.F.plainAttrs_list PySem.F.slot_list_append PySem.F.type_list_append mt_append (pv 1) (pa_cons (pe_tup (pa_cons (pe_supV t_BadSubgroup hr (pa_cons (pv 0) pa_nil) (by rfl)) (pa_cons (pe_errFld t_BadSubgroup (pe_supV t_BadSubgroup hr (pa_cons (pv 0) pa_nil) (by rfl))) (pa_cons (pe_errFld t_BadSubgroup (pe_supK t_BadSubgroup PySem.SupX.kw_part hr (by rfl) (pk_cons (pv 0) pk_nil))) pa_nil)))) pa_nil)))
  (pss_cons (ps_expr (pe_bm PySem.F.plainAttrs_list PySem.F.slot_list_append PySem.F.type_list_append mt_append (pv 1) (pa_cons (pe_tup (pa_cons (pe_supV t_BadLefts hr (pa_cons (pv 0) pa_nil) (by rfl)) (pa_cons (pe_errFld t_BadLefts (pe_supV t_BadLefts hr (pa_cons (pv 0) pa_nil) (by rfl))) (pa_cons (pe_errFld t_BadLefts (pe_supK t_BadLefts PySem.SupX.kw_place hr (by rfl) (pk_cons (pv 0) pk_nil))) pa_nil)))) pa_nil)))
  (pss_cons (ps_expr (pe_bm PySem.F.plainAttrs_list PySem.F.slot_list_append PySem.F.type_list_append mt_append (pv 1) (pa_cons (pe_tup (pa_cons (pe_supV t_NotLet hr (pa_cons (pv 0) pa_nil) (by rfl)) (pa_cons (pe_errFld t_NotLet (pe_supV t_NotLet hr (pa_cons (pv 0) pa_nil) (by rfl))) (pa_cons (pe_errFld t_NotLet (pe_supK t_NotLet PySem.SupX.kw_why hr (by rfl) (pk_cons (pv 0) pk_nil))) pa_nil)))) pa_nil)))
  (pss_cons (ps_expr (pe_bm PySem.F.plainAttrs_list PySem.F.slot_list_append PySem.F.type_list_append mt_append (pv 1) (pa_cons (pe_tup (pa_cons (pe_supV t_BadBytes hr (pa_cons (pv 0) pa_nil) (by rfl)) (pa_cons (pe_errFld t_BadBytes (pe_supV t_BadBytes hr (pa_cons (pv 0) pa_nil) (by rfl))) (pa_cons (pe_errFld t_BadBytes (pe_supK t_BadBytes PySem.SupX.kw_place hr (by rfl) (pk_cons (pv 0) pk_nil))) pa_nil)))) pa_nil)))
  (pss_cons (ps_expr (pe_bm PySem.F.plainAttrs_list PySem.F.slot_list_append PySem.F.type_list_append mt_append (pv 1) (pa_cons (pe_tup (pa_cons (pe_supV t_BadText hr (pa_cons (pv 0) pa_nil) (by rfl)) (pa_cons (pe_errFld t_BadText (pe_supV t_BadText hr (pa_cons (pv 0) pa_nil) (by rfl))) (pa_cons (pe_errFld t_BadText (pe_supK t_BadText PySem.SupX.kw_at hr (by rfl) (pk_cons (pv 0) pk_nil))) pa_nil)))) pa_nil)))
  (pss_cons (ps_expr (pe_bm PySem.F.plainAttrs_list PySem.F.slot_list_append PySem.F.type_list_append mt_append (pv 1) (pa_cons (pe_tup (pa_cons (pe_supV t_BadGiant hr (pa_cons (pv 0) pa_nil) (by rfl)) (pa_cons (pe_errFld t_BadGiant (pe_supV t_BadGiant hr (pa_cons (pv 0) pa_nil) (by rfl))) (pa_cons (pe_errFld t_BadGiant (pe_supK t_BadGiant PySem.SupX.kw_part hr (by rfl) (pk_cons (pv 0) pk_nil))) pa_nil)))) pa_nil)))
  (pss_one (ps_ret (pv 1))))))))))))))))))), ?_⟩
  have big : 100000 ≤ sizeLine := by decide
  have mE : ∀ (l : List Addr), ∀ R ∈ l.map (fun C => ThrV K C v), MonP R := fun l R hR => by
    obtain ⟨C, _, rfl⟩ := List.mem_map.mp hR
    exact thrV_mono
  refine ⟨Nat.zero_le _, fun p hp => ?_⟩
  have g0 := GroP.start hs hp
  dsimp only [gName]
  obtain ⟨acc0, ea0, ha0⟩ := id g0.ex
  refine ⟨_, rfl, .inl ⟨rfl, _, SqL.of ea0⟩, (ex_thr (K := K) (G := G) (C := C_BadNumber) (f := "part") (v0 := v) (ex_sup (i := 0) rfl) (fun _ _ => ex_fld (ex_sup (i := 0) rfl)) fun _ _ => ex_fld (ex_supK (i := 0) rfl)) _ g0.n.gh _ fun v1 G1 H1 n1 hv1 => ⟨p, _, v1, rfl, rfl, n1.hh _ _ ea0, ?_, ?_⟩⟩
  · rw [ha0.len]; show 0 < sizeLine; omega
  have g1 := g0.add hp (mE []) n1 hv1 (n1.hh _ _ ea0)
  obtain ⟨acc1, ea1, ha1⟩ := id g1.ex
  refine ⟨_, rfl, .inl ⟨rfl, _, SqL.of ea1⟩, (ex_thr (K := K) (G := G1) (C := C_BadGroup) (f := "part") (v0 := v) (ex_sup (i := 0) rfl) (fun _ _ => ex_fld (ex_sup (i := 0) rfl)) fun _ _ => ex_fld (ex_supK (i := 0) rfl)) _ g1.n.gh _ fun v2 G2 H2 n2 hv2 => ⟨p, _, v2, rfl, rfl, n2.hh _ _ ea1, ?_, ?_⟩⟩
  · rw [ha1.len]; show 1 < sizeLine; omega
  have g2 := g1.add hp (mE [C_BadNumber]) n2 hv2 (n2.hh _ _ ea1)
  obtain ⟨acc2, ea2, ha2⟩ := id g2.ex
  refine ⟨_, rfl, .inl ⟨rfl, _, SqL.of ea2⟩, (ex_thr (K := K) (G := G2) (C := C_BadMachine) (f := "part") (v0 := v) (ex_sup (i := 0) rfl) (fun _ _ => ex_fld (ex_sup (i := 0) rfl)) fun _ _ => ex_fld (ex_supK (i := 0) rfl)) _ g2.n.gh _ fun v3 G3 H3 n3 hv3 => ⟨p, _, v3, rfl, rfl, n3.hh _ _ ea2, ?_, ?_⟩⟩
  · rw [ha2.len]; show 2 < sizeLine; omega
  have g3 := g2.add hp (mE [C_BadNumber, C_BadGroup]) n3 hv3 (n3.hh _ _ ea2)
  obtain ⟨acc3, ea3, ha3⟩ := id g3.ex
  refine ⟨_, rfl, .inl ⟨rfl, _, SqL.of ea3⟩, (ex_thr (K := K) (G := G3) (C := C_BadClaim) (f := "part") (v0 := v) (ex_sup (i := 0) rfl) (fun _ _ => ex_fld (ex_sup (i := 0) rfl)) fun _ _ => ex_fld (ex_supK (i := 0) rfl)) _ g3.n.gh _ fun v4 G4 H4 n4 hv4 => ⟨p, _, v4, rfl, rfl, n4.hh _ _ ea3, ?_, ?_⟩⟩
  · rw [ha3.len]; show 3 < sizeLine; omega
  have g4 := g3.add hp (mE [C_BadNumber, C_BadGroup, C_BadMachine]) n4 hv4 (n4.hh _ _ ea3)
  obtain ⟨acc4, ea4, ha4⟩ := id g4.ex
  refine ⟨_, rfl, .inl ⟨rfl, _, SqL.of ea4⟩, (ex_thr (K := K) (G := G4) (C := C_BadSystem) (f := "part") (v0 := v) (ex_sup (i := 0) rfl) (fun _ _ => ex_fld (ex_sup (i := 0) rfl)) fun _ _ => ex_fld (ex_supK (i := 0) rfl)) _ g4.n.gh _ fun v5 G5 H5 n5 hv5 => ⟨p, _, v5, rfl, rfl, n5.hh _ _ ea4, ?_, ?_⟩⟩
  · rw [ha4.len]; show 4 < sizeLine; omega
  have g5 := g4.add hp (mE [C_BadNumber, C_BadGroup, C_BadMachine, C_BadClaim]) n5 hv5 (n5.hh _ _ ea4)
  obtain ⟨acc5, ea5, ha5⟩ := id g5.ex
  refine ⟨_, rfl, .inl ⟨rfl, _, SqL.of ea5⟩, (ex_thr (K := K) (G := G5) (C := C_BadMap) (f := "part") (v0 := v) (ex_sup (i := 0) rfl) (fun _ _ => ex_fld (ex_sup (i := 0) rfl)) fun _ _ => ex_fld (ex_supK (i := 0) rfl)) _ g5.n.gh _ fun v6 G6 H6 n6 hv6 => ⟨p, _, v6, rfl, rfl, n6.hh _ _ ea5, ?_, ?_⟩⟩
  · rw [ha5.len]; show 5 < sizeLine; omega
  have g6 := g5.add hp (mE [C_BadNumber, C_BadGroup, C_BadMachine, C_BadClaim, C_BadSystem]) n6 hv6 (n6.hh _ _ ea5)
  obtain ⟨acc6, ea6, ha6⟩ := id g6.ex
  refine ⟨_, rfl, .inl ⟨rfl, _, SqL.of ea6⟩, (ex_thr (K := K) (G := G6) (C := C_TooMany) (f := "most") (v0 := v) (ex_sup (i := 0) rfl) (fun _ _ => ex_fld (ex_sup (i := 0) rfl)) fun _ _ => ex_fld (ex_supK (i := 0) rfl)) _ g6.n.gh _ fun v7 G7 H7 n7 hv7 => ⟨p, _, v7, rfl, rfl, n7.hh _ _ ea6, ?_, ?_⟩⟩
  · rw [ha6.len]; show 6 < sizeLine; omega
  have g7 := g6.add hp (mE [C_BadNumber, C_BadGroup, C_BadMachine, C_BadClaim, C_BadSystem, C_BadMap]) n7 hv7 (n7.hh _ _ ea6)
  obtain ⟨acc7, ea7, ha7⟩ := id g7.ex
  refine ⟨_, rfl, .inl ⟨rfl, _, SqL.of ea7⟩, (ex_thr (K := K) (G := G7) (C := C_BadSteady) (f := "fault") (v0 := v) (ex_sup (i := 0) rfl) (fun _ _ => ex_fld (ex_sup (i := 0) rfl)) fun _ _ => ex_fld (ex_supK (i := 0) rfl)) _ g7.n.gh _ fun v8 G8 H8 n8 hv8 => ⟨p, _, v8, rfl, rfl, n8.hh _ _ ea7, ?_, ?_⟩⟩
  · rw [ha7.len]; show 7 < sizeLine; omega
  have g8 := g7.add hp (mE [C_BadNumber, C_BadGroup, C_BadMachine, C_BadClaim, C_BadSystem, C_BadMap, C_TooMany]) n8 hv8 (n8.hh _ _ ea7)
  obtain ⟨acc8, ea8, ha8⟩ := id g8.ex
  refine ⟨_, rfl, .inl ⟨rfl, _, SqL.of ea8⟩, (ex_thr (K := K) (G := G8) (C := C_BadJudged) (f := "part") (v0 := v) (ex_sup (i := 0) rfl) (fun _ _ => ex_fld (ex_sup (i := 0) rfl)) fun _ _ => ex_fld (ex_supK (i := 0) rfl)) _ g8.n.gh _ fun v9 G9 H9 n9 hv9 => ⟨p, _, v9, rfl, rfl, n9.hh _ _ ea8, ?_, ?_⟩⟩
  · rw [ha8.len]; show 8 < sizeLine; omega
  have g9 := g8.add hp (mE [C_BadNumber, C_BadGroup, C_BadMachine, C_BadClaim, C_BadSystem, C_BadMap, C_TooMany, C_BadSteady]) n9 hv9 (n9.hh _ _ ea8)
  obtain ⟨acc9, ea9, ha9⟩ := id g9.ex
  refine ⟨_, rfl, .inl ⟨rfl, _, SqL.of ea9⟩, (ex_thr (K := K) (G := G9) (C := C_BadSubgroup) (f := "part") (v0 := v) (ex_sup (i := 0) rfl) (fun _ _ => ex_fld (ex_sup (i := 0) rfl)) fun _ _ => ex_fld (ex_supK (i := 0) rfl)) _ g9.n.gh _ fun v10 G10 H10 n10 hv10 => ⟨p, _, v10, rfl, rfl, n10.hh _ _ ea9, ?_, ?_⟩⟩
  · rw [ha9.len]; show 9 < sizeLine; omega
  have g10 := g9.add hp (mE [C_BadNumber, C_BadGroup, C_BadMachine, C_BadClaim, C_BadSystem, C_BadMap, C_TooMany, C_BadSteady, C_BadJudged]) n10 hv10 (n10.hh _ _ ea9)
  obtain ⟨acc10, ea10, ha10⟩ := id g10.ex
  refine ⟨_, rfl, .inl ⟨rfl, _, SqL.of ea10⟩, (ex_thr (K := K) (G := G10) (C := C_BadLefts) (f := "place") (v0 := v) (ex_sup (i := 0) rfl) (fun _ _ => ex_fld (ex_sup (i := 0) rfl)) fun _ _ => ex_fld (ex_supK (i := 0) rfl)) _ g10.n.gh _ fun v11 G11 H11 n11 hv11 => ⟨p, _, v11, rfl, rfl, n11.hh _ _ ea10, ?_, ?_⟩⟩
  · rw [ha10.len]; show 10 < sizeLine; omega
  have g11 := g10.add hp (mE [C_BadNumber, C_BadGroup, C_BadMachine, C_BadClaim, C_BadSystem, C_BadMap, C_TooMany, C_BadSteady, C_BadJudged, C_BadSubgroup]) n11 hv11 (n11.hh _ _ ea10)
  obtain ⟨acc11, ea11, ha11⟩ := id g11.ex
  refine ⟨_, rfl, .inl ⟨rfl, _, SqL.of ea11⟩, (ex_thr (K := K) (G := G11) (C := C_NotLet) (f := "why") (v0 := v) (ex_sup (i := 0) rfl) (fun _ _ => ex_fld (ex_sup (i := 0) rfl)) fun _ _ => ex_fld (ex_supK (i := 0) rfl)) _ g11.n.gh _ fun v12 G12 H12 n12 hv12 => ⟨p, _, v12, rfl, rfl, n12.hh _ _ ea11, ?_, ?_⟩⟩
  · rw [ha11.len]; show 11 < sizeLine; omega
  have g12 := g11.add hp (mE [C_BadNumber, C_BadGroup, C_BadMachine, C_BadClaim, C_BadSystem, C_BadMap, C_TooMany, C_BadSteady, C_BadJudged, C_BadSubgroup, C_BadLefts]) n12 hv12 (n12.hh _ _ ea11)
  obtain ⟨acc12, ea12, ha12⟩ := id g12.ex
  refine ⟨_, rfl, .inl ⟨rfl, _, SqL.of ea12⟩, (ex_thr (K := K) (G := G12) (C := C_BadBytes) (f := "place") (v0 := v) (ex_sup (i := 0) rfl) (fun _ _ => ex_fld (ex_sup (i := 0) rfl)) fun _ _ => ex_fld (ex_supK (i := 0) rfl)) _ g12.n.gh _ fun v13 G13 H13 n13 hv13 => ⟨p, _, v13, rfl, rfl, n13.hh _ _ ea12, ?_, ?_⟩⟩
  · rw [ha12.len]; show 12 < sizeLine; omega
  have g13 := g12.add hp (mE [C_BadNumber, C_BadGroup, C_BadMachine, C_BadClaim, C_BadSystem, C_BadMap, C_TooMany, C_BadSteady, C_BadJudged, C_BadSubgroup, C_BadLefts, C_NotLet]) n13 hv13 (n13.hh _ _ ea12)
  obtain ⟨acc13, ea13, ha13⟩ := id g13.ex
  refine ⟨_, rfl, .inl ⟨rfl, _, SqL.of ea13⟩, (ex_thr (K := K) (G := G13) (C := C_BadText) (f := "at") (v0 := v) (ex_sup (i := 0) rfl) (fun _ _ => ex_fld (ex_sup (i := 0) rfl)) fun _ _ => ex_fld (ex_supK (i := 0) rfl)) _ g13.n.gh _ fun v14 G14 H14 n14 hv14 => ⟨p, _, v14, rfl, rfl, n14.hh _ _ ea13, ?_, ?_⟩⟩
  · rw [ha13.len]; show 13 < sizeLine; omega
  have g14 := g13.add hp (mE [C_BadNumber, C_BadGroup, C_BadMachine, C_BadClaim, C_BadSystem, C_BadMap, C_TooMany, C_BadSteady, C_BadJudged, C_BadSubgroup, C_BadLefts, C_NotLet, C_BadBytes]) n14 hv14 (n14.hh _ _ ea13)
  obtain ⟨acc14, ea14, ha14⟩ := id g14.ex
  refine ⟨_, rfl, .inl ⟨rfl, _, SqL.of ea14⟩, (ex_thr (K := K) (G := G14) (C := C_BadGiant) (f := "part") (v0 := v) (ex_sup (i := 0) rfl) (fun _ _ => ex_fld (ex_sup (i := 0) rfl)) fun _ _ => ex_fld (ex_supK (i := 0) rfl)) _ g14.n.gh _ fun v15 G15 H15 n15 hv15 => ⟨p, _, v15, rfl, rfl, n15.hh _ _ ea14, ?_, ?_⟩⟩
  · rw [ha14.len]; show 14 < sizeLine; omega
  have g15 := g14.add hp (mE [C_BadNumber, C_BadGroup, C_BadMachine, C_BadClaim, C_BadSystem, C_BadMap, C_TooMany, C_BadSteady, C_BadJudged, C_BadSubgroup, C_BadLefts, C_NotLet, C_BadBytes, C_BadText]) n15 hv15 (n15.hh _ _ ea14)
  obtain ⟨acc15, ea15, ha15⟩ := id g15.ex
  obtain ⟨m, gi⟩ := g15.n.tell hp g15.g ea15
  exact ⟨_, rfl, q p acc15 _ _ m upd_same (ha15.mono gi (mE [C_BadNumber, C_BadGroup, C_BadMachine, C_BadClaim, C_BadSystem, C_BadMap, C_TooMany, C_BadSteady, C_BadJudged, C_BadSubgroup, C_BadLefts, C_NotLet, C_BadBytes, C_BadText, C_BadGiant]))⟩
end
end Gw
namespace Gw
open PySem PySem.Spec PyProof.Rows L2 LamX
/-! ### moves of a view that stands beside a draw -/
structure Mv (K : PySem.W.Frag) (TQ : List (Addr × Str)) (d l c : Addr) (G H G' H' : Hp) : Prop where
  vw : Vw G' H' d l c
  tb : Tabs TQ H'
  dp : ∀ {v : V} {x : PyData}, Dp K G v x → Dp K G' v x
  is : ∀ {a C dx : Addr} {fs : List (Str × V)}, G a = some (.ins C dx fs) → G' a = some (.ins C dx fs)
  ls : ∀ {p : Addr} {xs : List V}, H p = some (.lst xs) → p ≠ d → p ≠ l → H' p = some (.lst xs)
  no : ∀ {p : Addr} {xs : List V}, H p = some (.lst xs) → p ≠ d → p ≠ l → G p = none → G' p = none
  lv : ∀ {p : Addr} {o : HO}, (∀ ps, o ≠ .tbl ps) → G p = some o → G' p = some o
section
variable {K : PySem.W.Frag} {TQ : List (Addr × Str)} {d l c : Addr} {G H G1 H1 G2 H2 : Hp}
theorem Mv.refl (v : Vw G H d l c) (t : Tabs TQ H) : Mv K TQ d l c G H G H := ⟨v, t, fun h => h, fun h => h, fun h _ _ => h, fun _ _ _ h => h, fun _ h => h⟩
theorem Mv.trans (a : Mv K TQ d l c G H G1 H1) (b : Mv K TQ d l c G1 H1 G2 H2) : Mv K TQ d l c G H G2 H2 :=
  ⟨b.vw, b.tb, fun h => b.dp (a.dp h), fun h => b.is (a.is h), fun h p q => b.ls (a.ls h p q) p q, fun h p q g => b.no (a.ls h p q) p q (a.no h p q g), fun n h => b.lv n (a.lv n h)⟩
theorem Mv.nx (v : Vw G H d l c) (t : Tabs TQ H) (n : Nx G H G1 H1) : Mv K TQ d l c G H G1 H1 :=
  have w := Nw.of v n
  ⟨w.vw, tabs_same t n.hh, fun h => dp_mono n.gg _ h, fun h => n.gg _ _ h, fun h _ _ => n.hh _ _ h, fun h _ _ g => (n.fr _ (ne_none h)).trans g, fun _ h => n.gg _ _ h⟩
theorem Mv.nw (v : Vw G H d l c) (t : Tabs TQ H) (n : Nw d l c G H G1 H1) : Mv K TQ d l c G H G1 H1 :=
  ⟨n.vw, tabs_nd t n.nd v.dr, fun h => dp_mono n.gg _ h, fun h => n.gg _ _ h, fun h p q => n.nd.hh _ _ p q h, fun h _ _ g => (n.fr _ (ne_none h)).trans g, fun _ h => n.gg _ _ h⟩
theorem Mv.nd (v : Vw G H d l c) (t : Tabs TQ H) (n : Nd d l H H1) (D : Drw H1 d l c) : Mv K TQ d l c G H G H1 := Mv.nw v t (Nw.draw v n D)
theorem Mv.same (v : Vw G H d l c) (t : Tabs TQ H) (s : Same H H1) : Mv K TQ d l c G H G H1 := Mv.nw v t (Nw.draw v (Nd.of s) (v.dr.same s))
/-- a lambda's table was laid -/
theorem Mv.ext (v : Vw G H d l c) (e : ExtN H H1) (t : Tabs TQ H1) : Mv K TQ d l c G H (noT G) H1 :=
  ⟨⟨noT_ext (noT_same.trans v.gh) e, noT_none v.gd, noT_none v.gl, noT_none v.gc, by
      obtain ⟨r, t, ls, cs, h1, h2, h3, h4, h5⟩ := v.dr.at'
      exact ⟨v.dr.ne, r, t, ls, cs, e _ _ h1 (fun _ z => nomatch z), e _ _ h2 (fun _ z => nomatch z), e _ _ h3 (fun _ z => nomatch z), h4, h5⟩⟩, t, (fun h => dp_noT _ h), (fun h => noT_of h (fun _ z => nomatch z)), (fun h _ _ => e _ _ h (fun _ z => nomatch z)), (fun _ _ _ g => noT_none g), (fun n h => noT_of h n)⟩
/-- a list of this heap comes into the view -/
theorem Mv.tell {p : Addr} {xs : List V} (v : Vw G H d l c) (t : Tabs TQ H) (g : G p = none) (h : H p = some (.lst xs)) (h1 : p ≠ d) (h2 : p ≠ l) (h3 : p ≠ c) : Vw (upd G p (.lst xs)) H d l c ∧ Same G (upd G p (.lst xs)) := by
  have gi : Same G (upd G p (.lst xs)) := fun b u q => by rw [upd_ne (ne_of_none q g)]; exact q
  refine ⟨⟨fun b u q => ?_, (upd_ne (Ne.symm h1)).trans v.gd, (upd_ne (Ne.symm h2)).trans v.gl, (upd_ne (Ne.symm h3)).trans v.gc, v.dr⟩, gi⟩
  by_cases hq : b = p
  · subst hq; rw [upd_same] at q; rw [h]; exact q
  · rw [upd_ne hq] at q; exact v.gh b u q
/-- a list that grows or is changed, beside the view -/
structure Gr (K : PySem.W.Frag) (d l c : Addr) (G H : Hp) (p : Addr) (ds : List PyData) : Prop where
  g : G p = none
  nd : p ≠ d
  nl : p ≠ l
  nc : p ≠ c
  ex : ∃ acc, H p = some (.lst acc) ∧ DpAll K G acc ds
theorem dpa_by {G G1 : Hp} (h : ∀ {v : V} {x : PyData}, Dp K G v x → Dp K G1 v x) : ∀ {vs : List V} {ds : List PyData}, DpAll K G vs ds → DpAll K G1 vs ds
  | _, _, .nil => .nil
  | _, _, .cons a t => .cons (h a) (dpa_by h t)
theorem Gr.mv {p : Addr} {ds : List PyData} (r : Gr K d l c G H p ds) (m : Mv K TQ d l c G H G1 H1) : Gr K d l c G1 H1 p ds := by
  obtain ⟨acc, e, ha⟩ := r.ex
  exact ⟨m.no e r.nd r.nl r.g, r.nd, r.nl, r.nc, acc, m.ls e r.nd r.nl, dpa_by m.dp ha⟩
theorem Gr.start {p : Addr} (v : Vw G H d l c) (hp : H p = none) : Gr K d l c G (upd H p (.lst [])) p [] ∧ Vw G (upd H p (.lst [])) d l c ∧ Same H (upd H p (.lst [])) := by
  have s : Same H (upd H p (.lst [])) := same_upd hp
  obtain ⟨h1, h2, h3⟩ := v.dr.off hp
  exact ⟨⟨v.gh.free hp, h1, h2, h3, [], upd_same, .nil⟩, ⟨v.gh.trans s, v.gd, v.gl, v.gc, v.dr.same s⟩, s⟩
theorem tabs_updM {T : List (Addr × Str)} {p : Addr} {ys : List V} {o : HO} (t : Tabs T H) (hp : H p = some (.lst ys)) : Tabs T (upd H p o) := fun q hq => by
  obtain ⟨ps, h1, h2, h3⟩ := t q hq
  refine ⟨ps, (upd_ne (fun z => by rw [z, hp] at h1; cases h1)).trans h1, h2, fun pos cv hc => ?_⟩
  obtain ⟨c0, e1, e2⟩ := h3 pos cv hc
  exact ⟨c0, e1, (upd_ne (fun z => by rw [z, hp] at e2; cases e2)).trans e2⟩
/-- the list is written anew -/
theorem Gr.put {p : Addr} {ds es : List PyData} {xs : List V} (r : Gr K d l c G H p ds) (v : Vw G H d l c) (t : Tabs TQ H) (ha : DpAll K G xs es) : Gr K d l c G (upd H p (.lst xs)) p es ∧ Mv K TQ d l c G H G H ∧ Vw G (upd H p (.lst xs)) d l c ∧ Tabs TQ (upd H p (.lst xs)) := by
  obtain ⟨acc, e, _⟩ := r.ex
  refine ⟨⟨r.g, r.nd, r.nl, r.nc, xs, upd_same, ha⟩, Mv.refl v t, ⟨fun b u q => ?_, v.gd, v.gl, v.gc, v.dr.upd r.nd r.nl r.nc⟩, tabs_updM t e⟩
  rw [upd_ne (ne_of_none q r.g)]
  exact v.gh b u q
/-- a deed upon the draw that lays a tuple, too -/
theorem Nw.tup {p : Addr} {xs : List V} {H' : Hp} (v : Vw G H d l c) (n : Nd d l H H') (D : Drw H' d l c) (h0 : H p = none) (h : H' p = some (.tup xs)) : Nw d l c G H (upd G p (.tup xs)) H' := by
  have g := v.gh.free h0
  obtain ⟨h1, h2, h3⟩ := v.dr.off h0
  refine ⟨fun b u q => by rw [upd_ne (ne_of_none q g)]; exact q, ⟨fun b u q => ?_, (upd_ne (Ne.symm h1)).trans v.gd, (upd_ne (Ne.symm h2)).trans v.gl, (upd_ne (Ne.symm h3)).trans v.gc, D⟩, n, fun b hb => upd_ne fun z => hb (by rw [z]; exact h0)⟩
  by_cases hq : b = p
  · subst hq; rw [upd_same] at q; rw [← Option.some.inj q]; exact h
  · rw [upd_ne hq] at q
    exact n.hh b u (fun z => by rw [z, v.gd] at q; cases q) (fun z => by rw [z, v.gl] at q; cases q) (v.gh b u q)
end
/-! ### the whole heap as a view beside the draw -/
def offD (d l c : Addr) (H : Hp) : Hp := fun a => if a = d ∨ a = l ∨ a = c then none else H a
section
variable {K : PySem.W.Frag} {d l c : Addr} {H : Hp}
theorem offD_of {a : Addr} {o : HO} (h : H a = some o) (h1 : a ≠ d) (h2 : a ≠ l) (h3 : a ≠ c) : offD d l c H a = some o := by
  unfold offD
  rw [if_neg (by rintro (z | z | z) <;> contradiction)]; exact h
theorem offD_vw (D : Drw H d l c) : Vw (offD d l c H) H d l c := by
  refine ⟨fun a o h => ?_, by simp [offD], by simp [offD], by simp [offD], D⟩
  unfold offD at h
  split at h
  · cases h
  · exact h
theorem sqT_off (D : Drw H d l c) {a : Addr} {xs : List V} (h : SqT K H a xs) : SqT K (offD d l c H) a xs := by
  obtain ⟨r, t, ls, cs, h1, h2, h3, h4, h5⟩ := D.at'
  rcases h with (e | ⟨o, e⟩) | e
  · exact SqT.of (offD_of e (ne_of e h1 (fun z => nomatch z)) (ne_of e h2 (fun z => nomatch z)) (ne_of e h3 (fun z => nomatch z)))
  · exact .inl (.inr ⟨o, offD_of e (ne_of e h1 (fun z => nomatch z)) (ne_of e h2 (fun z => nomatch z)) (ne_of e h3 (fun z => nomatch z))⟩)
  · exact .inr e
mutual
theorem dp_off (D : Drw H d l c) : ∀ (x : PyData) {v : V}, noL x = true → Dp K H v x → Dp K (offD d l c H) v x
  | .none, _, _, .non => .non
  | .bool b, _, _, .bl _ => .bl b
  | .int i, _, _, .int _ => .int i
  | .str x, _, _, .str _ => .str x
  | .tuple ds, _, z, .tup hs ha => .tup (sqT_off D hs) (dpa_off D ds (by rw [noL] at z; exact z) ha)
theorem dpa_off (D : Drw H d l c) : ∀ (ds : List PyData) {vs : List V}, noLA ds = true → DpAll K H vs ds → DpAll K (offD d l c H) vs ds
  | [], _, _, .nil => .nil
  | x :: ds, _, z, .cons h t => by
    rw [noLA, Bool.and_eq_true] at z
    exact .cons (dp_off D x z.1 h) (dpa_off D ds z.2 t)
end
end
end Gw
namespace Gw
open PySem PySem.Spec PyProof.Rows L2 LamX
/-! ### any of the things of which errors are made -/
def anyDs : List PyData := [.none, .bool false, .int (-5), .int (10 ^ 45), .str "", .str "wide", .str "two words", .list [], .list [.tuple [.int 0, .int 2]], .tuple [], .tuple [.int 4], .dict [], .dict [(.str "a", .tuple [.int 1])], .list [.list [.none]]]
def AnyV (K : PySem.W.Frag) : VP := fun G v => ∃ x, x ∈ anyDs ∧ RdD K G v x
theorem anyV_mono (K : PySem.W.Frag) : MonP (AnyV K) := fun G G' v s ⟨x, h1, h2⟩ => ⟨x, h1, h2.mono s⟩
theorem anyV_d {K : PySem.W.Frag} {σ : L2.St} {G : Hp} {te : TE} {d : PyData} (i : Nat) (h : EvD K te σ G d) (e : anyDs[i]? = some d) (nd : d.hasDict = false) : EvX te σ G (AnyV K) := ex_of h fun _ _ _ hd => ⟨d, List.mem_of_getElem? e, .inl ⟨hd, nd⟩⟩
theorem ed_neg {K : PySem.W.Frag} {σ : L2.St} {G : Hp} {k : Int} : EvD K (tUn (rU fun i => V.int (-i)) (tC (.int k))) σ G (.int (-k)) := fun H s Q q => ⟨k, rfl, q _ G H (Nx.refl s) (.int _)⟩
theorem upd_thrice {H : Hp} {p t : Addr} {a b c : HO} (h : p ≠ t) : upd (upd (upd H p a) t b) p c = upd (upd H t b) p c := by
  funext x
  by_cases hx : x = p
  · subst hx; rw [upd_same, upd_same]
  · rw [upd_ne hx, upd_ne hx]
    by_cases hy : x = t
    · subst hy; rw [upd_same, upd_same]
    · rw [upd_ne hy, upd_ne hy, upd_ne hx]
theorem ex_disp {K : PySem.W.Frag} {σ : L2.St} {G : Hp} : EvX (tDisp [(tC (.str "a"), tTup (tCons (tC (.int 1)) tNil))]) σ G (AnyV K) := fun H s Q q p hp => by
  refine ⟨by show 1 ≤ sizeLine; decide, fun t ht => ?_⟩
  have hpt : p ≠ t := fun z => by rw [← z, upd_same] at ht; cases ht
  have ht0 : H t = none := by rw [upd_ne (Ne.symm hpt)] at ht; exact ht
  refine ⟨(upd_ne hpt).trans upd_same, [(.inr "a", .ref t)], rfl, by show 1 ≤ 15; decide, ?_⟩
  rw [upd_thrice hpt]
  have n1 := Nx.new (o := .tup [.int 1]) s ht0
  have hp1 : upd H t (.tup [.int 1]) p = none := (upd_ne hpt).trans hp
  have n2 := n1.trans (Nx.new (o := .dK (mergeK [] [((.inr "a" : Key), V.ref t)])) n1.gh hp1)
  refine q _ _ _ n2 ⟨.dict [(.str "a", .tuple [.int 1])], List.mem_of_getElem? (i := 12) rfl, .inr ⟨p, _, _, rfl, upd_same, rfl, ?_⟩⟩
  exact ⟨rfl, .tup (SqT.of ((upd_ne (Ne.symm hpt)).trans upd_same)) (.cons (.int 1) .nil), rfl, trivial⟩
def spAny (K : PySem.W.Frag) : Sp := fun vs H Q _ => ∃ d l c, vs = [.ref d] ∧ Drw H d l c ∧ ∀ v H', AnyV K H' v → Q v H'
section
variable {P : Program} {w : World} {K : PySem.W.Frag} {mg : Str → Option Value} {base : Heap} {f : Addr} {fd : FuncData}
theorem ok_law_any (D : DefAt K mg "_law_any" s_law_any P_law_any f fd) (T : Bt mg) (h__law_pick : Ok P w K mg base "_law_pick" P_law_pick 3 (spPick K)) : Ok P w K mg base "_law_any" P_law_any 4 (spAny K) := by
  refine D.ok (D.F.ok sc_law_any (fun vs H Q E h => ?_) fun cdv A outer s H vs Q E hr h => ?_)
  · obtain ⟨d, l, c, rfl, _⟩ := h; rfl
  have S := sc_law_any
  obtain ⟨d, l, c, rfl, Dw, q⟩ := h
  refine ⟨_, (pss_cons (ps_set (i := 1) S.nd rfl (by first | exact .inl rfl | exact .inr rfl) (pe_lst (pa_cons pe_non (pa_cons pe_bl (pa_cons (pe_un un_neg pe_int) (pa_cons (pe_op op_pow pe_int pe_int) (pa_cons pe_str (pa_cons pe_str (pa_cons pe_str (pa_cons (pe_lst pa_nil) (pa_cons (pe_lst (pa_cons (pe_tup (pa_cons pe_int (pa_cons pe_int pa_nil))) pa_nil)) (pa_cons (pe_tup pa_nil) (pa_cons (pe_tup (pa_cons pe_int pa_nil)) (pa_cons pe_dnewK (pa_cons (pe_disp (pps_cons pe_str (pe_tup (pa_cons pe_int pa_nil)) pps_nil) (by rfl) (by rfl) (fun z => by cases z) (by decide)) (pa_cons (pe_lst (pa_cons (pe_lst (pa_cons pe_non pa_nil)) pa_nil)) pa_nil))))))))))))))))
  (pss_one (ps_ret (pe_ok h__law_pick (hr.mono (by decide)) (by rfl) (pa_cons (pv 0) (pa_cons (pv 1) pa_nil)))))), ?_⟩
  have big : 100000 ≤ sizeLine := by decide
  have V0 := offD_vw Dw
  have aM := anyV_mono K
  have mR : ∀ R ∈ List.replicate 14 (AnyV K), MonP R := fun R hR => by rw [List.eq_of_mem_replicate hR]; exact aM
  have pw : CPow (10 : Int) 45 := ⟨by decide, by decide, by decide⟩
  refine seq_letP (P := fun G' xs => PR G' xs (List.replicate 14 (AnyV K))) (ep_lst (Rs := List.replicate 14 (AnyV K)) (
    eq_cons aM (anyV_d 0 ed_non rfl rfl) fun _ _ => eq_cons aM (anyV_d 1 ed_bl rfl rfl) fun _ _ => eq_cons aM (anyV_d 2 ed_neg rfl rfl) fun _ _ => eq_cons aM (anyV_d 3 (ed_op ed_int ed_int (ro_ic (f := fun i j => i ^ j.toNat) pw)) rfl rfl) fun _ _ =>
    eq_cons aM (anyV_d 4 ed_str rfl rfl) fun _ _ => eq_cons aM (anyV_d 5 ed_str rfl rfl) fun _ _ => eq_cons aM (anyV_d 6 ed_str rfl rfl) fun _ _ => eq_cons aM (anyV_d 7 (ed_lst ea_nil (Nat.zero_le _)) rfl rfl) fun _ _ =>
    eq_cons aM (anyV_d 8 (ed_lst (ea_cons (ed_tup (ea_cons ed_int (ea_cons ed_int ea_nil)) (by show 2 ≤ sizeLine; omega)) ea_nil) (by show 1 ≤ sizeLine; omega)) rfl rfl) fun _ _ => eq_cons aM (anyV_d 9 (ed_tup ea_nil (Nat.zero_le _)) rfl rfl) fun _ _ => eq_cons aM (anyV_d 10 (ed_tup (ea_cons ed_int ea_nil) (by show 1 ≤ sizeLine; omega)) rfl rfl) fun _ _ =>
    eq_cons aM (fun H s Q q p hp => q _ _ _ (Nx.new (o := .dK []) s hp) ⟨.dict [], List.mem_of_getElem? (i := 11) rfl, .inr ⟨p, [], [], rfl, upd_same, rfl, trivial⟩⟩) fun _ _ => eq_cons aM ex_disp fun _ _ => eq_cons aM (anyV_d 13 (ed_lst (ea_cons (ed_lst (ea_cons ed_non ea_nil) (by show 1 ≤ sizeLine; omega)) ea_nil) (by show 1 ≤ sizeLine; omega)) rfl rfl) fun _ _ => eq_nil) (by show 14 ≤ sizeLine; omega)) (fun _ _ _ s h => h.mono s mR) V0.gh fun p1 xs G1 H1 n1 e1 hxs => ?_
  have V1 := (Nw.of V0 n1).vw
  have l1 : xs.length = 14 := hxs.len
  refine ⟨_, rfl, _, rfl, d, l, c, p1, xs, rfl, V1.dr, (fun z => by rw [z, V1.gl] at e1; cases e1), SqL.of (V1.gh _ _ e1), by omega, by omega, fun v H2 hv nd D2 => ?_⟩
  obtain ⟨k, hk⟩ := List.getElem?_of_mem hv
  obtain ⟨R, hR, hRv⟩ := hxs.get hk
  rw [List.eq_of_mem_replicate (List.mem_of_getElem? hR)] at hRv
  have s2 : Same G1 H2 := fun a o z => nd.hh a o (fun w => by rw [w, V1.gd] at z; cases z) (fun w => by rw [w, V1.gl] at z; cases z) (V1.gh a o z)
  exact q v H2 (aM _ _ _ s2 hRv)
end
end Gw
namespace Gw
open PySem PySem.Spec PyProof.Rows L2
/-! ### in, for items that are data -/
def rInD (K : PySem.W.Frag) : R2 := fun x y H Q => ∃ d es, Dp K H x d ∧ (Dp K H y (.tuple es) ∨ Dp K H y (.list es)) ∧ SeqAt.shaped d = true ∧ (∀ e ∈ es, SeqAt.shaped e = true) ∧ Q (.bl (es.any fun e => PyData.eqv e d)) H
/-- what an item's answer is, read off the heap -/
noncomputable def hitD (h : Heap) (d : PyData) (u : Value) : Bool := @decide (∃ e as, Reads h u e as ∧ PyData.eqv e d = true) (Classical.propDecidable _)
theorem hitD_of {h : Heap} {d e : PyData} {u : Value} {as : List Addr} (r : Reads h u e as) : hitD h d u = PyData.eqv e d := by
  unfold hitD
  cases q : PyData.eqv e d with
  | true => exact (@decide_eq_true_iff _ (Classical.propDecidable _)).mpr ⟨e, as, r, q⟩
  | false =>
    refine (@decide_eq_false_iff_not _ (Classical.propDecidable _)).mpr fun ⟨e', as', r', q'⟩ => ?_
    have := (reads_det (h := h) (h' := h) (fun _ _ z _ => z) r r').1
    rw [this, q] at q'
    cases q'
section
variable {X : Cx} {pins : List (Addr × Obj)} {σ : L2.St} {H : Hp} {s : Shared}
theorem any_hitD (I : Inv X pins σ H s) {d : PyData} : ∀ {es : List PyData} {xs : List V} {us : List Value}, DpAll X.K H xs es → Vals xs us → us.any (hitD s.heap d) = es.any fun e => PyData.eqv e d
  | [], _, _, .nil, .nil => rfl
  | e :: es, _, _, .cons h t, .cons r rs => by
    obtain ⟨as, q⟩ := Dp.reads I e _ _ h r
    rw [List.any_cons, List.any_cons, hitD_of q, any_hitD I t rs]
theorem mem_hitD {A : Around} {v : Value} {d : PyData} {bs : List Addr} (I : Inv X pins σ H s) (rv : Reads s.heap v d bs) (sd : SeqAt.shaped d = true) (hu : A.in1.units + 64 < cLine) : ∀ {es : List PyData} {xs : List V} {us : List Value}, DpAll X.K H xs es → Vals xs us → (∀ e ∈ es, SeqAt.shaped e = true) → ∀ u ∈ us, SeqAt.EqAt A.in1 s u v (hitD s.heap d u)
  | [], _, _, .nil, .nil, _ => fun u hu => nomatch hu
  | e :: es, _, _, .cons h t, .cons r rs, se => fun u hm => by
    obtain ⟨as, q⟩ := Dp.reads I e _ _ h r
    rcases List.mem_cons.mp hm with rfl | hm
    · rw [hitD_of q]
      exact PySem.W.keq_at q rv (se e List.mem_cons_self) sd hu
    · exact mem_hitD I rv sd hu t rs (fun x hx => se x (List.mem_cons_of_mem _ hx)) u hm
theorem op_inD (hu : X.A.in1.units + 64 < cLine) : OpR X (compareOp .In) (rInD X.K) := by
  intro pins s σ H x y v u Q I rx ry h
  obtain ⟨d, es, hd, hy, sd, se, q⟩ := h
  obtain ⟨bs, rv⟩ := Dp.reads I d x v hd rx
  rcases hy with hy | hy
  · cases hy with
    | @tup p xs _ hs ha =>
      cases ry
      obtain ⟨its, r, pl, hz⟩ := I.tuple hs
      refine SeqAt.in_tupleAt (hitD s.heap d) pl (fun w hw => mem_hitD I rv sd hu ha r se w (by simpa using hw)) ⟨.bl _, H, I, rfl, ?_⟩
      rw [show its.toArray.any (hitD s.heap d) = its.any (hitD s.heap d) by simp, any_hitD I ha r]
      exact q
  · cases hy with
    | @lst p xs _ hs ha =>
      cases ry
      obtain ⟨its, r, pl, hz⟩ := I.list hs
      refine SeqAt.in_listAt (hitD s.heap d) pl.isList (fun w hw => mem_hitD I rv sd hu ha r se w (by simpa using hw)) ⟨.bl _, H, I, rfl, ?_⟩
      rw [show its.toArray.any (hitD s.heap d) = its.any (hitD s.heap d) by simp, any_hitD I ha r]
      exact q
end
theorem q_inD {X : Cx} (K : PySem.W.Frag) (e : X.K = K) (hu : X.A.in1.units + 64 < cLine) : OpR X (compareOp .In) (rInD K) := by subst e; exact op_inD hu
section
variable {K : PySem.W.Frag} {x : PyData} {es : List PyData}
theorem ro_inT (hx : SeqAt.shaped x = true) (he : ∀ e ∈ es, SeqAt.shaped e = true) : ROp K (rInD K) x (.tuple es) (.bool (es.any fun e => PyData.eqv e x)) := fun G H s vx vy dx dy Q q =>
  ⟨x, es, dp_mono s _ dx, .inl (dp_mono s _ dy), hx, he, q _ G H (Nx.refl s) (.bl _)⟩
theorem ro_inL (hx : SeqAt.shaped x = true) (he : ∀ e ∈ es, SeqAt.shaped e = true) : ROp K (rInD K) x (.list es) (.bool (es.any fun e => PyData.eqv e x)) := fun G H s vx vy dx dy Q q =>
  ⟨x, es, dp_mono s _ dx, .inr (dp_mono s _ dy), hx, he, q _ G H (Nx.refl s) (.bl _)⟩
end
end Gw
namespace Gw
open PySem PySem.Spec PyProof.Rows L2
/-! ### isinstance of an error against any class -/
def rIsE3 (K : PySem.W.Frag) : List V → Hp → VK → Prop := fun xs H Q => ∃ (a D : Addr) (c : V) (cv : Value) (d : Option Addr) (b : Bool), xs = [.ref a, c] ∧ (∀ u, RelV c u → u = cv) ∧ H a = some (ErrO (.ref D) d a) ∧ (∀ dd, d = some dd → ∃ fs, H dd = some (.xd fs)) ∧ ExcC K D ∧ PySem.W.kitOne K (.ref D) cv = some b ∧ Q (.bl b) H
theorem cr_isE3 {X : Cx} : CallR X (.builtin "isinstance") (rIsE3 X.K) := by
  intro pins s σ H xs us Q I r h
  obtain ⟨a, D, c, cv, d, b, rfl, hc, ha, hdd, T, e, q⟩ := h
  obtain ⟨u1, u2, rfl, r1, r2⟩ := vals2 r
  cases r1
  obtain rfl := hc _ r2
  obtain ⟨⟨oe, vs, at1, ⟨z1, z2⟩, d1⟩, _⟩ := I.hok a _ ha
  have hcl : (PySem.W.clsIn X.K D).isSome = true := by
    obtain ⟨cd, hc, _⟩ := PySem.W.any_some T.hd
    rw [hc]; rfl
  obtain ⟨od, J⟩ : ∃ od, PySem.W.InstAt s.heap a oe D od := by
    cases d with
    | none => exact ⟨none, at1, z1, by unfold PySem.W.notCls; rw [d1] <;> rfl, by rw [z2]; trivial⟩
    | some dd =>
      obtain ⟨fs, hf⟩ := hdd dd rfl
      have hx : ObjOk X.prog X.w H s.heap dd (.xd fs) := I.hok dd _ hf
      obtain ⟨mA, hns, hr⟩ := hx
      obtain ⟨od, ho, hl⟩ := lookIn_ns hns
      exact ⟨some od, at1, z1, by unfold PySem.W.notCls; rw [d1] <;> rfl, by rw [z2]; exact ho⟩
  exact PySem.W.kia_one (PySem.W.kitx_exc hcl T.hg T.hk T.hs T.ha T.hn T.ht T.hm) I.kIn J e (fun z => nomatch z) fun tk => ⟨.bl b, H, I.tok tk, rfl, q⟩
theorem q_isE3 {X : Cx} (K : PySem.W.Frag) (e : X.K = K) : CallR X (.builtin "isinstance") (rIsE3 K) := by subst e; exact cr_isE3
section
variable {K : PySem.W.Frag} {σ : L2.St} {G H : Hp} {te tl : TE} {tt : TT}
theorem ed_isE3 {i : Nat} {v : V} {D : Addr} {c : V} {cv : Value} {b : Bool} (h : σ[i]? = some (some v)) (hv : ErrV D G v) (T : ExcC K D) (hc : ∀ u, RelV c u → u = cv) (hk : PySem.W.kitOne K (.ref D) cv = some b) : EvD K (tCB (rIsE3 K) (tCons (tVar i) (tCons (tC c) tNil))) σ G (.bool b) := fun H s Q q => by
  obtain ⟨a, dd, rfl, ha, hd⟩ := hv
  exact ⟨_, h, a, D, c, cv, dd, b, rfl, hc, s _ _ ha, fun d z => (hd d z).imp fun fs e => s _ _ e, T, hk, q _ G H (Nx.refl s) (.bl _)⟩
/-! ### comprehensions over lists of values -/
structure LcV (G1 H1 : Hp) (D : Addr) (R : Nat → VP) (k : Nat) (Hc : Hp) : Prop where
  ex : ∃ Gi acc, Nx G1 H1 Gi Hc ∧ Gi D = none ∧ Hc D = some (.lst acc) ∧ acc.length = k ∧ ∀ (j : Nat) x, acc[j]? = some x → R j Gi x
theorem ep_lcV {i j : Nat} {vs : List Nat} {l : Addr} {xs : List V} (R : Nat → VP) (mono : ∀ k, MonP (R k)) (h : σ[j]? = some (some (.ref l))) (hl : G l = some (.lst xs)) (hw : ∀ v, wipe ((wipe σ vs).set i (some v)) vs = wipe σ vs) (hz : xs.length ≤ sizeLine)
    (he : ∀ (k : Nat) x Gi, xs[k]? = some x → Same G Gi → EvX te ((wipe σ vs).set i (some x)) Gi (R k)) : EvP (tLc (iList K (tVar j)) (gName i) tYes te vs) σ G (fun G' ys => ys.length = xs.length ∧ ∀ (k : Nat) x, ys[k]? = some x → R k G' x) := fun H s Q q => by
  refine ⟨_, h, l, rfl, ⟨xs, SqL.of (s _ _ hl)⟩, fun D hD => ?_⟩
  refine lc_list (K := K) (a := l) (xs := xs) (fun k Hc => LcV G H D R k Hc) ⟨G, [], Nx.lay s hD, s.free hD, upd_same, rfl, fun j x z => nomatch z⟩ (fun k Hc _ p => ?_) (fun k x Hc hk p => ?_) fun Hc p => ?_
  · obtain ⟨Gi, acc, n, _⟩ := p.ex
    exact SqL.of (n.hh _ _ (s _ _ hl))
  · have hkl := (List.getElem?_eq_some_iff.mp hk).1
    obtain ⟨Gi, acc, n, g, e, la, hR⟩ := p.ex
    refine ⟨hw x, tyes ?_⟩
    refine he k x Gi hk n.gg Hc n.gh _ fun y G4 H4 n4 hy => ?_
    have g4 : G4 D = none := (n4.fr D (ne_none e)).trans g
    have n14 := n.trans n4
    refine ⟨acc, n4.hh D _ e, by omega, G4, acc ++ [y], ⟨n14.gg, fun b u q => ?_, fun b u q => ?_, n14.fr⟩, g4, upd_same, by rw [List.length_append, la]; rfl, fun j z hz => ?_⟩
    · rw [upd_ne (ne_of_none q g4)]; exact n4.gh b u q
    · rw [upd_ne (ne_of_none q hD)]; exact n14.hh b u q
    · rcases Nat.lt_or_ge j acc.length with hj | hj
      · rw [List.getElem?_append_left hj] at hz
        exact mono _ _ _ _ n4.gg (hR j z hz)
      · rw [List.getElem?_append_right hj] at hz
        have : j = k := by
          rcases Nat.lt_or_ge (j - acc.length) 1 with q | q
          · omega
          · rw [List.getElem?_eq_none (by rw [List.length_singleton]; exact q)] at hz; cases hz
        subst this
        rw [la, Nat.sub_self] at hz
        cases hz
        exact hy
  · obtain ⟨Gi, acc, n, g, e, la, hR⟩ := p.ex
    exact q D acc Gi Hc n hD g e ⟨la, hR⟩
/-- none of them is let through -/
theorem en_lcV0 {i j : Nat} {vs : List Nat} {l : Addr} {xs : List V} (h : σ[j]? = some (some (.ref l))) (hl : G l = some (.lst xs)) (hw : ∀ v, wipe ((wipe σ vs).set i (some v)) vs = wipe σ vs)
    (he : ∀ (k : Nat) x Gi, xs[k]? = some x → Same G Gi → EvB K tt ((wipe σ vs).set i (some x)) Gi false) : EvN K (tLc (iList K (tVar j)) (gName i) tt te vs) σ G [] := fun H s Q q => by
  refine ⟨_, h, l, rfl, ⟨xs, SqL.of (s _ _ hl)⟩, fun D hD => ?_⟩
  refine lc_list (K := K) (a := l) (xs := xs) (fun k Hc => LcV G H D (fun _ _ _ => True) 0 Hc) ⟨G, [], Nx.lay s hD, s.free hD, upd_same, rfl, fun j x z => nomatch z⟩ (fun k Hc _ p => ?_) (fun k x Hc hk p => ?_) fun Hc p => ?_
  · obtain ⟨Gi, acc, n, _⟩ := p.ex
    exact SqL.of (n.hh _ _ (s _ _ hl))
  · obtain ⟨Gi, acc, n, g, e, la, hR⟩ := p.ex
    refine ⟨hw x, he k x Gi hk n.gg Hc n.gh _ fun G4 H4 n4 => ?_⟩
    refine (if_neg (by decide)).mpr ?_
    exact ⟨G4, acc, n.trans n4, (n4.fr D (ne_none e)).trans g, n4.hh D _ e, la, fun _ _ _ => trivial⟩
  · obtain ⟨Gi, acc, n, g, e, la, _⟩ := p.ex
    obtain rfl := List.eq_nil_of_length_eq_zero la
    exact q D [] Gi Hc n hD g e .nil
/-! ### for i, x in enumerate(a list) -/
theorem for_enumL {a : Addr} {xs : List V} {g : TG} {tb : TS} {D : Ends} (Pv : Nat → L2.St → Hp → Prop) (h0 : Pv 0 σ H) (hl : ∀ i σ H, i ≤ xs.length → Pv i σ H → SqL K H a xs)
    (hs : ∀ i x T σ H, xs[i]? = some x → Pv i σ H → H T = none → g (.ref T) σ (upd H T (.tup [.int (i : Nat), x])) fun σ2 H2 => tb { D with nx := Pv (i + 1), ct := Pv (i + 1), bk := D.nx } σ2 H2) (hd : ∀ σ H, Pv xs.length σ H → D.nx σ H) :
    ∃ W : Nat → Nat → L2.St → Hp → Prop, (∃ m, W 0 m σ H) ∧ ∀ i m σ H, W i m σ H →
      ((Ite K a).stop i H ∧ D.nx σ H) ∨ ((Ite K a).go i H ∧ ∃ N : L2.St → Hp → Prop, (∀ σ' H', N σ' H' → ∃ m', m' < m ∧ W (i + 1) m' σ' H') ∧ ∀ x H', (Ite K a).yld i H x H' → g x σ H' fun σ2 H2 => tb { D with nx := N, ct := N, bk := D.nx } σ2 H2) := by
  refine ⟨fun i m σ H => m = xs.length - i ∧ i ≤ xs.length ∧ Pv i σ H, ⟨xs.length, by simp, Nat.zero_le _, h0⟩, ?_⟩
  rintro i m σ H ⟨rfl, hi, p⟩
  have q := hl i σ H hi p
  by_cases hlt : i < xs.length
  · refine .inr ⟨⟨xs, xs[i], q, by simp [hlt]⟩, Pv (i + 1), fun σ' H' p' => ⟨xs.length - (i + 1), by omega, rfl, hlt, p'⟩, fun x H' y => ?_⟩
    obtain ⟨T, z, rfl, hT, rfl, e⟩ := y
    exact hs i z T σ _ (e xs q) p hT
  · have e : i = xs.length := by omega
    subst e
    exact .inl ⟨⟨xs, q, Nat.le_refl _⟩, hd σ H p⟩
theorem pr_of {G : Hp} {Rs : List VP} : ∀ {xs : List V}, xs.length = Rs.length → (∀ (k : Nat) x, xs[k]? = some x → ∃ R, Rs[k]? = some R ∧ R G x) → PR G xs Rs := by
  induction Rs with
  | nil => intro xs h _; cases xs with
    | nil => trivial
    | cons _ _ => cases h
  | cons R Rs ih => intro xs h k; cases xs with
    | nil => cases h
    | cons x xs =>
      obtain ⟨R', e, h'⟩ := k 0 x rfl
      cases e
      exact ⟨h', ih (by simpa using h) fun j y hy => k (j + 1) y hy⟩
end
end Gw
namespace Gw
open PySem PySem.Spec PyProof.Rows L2 LamX
theorem nx_ofJ {D : Ends} {σ : L2.St} {H : Hp} (h : D.nx σ H) : tNext D σ H := h
theorem kindsD_eqv (f : Nat → Bool) : SeqAt.shaped (kindsD f) = true ∧ PyData.eqv (kindsD f) (kindsD f) = true := by
  have h : SeqAt.shaped (kindsD f) = true := rfl
  exact ⟨h, SeqAt.eqv_refl _ (SeqAt.canLay_of_shaped h)⟩
theorem eqv_int (i j : Int) : PyData.eqv (.int i) (.int j) = decide (i = j) := by
  simp [PyData.eqv]
  rfl
theorem anyDs_show : ∀ x ∈ anyDs, (PyData.list [x, x]).showable = true ∧ (PyData.list [x, x]).shown.length ≤ 100000 ∧ (PyData.list [x, x]).depth ≤ 60 := by decide +kernel
section
variable {K : PySem.W.Frag} {σ : L2.St} {G H : Hp} {cls : List Addr}
theorem ed_kinds {E : XK} {i : Nat} {v : V} {D : Addr} {f : Nat → Bool} (h : σ[i]? = some (some v)) (hv : ErrV D G v) (ex : ExcC K D) (hk : Kinds K cls D f) : EvD K (tCall (spKi K cls) [] E (tCons (tVar i) tNil)) σ G (kindsD f) := fun H s Q q =>
  ⟨_, h, G, v, D, f, s, rfl, hv, ex, hk, fun u G' H' n hd => q u G' H' n hd⟩
/-- repr([x, y]) != repr([z, z]) of the same thing -/
theorem eb_repr0 {i j : Nat} {t : Addr} {w v : V} {x : PyData} (hi : σ[i]? = some (some (.ref t))) (ht : SqT K G t [w, v, v]) (hj : σ[j]? = some (some v)) (hx : RdD K G v x) (sh : (PyData.list [x, x]).showable = true ∧ (PyData.list [x, x]).shown.length ≤ 100000 ∧ (PyData.list [x, x]).depth ≤ 60) :
    EvB K (tTest (tOp rNe (tCB (rRepr2 K) (tCons (tLstN (tCons (tOp (rIxT K) (tVar i) (tC (.int 1))) (tCons (tOp (rIxT K) (tVar i) (tC (.int 2))) tNil))) tNil)) (tCB (rRepr2 K) (tCons (tLstN (tCons (tVar j) (tCons (tVar j) tNil))) tNil)))) σ G false := fun H s Q q => by
  have big : 100000 ≤ sizeLine := by decide
  have one {H' : Hp} {y : V} {k : Int} {Q' : VK} (s' : Same G H') (e : atI [w, v, v] k = some y) (q' : Q' y H') : tOp (rIxT K) (tVar i) (tC (.int k)) σ H' Q' := ⟨_, hi, t, _, k, y, rfl, rfl, same_tup s' ht, e, q'⟩
  refine one s rfl (one s rfl ⟨by show 2 ≤ sizeLine; omega, fun p hp => ?_⟩)
  have s1 : Same G (upd H p (LsN [v, v] p)) := fun b u e => by rw [upd_ne (ne_of_none (s b u e) hp)]; exact s b u e
  refine ⟨p, v, v, x, rfl, upd_same, hx.mono s1, hx.mono s1, sh.1, Nat.le_trans sh.2.1 big, sh.2.2, ?_⟩
  refine ⟨_, hj, _, hj, by show 2 ≤ sizeLine; omega, fun p2 hp2 => ?_⟩
  have s2 : Same G (upd (upd H p (LsN [v, v] p)) p2 (LsN [v, v] p2)) := fun b u e => by rw [upd_ne (ne_of_none (s1 b u e) hp2)]; exact s1 b u e
  refine ⟨p2, v, v, x, rfl, upd_same, hx.mono s2, hx.mono s2, sh.1, Nat.le_trans sh.2.1 big, sh.2.2, ?_⟩
  refine ⟨rfl, false, by simp, ?_⟩
  have m1 := Nx.new (o := LsN [v, v] p) s hp
  exact q _ _ (m1.trans (Nx.new (o := LsN [v, v] p2) m1.gh hp2))
theorem dpa_boolsK {f : Nat → Bool} : ∀ {l : List Nat} {xs : List V}, DpAll K G xs (l.map fun k => .bool (f k)) → xs = l.map fun k => .bl (f k)
  | [], _, .nil => rfl
  | _ :: _, _, .cons h t => by rw [dp_bl h, dpa_boolsK t]; rfl
theorem ex_cT {v : V} : EvX (tC v) σ G fun _ _ => True := fun H s Q q => q v G H (Nx.refl s) trivial
theorem seq_letX {te : TE} {R : VP} {u : TS} {D : Ends} {i : Nat} (h : EvX te σ G R) (s : Same G H) (k : ∀ v G1 H1, Nx G H G1 H1 → R G1 v → u D (σ.set i (some v)) H1) : tSeq (tAsg te (gName i)) u D σ H := h H s _ fun v G1 H1 n hv => k v G1 H1 n hv
theorem ret_let {te : TE} {d : PyData} {D : Ends} (h : EvD K te σ G d) (s : Same G H) (k : ∀ v G1 H1, Nx G H G1 H1 → Dp K G1 v d → D.rt v H1) : tRet te D σ H := h H s _ k
theorem ro_notinK : ROp K (rIn K true) (.bool true) (kindsD fun _ => false) (.bool true) := fun G H s vx vy hx hy Q q => by
  rw [dp_bl hx]
  cases hy with
  | lst hs ha =>
    obtain rfl := dpa_boolsK ha
    exact ⟨_, _, rfl, .inl (s.seq hs), rfl, rfl, q _ G H (Nx.refl s) (.bl _)⟩
theorem rel_ref {C : Addr} : ∀ u, RelV (.ref C) u → u = .ref C := fun u r => by cases r; rfl
theorem rel_ty {x : String} : ∀ u, RelV (.ty x) u → u = .type x := fun u r => by cases r; rfl
end
set_option maxHeartbeats 0 in
theorem ok_law {P : Program} {w : World} {K : PySem.W.Frag} {mg : Str → Option Value} {base : Heap} (T : Bt mg) (hVE : mg "ValueError" = none) {C_GroupError : Addr} (e_GroupError : Err K mg "GroupError" C_GroupError) {pls sps : List Addr} (lp : pls.length = 16) (ls : sps.length = 15)
  (hex : ∀ C ∈ pls ++ sps, ExcC K C) (hkin : ∀ (k : Nat) C, (pls ++ sps)[k]? = some C → Kinds K (pls ++ sps) C (fun j => decide ((j : Int) = (k : Int)))) (hge : ∀ C ∈ pls ++ sps, PySem.W.kitOne K (.ref C) (.ref C_GroupError) = some true) (hve : ∀ C ∈ pls ++ sps, PySem.W.kitOne K (.ref C) (.type "ValueError") = some true)
  (bex : ExcC K C_GroupError) (bki : Kinds K (pls ++ sps) C_GroupError (fun _ => false)) (bve : PySem.W.kitOne K (.ref C_GroupError) (.type "ValueError") = some true)
  (h__law_begun : Ok P w K mg base "_law_begun" P_law_begun 1 (spBegun K)) (h__law_pick : Ok P w K mg base "_law_pick" P_law_pick 3 (spPick K)) (h__law_any : Ok P w K mg base "_law_any" P_law_any 4 (spAny K)) (h__law_kinds : Ok P w K mg base "_law_kinds" P_law_kinds 3 (spKi K (pls ++ sps))) (h__law_plain_errors : Ok P w K mg base "_law_plain_errors" P_law_plain_errors 3 (spPl pls)) (h__law_errors_of : Ok P w K mg base "_law_errors_of" P_law_errors_of 3 (spEo K sps))
  {f : Addr} {cdv : Value} {s : Shared} {H : Hp} {a : Addr} {ns : List Int} (hr : Room 12 (callerA.deeper (envOfC "law" (defScope s_law) s.heap.objs.size f cdv))) (hO : Only H) (hS : SqL K H a (ns.map V.int)) (h63 : ns.length ≤ 63) :
  ∃ t, PSs (cxOf CX0 P w K mg base N_law "law" (defScope s_law) f cdv callerA [] s H E0).nox (defBody s_law) t ∧ t { nx := fun _ _ => V.non = V.bl true, rt := fun v _ => v = .bl true } (start N_law [.ref a]) H := by
  have S := sc_law
  refine ⟨_, (pss_cons (ps_set (i := 1) S.nd rfl (by first | exact .inl rfl | exact .inr rfl) (pe_ok h__law_begun (hr.mono (by decide)) (by rfl) (pa_cons (pv 0) pa_nil)))
  (pss_cons (ps_asg (pe_tup (pa_cons (pe_ok h__law_pick (hr.mono (by decide)) (by rfl) (pa_cons (pv 1) (pa_cons (pe_lst (pa_cons pe_str (pa_cons pe_str (pa_cons pe_str pa_nil)))) pa_nil))) (pa_cons (pe_ok h__law_any (hr.mono (by decide)) (by rfl) (pa_cons (pv 1) pa_nil)) pa_nil))) (q_gT K 2 rfl rfl (pgs_cons (pg_name (i := 2) S.nd rfl (by first | exact .inl rfl | exact .inr rfl)) (pgs_cons (pg_name (i := 3) S.nd rfl (by first | exact .inl rfl | exact .inr rfl)) pgs_nil))))
  (pss_cons (ps_set (i := 4) S.nd rfl (by first | exact .inl rfl | exact .inr rfl) (pe_ok h__law_errors_of (hr.mono (by decide)) (by rfl) (pa_cons (pv 3) pa_nil)))
  (pss_cons (ps_set (i := 5) S.nd rfl (by first | exact .inl rfl | exact .inr rfl) (pe_op op_cat (pe_ok h__law_plain_errors (hr.mono (by decide)) (by rfl) (pa_cons (pv 2) pa_nil)) (pe_lc (own := [("item", 6)]) (g := gName 6) (by rfl) S.nd  (q_iL K rfl (pv 4)) (blkOk_by (N := N_law) (sc := defScope s_law) (by decide +kernel)) (fun _ _ _ _ _ => (pg_name (i := 6) S.nd rfl (by first | exact .inl rfl | exact .inr rfl))) (fun _ _ _ _ _ => pts_nil) (fun _ _ _ _ _ => (pe_ix (q_ixT K rfl) (pv 6) pe_int (fun _ _ => rfl))))))
  (pss_cons (ps_for PassesOwn.never rfl (q_iEnL K rfl (by rfl) T.enumerate (pa_cons (pv 5) pa_nil)) (q_gT K 2 rfl rfl (pgs_cons (pg_name (i := 7) S.nd rfl (by first | exact .inl rfl | exact .inr rfl)) (pgs_cons (pg_name (i := 8) S.nd rfl (by first | exact .inl rfl | exact .inr rfl)) pgs_nil))) (pss_cons (ps_if (pt_cmpR (q_neD K rfl hr.units) (pe_ok h__law_kinds (hr.mono (by decide)) (by rfl) (pa_cons (pv 8) pa_nil)) (pe_lc (own := [("k", 9)]) (g := gName 9) (by rfl) S.nd  (pi_range1 (by rfl) T.range (pa_cons pe_int pa_nil)) (blkOk_by (N := N_law) (sc := defScope s_law) (by decide +kernel)) (fun _ _ _ _ _ => (pg_name (i := 9) S.nd rfl (by first | exact .inl rfl | exact .inr rfl))) (fun _ _ _ _ _ => pts_nil) (fun _ _ _ _ _ => (pe_cmpR (q_eqD K rfl hr.units) (pv 9) (pv 7) (nomark _)))) (nomark _)) (pss_one (ps_ret pe_bl)) pss_nil)
  (pss_one (ps_if (PW.pt (pw_or (pt_not (pt_val (pe_callB (q_isE3 K rfl) (by rfl) T.isinstance (by decide +kernel) (pa_cons (pv 8) (pa_cons (pe_glob (v := .ref C_GroupError) (by rfl) e_GroupError.g rfl) pa_nil))))) (pw_or1 (pt_not (pt_val (pe_callB (q_isE3 K rfl) (by rfl) T.isinstance (by decide +kernel) (pa_cons (pv 8) (pa_cons (pe_bltn (v := .ty "ValueError") (by rfl) hVE (by decide +kernel) rfl) pa_nil)))))))) (pss_one (ps_ret pe_bl)) pss_nil))))
  (pss_cons (ps_if (pt_cmpR (q_neD K rfl hr.units) (pe_lc (own := [("item", 6)]) (g := gName 6) (by rfl) S.nd  (q_iL K rfl (pv 4)) (blkOk_by (N := N_law) (sc := defScope s_law) (by decide +kernel)) (fun _ _ _ _ _ => (pg_name (i := 6) S.nd rfl (by first | exact .inl rfl | exact .inr rfl))) (fun _ _ _ _ _ => (pts_one (pt_cmpR op_ne (pe_callB (q_repr2 K rfl rfl hr.units) (by rfl) T.repr (by decide +kernel) (pa_cons (pe_lstN (pa_cons (pe_ix (q_ixT K rfl) (pv 6) pe_int (fun _ _ => rfl)) (pa_cons (pe_ix (q_ixT K rfl) (pv 6) pe_int (fun _ _ => rfl)) pa_nil))) pa_nil)) (pe_callB (q_repr2 K rfl rfl hr.units) (by rfl) T.repr (by decide +kernel) (pa_cons (pe_lstN (pa_cons (pv 3) (pa_cons (pv 3) pa_nil))) pa_nil)) (nomark _)))) (fun _ _ _ _ _ => pe_int)) (pe_lst pa_nil) (nomark _)) (pss_one (ps_ret pe_bl)) pss_nil)
  (pss_cons (ps_set (i := 10) S.nd rfl (by first | exact .inl rfl | exact .inr rfl) (pe_plnV e_GroupError pe_str (by rfl)))
  (pss_one (ps_ret (pe_and (pe_cmpR (q_notin K rfl) pe_bl (pe_ok h__law_kinds (hr.mono (by decide)) (by rfl) (pa_cons (pv 10) pa_nil)) (by rfl)) (pe_one (pe_callB (q_isE3 K rfl) (by rfl) T.isinstance (by decide +kernel) (pa_cons (pv 10) (pa_cons (pe_bltn (v := .ty "ValueError") (by rfl) hVE (by decide +kernel) rfl) pa_nil)))))))))))))), ?_⟩
  have big : 100000 ≤ sizeLine := by decide
  have mE : ∀ (l : List Addr), ∀ R ∈ l.map ErrV, MonP R := fun l R hR => by
    obtain ⟨C, _, rfl⟩ := List.mem_map.mp hR
    exact errV_mono C
  refine ⟨_, rfl, a, ns, rfl, hS, h63, fun d l c H1 sm hd hl hc D1 => ?_⟩
  -- words_here, each
  refine ⟨_, rfl, ⟨by show 3 ≤ sizeLine; omega, fun p hp => pick_go (E := E0) D1 hp (by show 0 < 3; omega) (by show 3 < 100; omega) fun v H2 hv n2 D2 => ?_⟩⟩
  refine ⟨_, rfl, d, l, c, rfl, D2, fun e H3 he => ⟨by show 2 ≤ sizeLine; omega, fun pt hpt => ?_⟩⟩
  refine ⟨pt, _, rfl, SqT.of upd_same, rfl, _, _, rfl, _, _, rfl, rfl, ?_⟩
  have he := anyV_mono K _ _ _ (same_upd (o := .tup [v, e]) hpt) he
  generalize upd H3 pt (.tup [v, e]) = H3 at he
  obtain ⟨x, hx, hex2⟩ := he
  -- threes_here
  refine ⟨_, rfl, H3, e, Same.refl _, rfl, fun p4 ts G4 H4 n4 g4 h4 => ?_⟩
  -- errors_here
  refine ⟨_, rfl, G4, v, n4.gh, rfl, fun p5 ys G5 H5 n5 g5 h5 => ?_⟩
  have l4 := h4.len
  rw [List.length_map, ls] at l4
  have l5 := h5.len
  rw [List.length_map, lp] at l5
  refine ep_lcV (K := K) (i := 6) (j := 4) (xs := ts) (fun k G y => ∃ C, sps[k]? = some C ∧ ErrV C G y) (fun k G G' y s ⟨C, h1, h2⟩ => ⟨C, h1, errV_mono C _ _ _ s h2⟩) rfl (n5.gg _ _ g4) (fun _ => rfl) (by omega) (fun k y Gi hy gi H' s' Q q => ?_) H5 n5.gh _ fun p6 zs G6 H6 n6 hp6 gp6 e6 hR6 => ?_
  · obtain ⟨R, hR, hRy⟩ := h4.get hy
    rw [List.getElem?_map] at hR
    obtain ⟨C, hC, rfl⟩ := Option.map_eq_some_iff.mp hR
    obtain ⟨t, w', rfl, ht, hw⟩ := hRy
    have gg := n5.gg.trans gi
    exact ⟨_, rfl, t, _, 0, w', rfl, rfl, same_tup (gg.trans s') ht, rfl, q w' Gi H' (Nx.refl s') ⟨C, hC, errV_mono C _ _ _ gg hw⟩⟩
  obtain ⟨l6, hR6⟩ := hR6
  refine ⟨p5, p6, ys, zs, rfl, rfl, n6.hh _ _ (n5.gh _ _ g5), e6, by omega, fun p7 hp7 => ?_⟩
  have n57 := n5.trans (n6.trans (Nx.new (o := .lst (ys ++ zs)) n6.gh hp7))
  have e7 : upd H6 p7 (.lst (ys ++ zs)) p7 = some (.lst (ys ++ zs)) := upd_same
  generalize hH7 : upd H6 p7 (.lst (ys ++ zs)) = H7 at n57 e7
  have s47 : Same G4 H7 := n57.gg.trans n57.gh
  have s57 : Same G5 H7 := n6.gg.trans (n6.gh.trans (by rw [← hH7]; exact same_upd hp7))
  have s67 : Same G6 H7 := n6.gh.trans (by rw [← hH7]; exact same_upd hp7)
  have errs : ∀ (k : Nat) y, (ys ++ zs)[k]? = some y → ∃ C, (pls ++ sps)[k]? = some C ∧ ErrV C H7 y := fun k y hy => by
    rcases Nat.lt_or_ge k ys.length with hk | hk
    · rw [List.getElem?_append_left hk] at hy
      obtain ⟨R, hR, hRy⟩ := h5.get hy
      rw [List.getElem?_map] at hR
      obtain ⟨C, hC, rfl⟩ := Option.map_eq_some_iff.mp hR
      exact ⟨C, by rw [List.getElem?_append_left (by omega)]; exact hC, errV_mono C _ _ _ s57 hRy⟩
    · rw [List.getElem?_append_right hk] at hy
      obtain ⟨C, hC, hy'⟩ := hR6 _ _ hy
      exact ⟨C, by rw [List.getElem?_append_right (by omega), lp]; rw [l5] at hC; exact hC, errV_mono C _ _ _ s67 hy'⟩
  have h3' : Same H3 H7 := n4.gg.trans s47
  refine ⟨_, rfl, p7, _, rfl, SqL.of e7, for_enumL (xs := ys ++ zs) (fun _ σ Hc => ∃ x6 x7 x8 x9 x10, σ = [some (.ref a), some (.ref d), some v, some e, some (.ref p4), some (.ref p7), x6, x7, x8, x9, x10] ∧ Same H7 Hc) ⟨_, _, _, _, _, rfl, Same.refl _⟩ (fun i σ Hc _ hP => ?_) (fun i y Tt σ Hc hy hP hT => ?_) (fun σ Hc hP => ?_)⟩
  · obtain ⟨_, _, _, _, _, _, sc⟩ := hP
    exact SqL.of (sc _ _ e7)
  · obtain ⟨x6, x7, x8, x9, x10, rfl, sc⟩ := hP
    obtain ⟨C, hC, hy'⟩ := errs i y hy
    have hm := List.mem_of_getElem? hC
    have sT : Same H7 (upd Hc Tt (.tup [.int (i : Nat), y])) := sc.trans (same_upd hT)
    refine ⟨Tt, _, rfl, SqT.of upd_same, rfl, _, _, rfl, _, _, rfl, rfl, ?_⟩
    try dsimp only [gName, List.set_cons_succ, List.set_cons_zero]
    have ek : PyData.list ((List.range (31 : Int).toNat).map fun (j : Nat) => PyData.bool (PyData.eqv (.int (j : Int)) (.int (i : Int)))) = kindsD (fun j => decide ((j : Int) = (i : Int))) := by
      unfold kindsD
      simp only [eqv_int]
      rfl
    refine seq_chk (K := K) (G := H7) (eb_test (EvD.cast (ed_op (ed_kinds (i := 8) rfl hy' (hex C hm) (hkin i C hC)) ((EvN.toD (en_lcR1 (i := 9) (m := 31) (fun j => .bool (PyData.eqv (.int (j : Int)) (.int (i : Int)))) ed_int (fun _ => rfl) (by decide) (Nat.le_trans (by decide : (31 : Int).toNat ≤ 100000) big) fun j Gi hj g => ed_op (ed_var (i := 9) rfl (.int _)) (ed_var (i := 7) rfl (.int _)) (ro_eqD rfl rfl))).cast ek) (ro_neD (kindsD_eqv _).1 (kindsD_eqv _).1)) (by rw [(kindsD_eqv _).2]; rfl))) sT fun G8 H8 n8 => ?_
    have s8 : Same H7 H8 := n8.gg.trans n8.gh
    refine if_chk (K := K) (G := H7) (eb_or0 (show EvB K (tNot _) _ _ (!true) from eb_not (eb_B (ed_isE3 (i := 8) rfl hy' (hex C hm) rel_ref (hge C hm)))) (show EvB K (tNot _) _ _ (!true) from eb_not (eb_B (ed_isE3 (i := 8) rfl hy' (hex C hm) rel_ty (hve C hm))))) s8 fun G9 H9 n9 => ?_
    exact ⟨_, _, _, _, _, rfl, n9.gg.trans n9.gh⟩
  · obtain ⟨x6, x7, x8, x9, x10, rfl, sc⟩ := hP
    have hxR : RdD K H7 e x := hex2.mono h3'
    have h3r := hxR
    have hee : RdD K H7 e x := hxR
    refine seq_chk (K := K) (G := H7) (eb_test (EvD.cast (ed_op (EvN.toD (en_lcV0 (i := 6) (j := 4) (l := p4) (xs := ts) rfl (s47 _ _ g4) (fun _ => rfl) fun k y Gi hy gi => ?_)) (ed_lst ea_nil (Nat.zero_le _)) (ro_neD rfl rfl)) rfl)) sc fun G8 H8 n8 => ?_
    · obtain ⟨R, hR, hRy⟩ := h4.get hy
      rw [List.getElem?_map] at hR
      obtain ⟨C, hC, rfl⟩ := Option.map_eq_some_iff.mp hR
      obtain ⟨t, w', rfl, ht, hw⟩ := hRy
      exact eb_repr0 (i := 6) (j := 3) rfl (same_tup (s47.trans gi) ht) rfl (hxR.mono gi) (anyDs_show x hx)
    have s8 : Same H7 H8 := n8.gg.trans n8.gh
    refine seq_letX (G := H7) (ex_pln (C := C_GroupError) ex_cT) s8 fun v10 G10 H10 n10 hv10 => ?_
    dsimp only [gName, List.set_cons_succ, List.set_cons_zero]
    refine ret_let (K := K) (G := G10) (ed_and (K := K) (a := true) (b := true) (ed_op ed_bl (ed_kinds (i := 10) rfl hv10 bex bki) ro_notinK) fun _ => ed_isE3 (i := 10) rfl hv10 bex rel_ty bve) n10.gh fun u _ _ _ hu => dp_bl hu
end Gw
namespace Gw
open PySem PySem.Spec PyProof.Rows L2
/-! ### of which classes an error of a class is -/
def mroT (ds : List Addr) : List Value := ds.map .ref ++ [.type "ValueError", .type "Exception", .type "BaseException", .type "object"]
structure ClsM (K : PySem.W.Frag) (C : Addr) (ds : List Addr) : Prop where
  sub : ∀ v, PySem.W.subIn K (.ref C) v = some ((mroT (C :: ds)).contains v)
  hd : PySem.W.hasDictIn K C = true
  ty : PySem.W.typeIn K (.ref C) = some (.type "type")
section
variable {K : PySem.W.Frag} {C D B : Addr} {ds : List Addr}
theorem clsM_of {nm q : Str} {N : Addr} {bs : List Value} {hd : Bool} {sn : List Str} {sub : List Value} {ab : Bool} {col : Option Bool} {dd : Option Addr} {k0 k1 k2 k3 k5 : Option Value} {n : String}
    (h : K.lookup C = some (excClassObj nm q C N bs (mroT ds) hd sn sub ab col dd k0 k1 k2 k3 k5 n)) (h1 : PySem.W.hasDictIn K C = true) (h2 : PySem.W.typeIn K (.ref C) = some (.type "type")) : ClsM K C ds := by
  have hc : ∃ cd, PySem.W.clsIn K C = some cd ∧ cd.mro = .ref C :: mroT ds := by
    refine ⟨{ name := nm, bases := bs, mro := .ref C :: mroT ds, ns := N, qualname := q, hasDict := hd, slotNames := sn, subclasses := sub, abstract := ab, collection := col, hasDel := false }, ?_, rfl⟩
    unfold PySem.W.clsIn
    rw [h] <;> rfl
  obtain ⟨cd, hcd, hm⟩ := hc
  refine ⟨fun v => ?_, h1, h2⟩
  show (PySem.W.clsIn K C).bind _ = _
  rw [hcd]
  show (if cd.mro.isEmpty then none else some (cd.mro.contains v)) = _
  rw [hm]
  rfl
theorem kit_ref {t : Value} {b : Bool} (hC : ClsM K C ds) (h4 : PySem.W.subIn K t (.ref C) = some b) (hb : (t == .ref C) = false) : PySem.W.kitOne K t (.ref C) = some b := by
  obtain ⟨cd, hc, _⟩ := PySem.W.any_some hC.hd
  have e2 : ((PySem.W.clsIn K C).isSome && PySem.W.typeIn K (.ref C) == some (.type "type")) = true := by rw [hc, hC.ty] <;> rfl
  show (if (t == .ref C) = true then some true else PySem.W.kitCls K t (.ref C)) = some b
  rw [hb, if_neg (by decide)]
  show (if ((PySem.W.clsIn K C).isSome && PySem.W.typeIn K (.ref C) == some (.type "type")) = true then PySem.W.subIn K t (.ref C) else none) = some b
  rw [if_pos e2]
  exact h4
theorem kit_self : PySem.W.kitOne K (.ref C) (.ref C) = some true := if_pos (beq_self_eq_true _)
theorem ref_beq (h : D ≠ C) : ((Value.ref D : Value) == .ref C) = false := by
  rw [beq_eq_false_iff_ne]
  exact fun z => h (by cases z; rfl)
theorem mroT_ref {es : List Addr} : (mroT es).contains (.ref C) = es.contains C := by
  rw [Bool.eq_iff_iff]
  simp [mroT]
theorem kit_to {es : List Addr} (hD : ClsM K D ds) (hC : ClsM K C es) : PySem.W.kitOne K (.ref D) (.ref C) = some ((D :: ds).contains C) := by
  by_cases h : D = C
  · subst h
    rw [kit_self]
    simp
  · exact kit_ref hC ((hD.sub _).trans (by rw [mroT_ref])) (ref_beq h)
theorem kit_ve (hD : ClsM K D ds) : PySem.W.kitOne K (.ref D) (.type "ValueError") = some true := by
  show (if ((Value.ref D : Value) == .type "ValueError") = true then some true else PySem.W.kitCls K (.ref D) (.type "ValueError")) = some true
  split
  · rfl
  · show (if PySem.W.kitMeta "ValueError" = true then PySem.W.subIn K (.ref D) (.type "ValueError") else none) = some true
    rw [if_pos (by rfl), hD.sub]
    simp [mroT]
theorem kinds_of {cls : List Addr} (hall : ∀ C ∈ cls, ClsM K C [B]) (nd : (B :: cls).Nodup) (k : Nat) (D : Addr) (hD : cls[k]? = some D) : Kinds K cls D (fun j => decide ((j : Int) = (k : Int))) := fun j C hC => by
  have hCm := List.mem_of_getElem? hC
  have nB : B ≠ C := fun z => (List.nodup_cons.mp nd).1 (by rw [z]; exact hCm)
  rw [kit_to (hall D (List.mem_of_getElem? hD)) (hall C hCm)]
  have hj := (List.getElem?_eq_some_iff.mp hC).1
  have e : (D = C) ↔ ((j : Int) = (k : Int)) := by
    constructor
    · intro z
      have := (List.getElem?_inj hj (List.nodup_cons.mp nd).2 (j := k)).mp (by rw [hC, hD, z])
      omega
    · intro z
      have : j = k := by omega
      subst this
      rw [hC] at hD
      cases hD
      rfl
  congr 1
  rw [Bool.eq_iff_iff]
  simp only [List.contains_cons, List.contains_nil, Bool.or_false, Bool.or_eq_true, beq_iff_eq, decide_eq_true_eq]
  constructor
  · rintro (z | z)
    · exact e.mp z.symm
    · exact absurd z.symm nB
  · exact fun z => .inl (e.mpr z).symm
theorem kinds_base {cls : List Addr} (hB : ClsM K B []) (hall : ∀ C ∈ cls, ClsM K C [B]) (nd : (B :: cls).Nodup) : Kinds K cls B (fun _ => false) := fun j C hC => by
  have hCm := List.mem_of_getElem? hC
  have nB : B ≠ C := fun z => (List.nodup_cons.mp nd).1 (by rw [z]; exact hCm)
  rw [kit_to hB (hall C hCm)]
  congr 1
  rw [Bool.eq_false_iff]
  simp
  exact fun z => nB z.symm
theorem kit_ge (hB : ClsM K B []) (hD : ClsM K D [B]) : PySem.W.kitOne K (.ref D) (.ref B) = some true := by
  rw [kit_to hD hB]
  simp
end
end Gw
namespace Gw
open PySem PySem.Spec PyProof.Rows PySem.HandSPX L2
/-! ### what the top has written, the head -/
theorem all_mk {l : PySem.W.OpenLaw} {w : World} {K : PySem.W.Frag} {h : Heap} {mg : Str → Option Value} {fa : Addr} (X : K.In h) (G : h.Ns mainGlobals mg) (hfa : mg "law" = some (.ref fa))
    {C_GroupError : Addr}
    {nm_GroupError q_GroupError : Str} {N_GroupError : Addr} {bs_GroupError : List Value} {sn_GroupError : List Str} {sub_GroupError : List Value} {ab_GroupError : Bool} {col_GroupError : Option Bool} {dd_GroupError : Option Addr} {m0_GroupError m1_GroupError m2_GroupError m3_GroupError m5_GroupError : Option Value}
    {C_BadBack : Addr}
    {nm_BadBack q_BadBack : Str} {N_BadBack : Addr} {bs_BadBack : List Value} {sn_BadBack : List Str} {sub_BadBack : List Value} {ab_BadBack : Bool} {col_BadBack : Option Bool} {dd_BadBack : Option Addr} {m0_BadBack m1_BadBack m2_BadBack m3_BadBack m5_BadBack : Option Value}
    {C_BadWord : Addr}
    {nm_BadWord q_BadWord : Str} {N_BadWord : Addr} {bs_BadWord : List Value} {sn_BadWord : List Str} {sub_BadWord : List Value} {ab_BadWord : Bool} {col_BadWord : Option Bool} {dd_BadWord : Option Addr} {m0_BadWord m1_BadWord m2_BadWord m3_BadWord m5_BadWord : Option Value}
    {C_BadStep : Addr}
    {nm_BadStep q_BadStep : Str} {N_BadStep : Addr} {bs_BadStep : List Value} {sn_BadStep : List Str} {sub_BadStep : List Value} {ab_BadStep : Bool} {col_BadStep : Option Bool} {dd_BadStep : Option Addr} {m0_BadStep m1_BadStep m2_BadStep m3_BadStep m5_BadStep : Option Value}
    {C_BadRoad : Addr}
    {nm_BadRoad q_BadRoad : Str} {N_BadRoad : Addr} {bs_BadRoad : List Value} {sn_BadRoad : List Str} {sub_BadRoad : List Value} {ab_BadRoad : Bool} {col_BadRoad : Option Bool} {dd_BadRoad : Option Addr} {m0_BadRoad m1_BadRoad m2_BadRoad m3_BadRoad m5_BadRoad : Option Value}
    {C_BadFraction : Addr}
    {nm_BadFraction q_BadFraction : Str} {N_BadFraction : Addr} {bs_BadFraction : List Value} {sn_BadFraction : List Str} {sub_BadFraction : List Value} {ab_BadFraction : Bool} {col_BadFraction : Option Bool} {dd_BadFraction : Option Addr} {m0_BadFraction m1_BadFraction m2_BadFraction m3_BadFraction m5_BadFraction : Option Value}
    {C_NoGroup : Addr}
    {nm_NoGroup q_NoGroup : Str} {N_NoGroup : Addr} {bs_NoGroup : List Value} {sn_NoGroup : List Str} {sub_NoGroup : List Value} {ab_NoGroup : Bool} {col_NoGroup : Option Bool} {dd_NoGroup : Option Addr} {m0_NoGroup m1_NoGroup m2_NoGroup m3_NoGroup m5_NoGroup : Option Value}
    {C_BadPaper : Addr}
    {nm_BadPaper q_BadPaper : Str} {N_BadPaper : Addr} {bs_BadPaper : List Value} {sn_BadPaper : List Str} {sub_BadPaper : List Value} {ab_BadPaper : Bool} {col_BadPaper : Option Bool} {dd_BadPaper : Option Addr} {m0_BadPaper m1_BadPaper m2_BadPaper m3_BadPaper m5_BadPaper : Option Value}
    {C_BadSpelling : Addr}
    {nm_BadSpelling q_BadSpelling : Str} {N_BadSpelling : Addr} {bs_BadSpelling : List Value} {sn_BadSpelling : List Str} {sub_BadSpelling : List Value} {ab_BadSpelling : Bool} {col_BadSpelling : Option Bool} {dd_BadSpelling : Option Addr} {m0_BadSpelling m1_BadSpelling m2_BadSpelling m3_BadSpelling m5_BadSpelling : Option Value}
    {C_NotShort : Addr}
    {nm_NotShort q_NotShort : Str} {N_NotShort : Addr} {bs_NotShort : List Value} {sn_NotShort : List Str} {sub_NotShort : List Value} {ab_NotShort : Bool} {col_NotShort : Option Bool} {dd_NotShort : Option Addr} {m0_NotShort m1_NotShort m2_NotShort m3_NotShort m5_NotShort : Option Value}
    {C_Endless : Addr}
    {nm_Endless q_Endless : Str} {N_Endless : Addr} {bs_Endless : List Value} {sn_Endless : List Str} {sub_Endless : List Value} {ab_Endless : Bool} {col_Endless : Option Bool} {dd_Endless : Option Addr} {m0_Endless m1_Endless m2_Endless m3_Endless m5_Endless : Option Value}
    {C_BadChange : Addr}
    {nm_BadChange q_BadChange : Str} {N_BadChange : Addr} {bs_BadChange : List Value} {sn_BadChange : List Str} {sub_BadChange : List Value} {ab_BadChange : Bool} {col_BadChange : Option Bool} {dd_BadChange : Option Addr} {m0_BadChange m1_BadChange m2_BadChange m3_BadChange m5_BadChange : Option Value}
    {C_BadQuestion : Addr}
    {nm_BadQuestion q_BadQuestion : Str} {N_BadQuestion : Addr} {bs_BadQuestion : List Value} {sn_BadQuestion : List Str} {sub_BadQuestion : List Value} {ab_BadQuestion : Bool} {col_BadQuestion : Option Bool} {dd_BadQuestion : Option Addr} {m0_BadQuestion m1_BadQuestion m2_BadQuestion m3_BadQuestion m5_BadQuestion : Option Value}
    {C_BadDeed : Addr}
    {nm_BadDeed q_BadDeed : Str} {N_BadDeed : Addr} {bs_BadDeed : List Value} {sn_BadDeed : List Str} {sub_BadDeed : List Value} {ab_BadDeed : Bool} {col_BadDeed : Option Bool} {dd_BadDeed : Option Addr} {m0_BadDeed m1_BadDeed m2_BadDeed m3_BadDeed m5_BadDeed : Option Value}
    {C_BadLive : Addr}
    {nm_BadLive q_BadLive : Str} {N_BadLive : Addr} {bs_BadLive : List Value} {sn_BadLive : List Str} {sub_BadLive : List Value} {ab_BadLive : Bool} {col_BadLive : Option Bool} {dd_BadLive : Option Addr} {m0_BadLive m1_BadLive m2_BadLive m3_BadLive m5_BadLive : Option Value}
    {C_BadValue : Addr}
    {nm_BadValue q_BadValue : Str} {N_BadValue : Addr} {bs_BadValue : List Value} {sn_BadValue : List Str} {sub_BadValue : List Value} {ab_BadValue : Bool} {col_BadValue : Option Bool} {dd_BadValue : Option Addr} {m0_BadValue m1_BadValue m2_BadValue m3_BadValue m5_BadValue : Option Value}
    {C_BadLog : Addr}
    {nm_BadLog q_BadLog : Str} {N_BadLog : Addr} {bs_BadLog : List Value} {sn_BadLog : List Str} {sub_BadLog : List Value} {ab_BadLog : Bool} {col_BadLog : Option Bool} {dd_BadLog : Option Addr} {m0_BadLog m1_BadLog m2_BadLog m3_BadLog m5_BadLog : Option Value}
    {C_BadNumber : Addr}
    {nm_BadNumber q_BadNumber : Str} {N_BadNumber : Addr} {bs_BadNumber : List Value} {sn_BadNumber : List Str} {sub_BadNumber : List Value} {ab_BadNumber : Bool} {col_BadNumber : Option Bool} {dd_BadNumber : Option Addr} {m0_BadNumber m1_BadNumber m2_BadNumber m3_BadNumber m5_BadNumber : Option Value}
    {fI_BadNumber cda_BadNumber cc_BadNumber : Addr}
    {oi_BadNumber : Value} {odi_BadNumber : Option Addr} {doci_BadNumber pmi_BadNumber : Value} {ani_BadNumber : Option Addr} {cti_BadNumber : Value} {osli_BadNumber : Array (Option Value)} {ccl_BadNumber ccv_BadNumber : Value} {cdd_BadNumber cld_BadNumber : Option Addr} {vsi_BadNumber : Array Value} {ccs_BadNumber csl_BadNumber : Array (Option Value)} {file_BadNumber : Str} {tf_BadNumber : Tok}
    {C_BadGroup : Addr}
    {nm_BadGroup q_BadGroup : Str} {N_BadGroup : Addr} {bs_BadGroup : List Value} {sn_BadGroup : List Str} {sub_BadGroup : List Value} {ab_BadGroup : Bool} {col_BadGroup : Option Bool} {dd_BadGroup : Option Addr} {m0_BadGroup m1_BadGroup m2_BadGroup m3_BadGroup m5_BadGroup : Option Value}
    {fI_BadGroup cda_BadGroup cc_BadGroup : Addr}
    {oi_BadGroup : Value} {odi_BadGroup : Option Addr} {doci_BadGroup pmi_BadGroup : Value} {ani_BadGroup : Option Addr} {cti_BadGroup : Value} {osli_BadGroup : Array (Option Value)} {ccl_BadGroup ccv_BadGroup : Value} {cdd_BadGroup cld_BadGroup : Option Addr} {vsi_BadGroup : Array Value} {ccs_BadGroup csl_BadGroup : Array (Option Value)} {file_BadGroup : Str} {tf_BadGroup : Tok}
    {C_BadMachine : Addr}
    {nm_BadMachine q_BadMachine : Str} {N_BadMachine : Addr} {bs_BadMachine : List Value} {sn_BadMachine : List Str} {sub_BadMachine : List Value} {ab_BadMachine : Bool} {col_BadMachine : Option Bool} {dd_BadMachine : Option Addr} {m0_BadMachine m1_BadMachine m2_BadMachine m3_BadMachine m5_BadMachine : Option Value}
    {fI_BadMachine cda_BadMachine cc_BadMachine : Addr}
    {oi_BadMachine : Value} {odi_BadMachine : Option Addr} {doci_BadMachine pmi_BadMachine : Value} {ani_BadMachine : Option Addr} {cti_BadMachine : Value} {osli_BadMachine : Array (Option Value)} {ccl_BadMachine ccv_BadMachine : Value} {cdd_BadMachine cld_BadMachine : Option Addr} {vsi_BadMachine : Array Value} {ccs_BadMachine csl_BadMachine : Array (Option Value)} {file_BadMachine : Str} {tf_BadMachine : Tok}
    {C_BadClaim : Addr}
    {nm_BadClaim q_BadClaim : Str} {N_BadClaim : Addr} {bs_BadClaim : List Value} {sn_BadClaim : List Str} {sub_BadClaim : List Value} {ab_BadClaim : Bool} {col_BadClaim : Option Bool} {dd_BadClaim : Option Addr} {m0_BadClaim m1_BadClaim m2_BadClaim m3_BadClaim m5_BadClaim : Option Value}
    {fI_BadClaim cda_BadClaim cc_BadClaim : Addr}
    {oi_BadClaim : Value} {odi_BadClaim : Option Addr} {doci_BadClaim pmi_BadClaim : Value} {ani_BadClaim : Option Addr} {cti_BadClaim : Value} {osli_BadClaim : Array (Option Value)} {ccl_BadClaim ccv_BadClaim : Value} {cdd_BadClaim cld_BadClaim : Option Addr} {vsi_BadClaim : Array Value} {ccs_BadClaim csl_BadClaim : Array (Option Value)} {file_BadClaim : Str} {tf_BadClaim : Tok}
    {C_BadSystem : Addr}
    {nm_BadSystem q_BadSystem : Str} {N_BadSystem : Addr} {bs_BadSystem : List Value} {sn_BadSystem : List Str} {sub_BadSystem : List Value} {ab_BadSystem : Bool} {col_BadSystem : Option Bool} {dd_BadSystem : Option Addr} {m0_BadSystem m1_BadSystem m2_BadSystem m3_BadSystem m5_BadSystem : Option Value}
    {fI_BadSystem cda_BadSystem cc_BadSystem : Addr}
    {oi_BadSystem : Value} {odi_BadSystem : Option Addr} {doci_BadSystem pmi_BadSystem : Value} {ani_BadSystem : Option Addr} {cti_BadSystem : Value} {osli_BadSystem : Array (Option Value)} {ccl_BadSystem ccv_BadSystem : Value} {cdd_BadSystem cld_BadSystem : Option Addr} {vsi_BadSystem : Array Value} {ccs_BadSystem csl_BadSystem : Array (Option Value)} {file_BadSystem : Str} {tf_BadSystem : Tok}
    {C_BadMap : Addr}
    {nm_BadMap q_BadMap : Str} {N_BadMap : Addr} {bs_BadMap : List Value} {sn_BadMap : List Str} {sub_BadMap : List Value} {ab_BadMap : Bool} {col_BadMap : Option Bool} {dd_BadMap : Option Addr} {m0_BadMap m1_BadMap m2_BadMap m3_BadMap m5_BadMap : Option Value}
    {fI_BadMap cda_BadMap cc_BadMap : Addr}
    {oi_BadMap : Value} {odi_BadMap : Option Addr} {doci_BadMap pmi_BadMap : Value} {ani_BadMap : Option Addr} {cti_BadMap : Value} {osli_BadMap : Array (Option Value)} {ccl_BadMap ccv_BadMap : Value} {cdd_BadMap cld_BadMap : Option Addr} {vsi_BadMap : Array Value} {ccs_BadMap csl_BadMap : Array (Option Value)} {file_BadMap : Str} {tf_BadMap : Tok}
    {C_TooMany : Addr}
    {nm_TooMany q_TooMany : Str} {N_TooMany : Addr} {bs_TooMany : List Value} {sn_TooMany : List Str} {sub_TooMany : List Value} {ab_TooMany : Bool} {col_TooMany : Option Bool} {dd_TooMany : Option Addr} {m0_TooMany m1_TooMany m2_TooMany m3_TooMany m5_TooMany : Option Value}
    {fI_TooMany cda_TooMany cc_TooMany : Addr}
    {oi_TooMany : Value} {odi_TooMany : Option Addr} {doci_TooMany pmi_TooMany : Value} {ani_TooMany : Option Addr} {cti_TooMany : Value} {osli_TooMany : Array (Option Value)} {ccl_TooMany ccv_TooMany : Value} {cdd_TooMany cld_TooMany : Option Addr} {vsi_TooMany : Array Value} {ccs_TooMany csl_TooMany : Array (Option Value)} {file_TooMany : Str} {tf_TooMany : Tok}
    {C_BadSteady : Addr}
    {nm_BadSteady q_BadSteady : Str} {N_BadSteady : Addr} {bs_BadSteady : List Value} {sn_BadSteady : List Str} {sub_BadSteady : List Value} {ab_BadSteady : Bool} {col_BadSteady : Option Bool} {dd_BadSteady : Option Addr} {m0_BadSteady m1_BadSteady m2_BadSteady m3_BadSteady m5_BadSteady : Option Value}
    {fI_BadSteady cda_BadSteady cc_BadSteady : Addr}
    {oi_BadSteady : Value} {odi_BadSteady : Option Addr} {doci_BadSteady pmi_BadSteady : Value} {ani_BadSteady : Option Addr} {cti_BadSteady : Value} {osli_BadSteady : Array (Option Value)} {ccl_BadSteady ccv_BadSteady : Value} {cdd_BadSteady cld_BadSteady : Option Addr} {vsi_BadSteady : Array Value} {ccs_BadSteady csl_BadSteady : Array (Option Value)} {file_BadSteady : Str} {tf_BadSteady : Tok}
    {C_BadJudged : Addr}
    {nm_BadJudged q_BadJudged : Str} {N_BadJudged : Addr} {bs_BadJudged : List Value} {sn_BadJudged : List Str} {sub_BadJudged : List Value} {ab_BadJudged : Bool} {col_BadJudged : Option Bool} {dd_BadJudged : Option Addr} {m0_BadJudged m1_BadJudged m2_BadJudged m3_BadJudged m5_BadJudged : Option Value}
    {fI_BadJudged cda_BadJudged cc_BadJudged : Addr}
    {oi_BadJudged : Value} {odi_BadJudged : Option Addr} {doci_BadJudged pmi_BadJudged : Value} {ani_BadJudged : Option Addr} {cti_BadJudged : Value} {osli_BadJudged : Array (Option Value)} {ccl_BadJudged ccv_BadJudged : Value} {cdd_BadJudged cld_BadJudged : Option Addr} {vsi_BadJudged : Array Value} {ccs_BadJudged csl_BadJudged : Array (Option Value)} {file_BadJudged : Str} {tf_BadJudged : Tok}
    {C_BadSubgroup : Addr}
    {nm_BadSubgroup q_BadSubgroup : Str} {N_BadSubgroup : Addr} {bs_BadSubgroup : List Value} {sn_BadSubgroup : List Str} {sub_BadSubgroup : List Value} {ab_BadSubgroup : Bool} {col_BadSubgroup : Option Bool} {dd_BadSubgroup : Option Addr} {m0_BadSubgroup m1_BadSubgroup m2_BadSubgroup m3_BadSubgroup m5_BadSubgroup : Option Value}
    {fI_BadSubgroup cda_BadSubgroup cc_BadSubgroup : Addr}
    {oi_BadSubgroup : Value} {odi_BadSubgroup : Option Addr} {doci_BadSubgroup pmi_BadSubgroup : Value} {ani_BadSubgroup : Option Addr} {cti_BadSubgroup : Value} {osli_BadSubgroup : Array (Option Value)} {ccl_BadSubgroup ccv_BadSubgroup : Value} {cdd_BadSubgroup cld_BadSubgroup : Option Addr} {vsi_BadSubgroup : Array Value} {ccs_BadSubgroup csl_BadSubgroup : Array (Option Value)} {file_BadSubgroup : Str} {tf_BadSubgroup : Tok}
    {C_BadLefts : Addr}
    {nm_BadLefts q_BadLefts : Str} {N_BadLefts : Addr} {bs_BadLefts : List Value} {sn_BadLefts : List Str} {sub_BadLefts : List Value} {ab_BadLefts : Bool} {col_BadLefts : Option Bool} {dd_BadLefts : Option Addr} {m0_BadLefts m1_BadLefts m2_BadLefts m3_BadLefts m5_BadLefts : Option Value}
    {fI_BadLefts cda_BadLefts cc_BadLefts : Addr}
    {oi_BadLefts : Value} {odi_BadLefts : Option Addr} {doci_BadLefts pmi_BadLefts : Value} {ani_BadLefts : Option Addr} {cti_BadLefts : Value} {osli_BadLefts : Array (Option Value)} {ccl_BadLefts ccv_BadLefts : Value} {cdd_BadLefts cld_BadLefts : Option Addr} {vsi_BadLefts : Array Value} {ccs_BadLefts csl_BadLefts : Array (Option Value)} {file_BadLefts : Str} {tf_BadLefts : Tok}
    {C_NotLet : Addr}
    {nm_NotLet q_NotLet : Str} {N_NotLet : Addr} {bs_NotLet : List Value} {sn_NotLet : List Str} {sub_NotLet : List Value} {ab_NotLet : Bool} {col_NotLet : Option Bool} {dd_NotLet : Option Addr} {m0_NotLet m1_NotLet m2_NotLet m3_NotLet m5_NotLet : Option Value}
    {fI_NotLet cda_NotLet cc_NotLet : Addr}
    {oi_NotLet : Value} {odi_NotLet : Option Addr} {doci_NotLet pmi_NotLet : Value} {ani_NotLet : Option Addr} {cti_NotLet : Value} {osli_NotLet : Array (Option Value)} {ccl_NotLet ccv_NotLet : Value} {cdd_NotLet cld_NotLet : Option Addr} {vsi_NotLet : Array Value} {ccs_NotLet csl_NotLet : Array (Option Value)} {file_NotLet : Str} {tf_NotLet : Tok}
    {C_BadBytes : Addr}
    {nm_BadBytes q_BadBytes : Str} {N_BadBytes : Addr} {bs_BadBytes : List Value} {sn_BadBytes : List Str} {sub_BadBytes : List Value} {ab_BadBytes : Bool} {col_BadBytes : Option Bool} {dd_BadBytes : Option Addr} {m0_BadBytes m1_BadBytes m2_BadBytes m3_BadBytes m5_BadBytes : Option Value}
    {fI_BadBytes cda_BadBytes cc_BadBytes : Addr}
    {oi_BadBytes : Value} {odi_BadBytes : Option Addr} {doci_BadBytes pmi_BadBytes : Value} {ani_BadBytes : Option Addr} {cti_BadBytes : Value} {osli_BadBytes : Array (Option Value)} {ccl_BadBytes ccv_BadBytes : Value} {cdd_BadBytes cld_BadBytes : Option Addr} {vsi_BadBytes : Array Value} {ccs_BadBytes csl_BadBytes : Array (Option Value)} {file_BadBytes : Str} {tf_BadBytes : Tok}
    {C_BadText : Addr}
    {nm_BadText q_BadText : Str} {N_BadText : Addr} {bs_BadText : List Value} {sn_BadText : List Str} {sub_BadText : List Value} {ab_BadText : Bool} {col_BadText : Option Bool} {dd_BadText : Option Addr} {m0_BadText m1_BadText m2_BadText m3_BadText m5_BadText : Option Value}
    {fI_BadText cda_BadText cc_BadText : Addr}
    {oi_BadText : Value} {odi_BadText : Option Addr} {doci_BadText pmi_BadText : Value} {ani_BadText : Option Addr} {cti_BadText : Value} {osli_BadText : Array (Option Value)} {ccl_BadText ccv_BadText : Value} {cdd_BadText cld_BadText : Option Addr} {vsi_BadText : Array Value} {ccs_BadText csl_BadText : Array (Option Value)} {file_BadText : Str} {tf_BadText : Tok}
    {C_BadGiant : Addr}
    {nm_BadGiant q_BadGiant : Str} {N_BadGiant : Addr} {bs_BadGiant : List Value} {sn_BadGiant : List Str} {sub_BadGiant : List Value} {ab_BadGiant : Bool} {col_BadGiant : Option Bool} {dd_BadGiant : Option Addr} {m0_BadGiant m1_BadGiant m2_BadGiant m3_BadGiant m5_BadGiant : Option Value}
    {fI_BadGiant cda_BadGiant cc_BadGiant : Addr}
    {oi_BadGiant : Value} {odi_BadGiant : Option Addr} {doci_BadGiant pmi_BadGiant : Value} {ani_BadGiant : Option Addr} {cti_BadGiant : Value} {osli_BadGiant : Array (Option Value)} {ccl_BadGiant ccv_BadGiant : Value} {cdd_BadGiant cld_BadGiant : Option Addr} {vsi_BadGiant : Array Value} {ccs_BadGiant csl_BadGiant : Array (Option Value)} {file_BadGiant : Str} {tf_BadGiant : Tok}
    {f0 : Addr} {od0 an0 : Option Addr} {sl0 : Array (Option Value)} {oc0 kV0 dc0 pm0 cd0 ct0 : Value}
    {f1 : Addr} {od1 an1 : Option Addr} {sl1 : Array (Option Value)} {oc1 kV1 dc1 pm1 cd1 ct1 : Value}
    {f2 : Addr} {od2 an2 : Option Addr} {sl2 : Array (Option Value)} {oc2 kV2 dc2 pm2 cd2 ct2 : Value}
    {f3 : Addr} {od3 an3 : Option Addr} {sl3 : Array (Option Value)} {oc3 kV3 dc3 pm3 cd3 ct3 : Value}
    {f4 : Addr} {od4 an4 : Option Addr} {sl4 : Array (Option Value)} {oc4 kV4 dc4 pm4 cd4 ct4 : Value}
    {f5 : Addr} {od5 an5 : Option Addr} {sl5 : Array (Option Value)} {oc5 kV5 dc5 pm5 cd5 ct5 : Value}
    {f6 : Addr} {od6 an6 : Option Addr} {sl6 : Array (Option Value)} {oc6 kV6 dc6 pm6 cd6 ct6 : Value}
    {f7 : Addr} {od7 an7 : Option Addr} {sl7 : Array (Option Value)} {oc7 kV7 dc7 pm7 cd7 ct7 : Value}
    {f8 : Addr} {od8 an8 : Option Addr} {sl8 : Array (Option Value)} {oc8 kV8 dc8 pm8 cd8 ct8 : Value}
    (a0 : PySem.W.nsIn K mainGlobals "_law_begun" = some (some (.ref f0)))
    (l0 : K.lookup f0 = some ⟨oc0, od0, .func (PySem.W.fnOf "_law_begun" "_law_begun" (defArgs s_law_begun) (defBody s_law_begun) (defScope s_law_begun) .none kV0 dc0 pm0 an0 cd0 ct0), sl0⟩)
    (c0 : PySem.W.codeIn K cd0 "_law_begun" = true)
    (k0 : PySem.W.keepIn K (.ref f0) = true)
    (a1 : PySem.W.nsIn K mainGlobals "_law_mixed" = some (some (.ref f1)))
    (l1 : K.lookup f1 = some ⟨oc1, od1, .func (PySem.W.fnOf "_law_mixed" "_law_mixed" (defArgs s_law_mixed) (defBody s_law_mixed) (defScope s_law_mixed) .none kV1 dc1 pm1 an1 cd1 ct1), sl1⟩)
    (c1 : PySem.W.codeIn K cd1 "_law_mixed" = true)
    (k1 : PySem.W.keepIn K (.ref f1) = true)
    (a2 : PySem.W.nsIn K mainGlobals "_law_take" = some (some (.ref f2)))
    (l2 : K.lookup f2 = some ⟨oc2, od2, .func (PySem.W.fnOf "_law_take" "_law_take" (defArgs s_law_take) (defBody s_law_take) (defScope s_law_take) .none kV2 dc2 pm2 an2 cd2 ct2), sl2⟩)
    (c2 : PySem.W.codeIn K cd2 "_law_take" = true)
    (k2 : PySem.W.keepIn K (.ref f2) = true)
    (a3 : PySem.W.nsIn K mainGlobals "_law_pick" = some (some (.ref f3)))
    (l3 : K.lookup f3 = some ⟨oc3, od3, .func (PySem.W.fnOf "_law_pick" "_law_pick" (defArgs s_law_pick) (defBody s_law_pick) (defScope s_law_pick) .none kV3 dc3 pm3 an3 cd3 ct3), sl3⟩)
    (c3 : PySem.W.codeIn K cd3 "_law_pick" = true)
    (k3 : PySem.W.keepIn K (.ref f3) = true)
    (a4 : PySem.W.nsIn K mainGlobals "_law_any" = some (some (.ref f4)))
    (l4 : K.lookup f4 = some ⟨oc4, od4, .func (PySem.W.fnOf "_law_any" "_law_any" (defArgs s_law_any) (defBody s_law_any) (defScope s_law_any) .none kV4 dc4 pm4 an4 cd4 ct4), sl4⟩)
    (c4 : PySem.W.codeIn K cd4 "_law_any" = true)
    (k4 : PySem.W.keepIn K (.ref f4) = true)
    (a5 : PySem.W.nsIn K mainGlobals "_law_kinds" = some (some (.ref f5)))
    (l5 : K.lookup f5 = some ⟨oc5, od5, .func (PySem.W.fnOf "_law_kinds" "_law_kinds" (defArgs s_law_kinds) (defBody s_law_kinds) (defScope s_law_kinds) .none kV5 dc5 pm5 an5 cd5 ct5), sl5⟩)
    (c5 : PySem.W.codeIn K cd5 "_law_kinds" = true)
    (k5 : PySem.W.keepIn K (.ref f5) = true)
    (a6 : PySem.W.nsIn K mainGlobals "_law_plain_errors" = some (some (.ref f6)))
    (l6 : K.lookup f6 = some ⟨oc6, od6, .func (PySem.W.fnOf "_law_plain_errors" "_law_plain_errors" (defArgs s_law_plain_errors) (defBody s_law_plain_errors) (defScope s_law_plain_errors) .none kV6 dc6 pm6 an6 cd6 ct6), sl6⟩)
    (c6 : PySem.W.codeIn K cd6 "_law_plain_errors" = true)
    (k6 : PySem.W.keepIn K (.ref f6) = true)
    (a7 : PySem.W.nsIn K mainGlobals "_law_errors_of" = some (some (.ref f7)))
    (l7 : K.lookup f7 = some ⟨oc7, od7, .func (PySem.W.fnOf "_law_errors_of" "_law_errors_of" (defArgs s_law_errors_of) (defBody s_law_errors_of) (defScope s_law_errors_of) .none kV7 dc7 pm7 an7 cd7 ct7), sl7⟩)
    (c7 : PySem.W.codeIn K cd7 "_law_errors_of" = true)
    (k7 : PySem.W.keepIn K (.ref f7) = true)
    (a8 : PySem.W.nsIn K mainGlobals "law" = some (some (.ref f8)))
    (l8 : K.lookup f8 = some ⟨oc8, od8, .func (PySem.W.fnOf "law" "law" (defArgs s_law) (defBody s_law) (defScope s_law) .none kV8 dc8 pm8 an8 cd8 ct8), sl8⟩)
    (c8 : PySem.W.codeIn K cd8 "law" = true)
    (k8 : PySem.W.keepIn K (.ref f8) = true)
    (z_len : PySem.W.nsIn K mainGlobals "len" = some none)
    (z_int : PySem.W.nsIn K mainGlobals "int" = some none)
    (z_bool : PySem.W.nsIn K mainGlobals "bool" = some none)
    (z_str : PySem.W.nsIn K mainGlobals "str" = some none)
    (z_list : PySem.W.nsIn K mainGlobals "list" = some none)
    (z_tuple : PySem.W.nsIn K mainGlobals "tuple" = some none)
    (z_dict : PySem.W.nsIn K mainGlobals "dict" = some none)
    (z_isinstance : PySem.W.nsIn K mainGlobals "isinstance" = some none)
    (z_all : PySem.W.nsIn K mainGlobals "all" = some none)
    (z_any : PySem.W.nsIn K mainGlobals "any" = some none)
    (z_abs : PySem.W.nsIn K mainGlobals "abs" = some none)
    (z_min : PySem.W.nsIn K mainGlobals "min" = some none)
    (z_max : PySem.W.nsIn K mainGlobals "max" = some none)
    (z_range : PySem.W.nsIn K mainGlobals "range" = some none)
    (z_enumerate : PySem.W.nsIn K mainGlobals "enumerate" = some none)
    (z_repr : PySem.W.nsIn K mainGlobals "repr" = some none)
    (z_sorted : PySem.W.nsIn K mainGlobals "sorted" = some none)
    (z_super : PySem.W.nsIn K mainGlobals "super" = some none)
    (z_ValueError : PySem.W.nsIn K mainGlobals "ValueError" = some none)
    (z_op : PySem.W.nsIn K cStatics "thirdparty.any" = some none)
    (h_top : (l.prog.main.scope.names.lookup ("super" : Str)).isSome = false)
    (xg_GroupError : PySem.W.nsIn K mainGlobals "GroupError" = some (some (.ref C_GroupError)))
    (xx_GroupError : K.lookup C_GroupError = some (excClassObj nm_GroupError q_GroupError C_GroupError N_GroupError bs_GroupError [.type "ValueError", .type "Exception", .type "BaseException", .type "object"] true sn_GroupError sub_GroupError ab_GroupError col_GroupError dd_GroupError m0_GroupError m1_GroupError m2_GroupError m3_GroupError m5_GroupError "ValueError.__new__"))
    (xb_GroupError : PySem.W.subIn K (.ref C_GroupError) (.type "BaseException") = some true)
    (xt_GroupError : PySem.W.typeIn K (.ref C_GroupError) = some (.type "type"))
    (xd_GroupError : PySem.W.hasDictIn K C_GroupError = true)
    (xk_GroupError : PySem.W.keepIn K (.ref C_GroupError) = true)
    (xa_GroupError : PySem.W.findIn K (.ref C_GroupError) "__getattribute__" = some (some (.builtin "BaseException.__getattribute__")))
    (xh_GroupError : PySem.W.findIn K (.ref C_GroupError) "__getattr__" = some none)
    (xc_GroupError : PySem.W.findIn K (.ref C_GroupError) "__class__" = some (some (.builtin "object.__class__")))
    (xm_GroupError : PySem.W.mroIn K C_GroupError (.type "object") = some true)
    (xy_GroupError : PySem.W.excIn K C_GroupError [.type "ValueError", .type "Exception", .type "BaseException", .type "object"] "ValueError.__new__" = true)
    (xg_BadBack : PySem.W.nsIn K mainGlobals "BadBack" = some (some (.ref C_BadBack)))
    (xx_BadBack : K.lookup C_BadBack = some (excClassObj nm_BadBack q_BadBack C_BadBack N_BadBack bs_BadBack [.ref C_GroupError, .type "ValueError", .type "Exception", .type "BaseException", .type "object"] true sn_BadBack sub_BadBack ab_BadBack col_BadBack dd_BadBack m0_BadBack m1_BadBack m2_BadBack m3_BadBack m5_BadBack "ValueError.__new__"))
    (xb_BadBack : PySem.W.subIn K (.ref C_BadBack) (.type "BaseException") = some true)
    (xt_BadBack : PySem.W.typeIn K (.ref C_BadBack) = some (.type "type"))
    (xd_BadBack : PySem.W.hasDictIn K C_BadBack = true)
    (xk_BadBack : PySem.W.keepIn K (.ref C_BadBack) = true)
    (xa_BadBack : PySem.W.findIn K (.ref C_BadBack) "__getattribute__" = some (some (.builtin "BaseException.__getattribute__")))
    (xh_BadBack : PySem.W.findIn K (.ref C_BadBack) "__getattr__" = some none)
    (xc_BadBack : PySem.W.findIn K (.ref C_BadBack) "__class__" = some (some (.builtin "object.__class__")))
    (xm_BadBack : PySem.W.mroIn K C_BadBack (.type "object") = some true)
    (xy_BadBack : PySem.W.excIn K C_BadBack [.type "ValueError", .type "Exception", .type "BaseException", .type "object"] "ValueError.__new__" = true)
    (xg_BadWord : PySem.W.nsIn K mainGlobals "BadWord" = some (some (.ref C_BadWord)))
    (xx_BadWord : K.lookup C_BadWord = some (excClassObj nm_BadWord q_BadWord C_BadWord N_BadWord bs_BadWord [.ref C_GroupError, .type "ValueError", .type "Exception", .type "BaseException", .type "object"] true sn_BadWord sub_BadWord ab_BadWord col_BadWord dd_BadWord m0_BadWord m1_BadWord m2_BadWord m3_BadWord m5_BadWord "ValueError.__new__"))
    (xb_BadWord : PySem.W.subIn K (.ref C_BadWord) (.type "BaseException") = some true)
    (xt_BadWord : PySem.W.typeIn K (.ref C_BadWord) = some (.type "type"))
    (xd_BadWord : PySem.W.hasDictIn K C_BadWord = true)
    (xk_BadWord : PySem.W.keepIn K (.ref C_BadWord) = true)
    (xa_BadWord : PySem.W.findIn K (.ref C_BadWord) "__getattribute__" = some (some (.builtin "BaseException.__getattribute__")))
    (xh_BadWord : PySem.W.findIn K (.ref C_BadWord) "__getattr__" = some none)
    (xc_BadWord : PySem.W.findIn K (.ref C_BadWord) "__class__" = some (some (.builtin "object.__class__")))
    (xm_BadWord : PySem.W.mroIn K C_BadWord (.type "object") = some true)
    (xy_BadWord : PySem.W.excIn K C_BadWord [.type "ValueError", .type "Exception", .type "BaseException", .type "object"] "ValueError.__new__" = true)
    (xg_BadStep : PySem.W.nsIn K mainGlobals "BadStep" = some (some (.ref C_BadStep)))
    (xx_BadStep : K.lookup C_BadStep = some (excClassObj nm_BadStep q_BadStep C_BadStep N_BadStep bs_BadStep [.ref C_GroupError, .type "ValueError", .type "Exception", .type "BaseException", .type "object"] true sn_BadStep sub_BadStep ab_BadStep col_BadStep dd_BadStep m0_BadStep m1_BadStep m2_BadStep m3_BadStep m5_BadStep "ValueError.__new__"))
    (xb_BadStep : PySem.W.subIn K (.ref C_BadStep) (.type "BaseException") = some true)
    (xt_BadStep : PySem.W.typeIn K (.ref C_BadStep) = some (.type "type"))
    (xd_BadStep : PySem.W.hasDictIn K C_BadStep = true)
    (xk_BadStep : PySem.W.keepIn K (.ref C_BadStep) = true)
    (xa_BadStep : PySem.W.findIn K (.ref C_BadStep) "__getattribute__" = some (some (.builtin "BaseException.__getattribute__")))
    (xh_BadStep : PySem.W.findIn K (.ref C_BadStep) "__getattr__" = some none)
    (xc_BadStep : PySem.W.findIn K (.ref C_BadStep) "__class__" = some (some (.builtin "object.__class__")))
    (xm_BadStep : PySem.W.mroIn K C_BadStep (.type "object") = some true)
    (xy_BadStep : PySem.W.excIn K C_BadStep [.type "ValueError", .type "Exception", .type "BaseException", .type "object"] "ValueError.__new__" = true)
    (xg_BadRoad : PySem.W.nsIn K mainGlobals "BadRoad" = some (some (.ref C_BadRoad)))
    (xx_BadRoad : K.lookup C_BadRoad = some (excClassObj nm_BadRoad q_BadRoad C_BadRoad N_BadRoad bs_BadRoad [.ref C_GroupError, .type "ValueError", .type "Exception", .type "BaseException", .type "object"] true sn_BadRoad sub_BadRoad ab_BadRoad col_BadRoad dd_BadRoad m0_BadRoad m1_BadRoad m2_BadRoad m3_BadRoad m5_BadRoad "ValueError.__new__"))
    (xb_BadRoad : PySem.W.subIn K (.ref C_BadRoad) (.type "BaseException") = some true)
    (xt_BadRoad : PySem.W.typeIn K (.ref C_BadRoad) = some (.type "type"))
    (xd_BadRoad : PySem.W.hasDictIn K C_BadRoad = true)
    (xk_BadRoad : PySem.W.keepIn K (.ref C_BadRoad) = true)
    (xa_BadRoad : PySem.W.findIn K (.ref C_BadRoad) "__getattribute__" = some (some (.builtin "BaseException.__getattribute__")))
    (xh_BadRoad : PySem.W.findIn K (.ref C_BadRoad) "__getattr__" = some none)
    (xc_BadRoad : PySem.W.findIn K (.ref C_BadRoad) "__class__" = some (some (.builtin "object.__class__")))
    (xm_BadRoad : PySem.W.mroIn K C_BadRoad (.type "object") = some true)
    (xy_BadRoad : PySem.W.excIn K C_BadRoad [.type "ValueError", .type "Exception", .type "BaseException", .type "object"] "ValueError.__new__" = true)
    (xg_BadFraction : PySem.W.nsIn K mainGlobals "BadFraction" = some (some (.ref C_BadFraction)))
    (xx_BadFraction : K.lookup C_BadFraction = some (excClassObj nm_BadFraction q_BadFraction C_BadFraction N_BadFraction bs_BadFraction [.ref C_GroupError, .type "ValueError", .type "Exception", .type "BaseException", .type "object"] true sn_BadFraction sub_BadFraction ab_BadFraction col_BadFraction dd_BadFraction m0_BadFraction m1_BadFraction m2_BadFraction m3_BadFraction m5_BadFraction "ValueError.__new__"))
    (xb_BadFraction : PySem.W.subIn K (.ref C_BadFraction) (.type "BaseException") = some true)
    (xt_BadFraction : PySem.W.typeIn K (.ref C_BadFraction) = some (.type "type"))
    (xd_BadFraction : PySem.W.hasDictIn K C_BadFraction = true)
    (xk_BadFraction : PySem.W.keepIn K (.ref C_BadFraction) = true)
    (xa_BadFraction : PySem.W.findIn K (.ref C_BadFraction) "__getattribute__" = some (some (.builtin "BaseException.__getattribute__")))
    (xh_BadFraction : PySem.W.findIn K (.ref C_BadFraction) "__getattr__" = some none)
    (xc_BadFraction : PySem.W.findIn K (.ref C_BadFraction) "__class__" = some (some (.builtin "object.__class__")))
    (xm_BadFraction : PySem.W.mroIn K C_BadFraction (.type "object") = some true)
    (xy_BadFraction : PySem.W.excIn K C_BadFraction [.type "ValueError", .type "Exception", .type "BaseException", .type "object"] "ValueError.__new__" = true)
    (xg_NoGroup : PySem.W.nsIn K mainGlobals "NoGroup" = some (some (.ref C_NoGroup)))
    (xx_NoGroup : K.lookup C_NoGroup = some (excClassObj nm_NoGroup q_NoGroup C_NoGroup N_NoGroup bs_NoGroup [.ref C_GroupError, .type "ValueError", .type "Exception", .type "BaseException", .type "object"] true sn_NoGroup sub_NoGroup ab_NoGroup col_NoGroup dd_NoGroup m0_NoGroup m1_NoGroup m2_NoGroup m3_NoGroup m5_NoGroup "ValueError.__new__"))
    (xb_NoGroup : PySem.W.subIn K (.ref C_NoGroup) (.type "BaseException") = some true)
    (xt_NoGroup : PySem.W.typeIn K (.ref C_NoGroup) = some (.type "type"))
    (xd_NoGroup : PySem.W.hasDictIn K C_NoGroup = true)
    (xk_NoGroup : PySem.W.keepIn K (.ref C_NoGroup) = true)
    (xa_NoGroup : PySem.W.findIn K (.ref C_NoGroup) "__getattribute__" = some (some (.builtin "BaseException.__getattribute__")))
    (xh_NoGroup : PySem.W.findIn K (.ref C_NoGroup) "__getattr__" = some none)
    (xc_NoGroup : PySem.W.findIn K (.ref C_NoGroup) "__class__" = some (some (.builtin "object.__class__")))
    (xm_NoGroup : PySem.W.mroIn K C_NoGroup (.type "object") = some true)
    (xy_NoGroup : PySem.W.excIn K C_NoGroup [.type "ValueError", .type "Exception", .type "BaseException", .type "object"] "ValueError.__new__" = true)
    (xg_BadPaper : PySem.W.nsIn K mainGlobals "BadPaper" = some (some (.ref C_BadPaper)))
    (xx_BadPaper : K.lookup C_BadPaper = some (excClassObj nm_BadPaper q_BadPaper C_BadPaper N_BadPaper bs_BadPaper [.ref C_GroupError, .type "ValueError", .type "Exception", .type "BaseException", .type "object"] true sn_BadPaper sub_BadPaper ab_BadPaper col_BadPaper dd_BadPaper m0_BadPaper m1_BadPaper m2_BadPaper m3_BadPaper m5_BadPaper "ValueError.__new__"))
    (xb_BadPaper : PySem.W.subIn K (.ref C_BadPaper) (.type "BaseException") = some true)
    (xt_BadPaper : PySem.W.typeIn K (.ref C_BadPaper) = some (.type "type"))
    (xd_BadPaper : PySem.W.hasDictIn K C_BadPaper = true)
    (xk_BadPaper : PySem.W.keepIn K (.ref C_BadPaper) = true)
    (xa_BadPaper : PySem.W.findIn K (.ref C_BadPaper) "__getattribute__" = some (some (.builtin "BaseException.__getattribute__")))
    (xh_BadPaper : PySem.W.findIn K (.ref C_BadPaper) "__getattr__" = some none)
    (xc_BadPaper : PySem.W.findIn K (.ref C_BadPaper) "__class__" = some (some (.builtin "object.__class__")))
    (xm_BadPaper : PySem.W.mroIn K C_BadPaper (.type "object") = some true)
    (xy_BadPaper : PySem.W.excIn K C_BadPaper [.type "ValueError", .type "Exception", .type "BaseException", .type "object"] "ValueError.__new__" = true)
    (xg_BadSpelling : PySem.W.nsIn K mainGlobals "BadSpelling" = some (some (.ref C_BadSpelling)))
    (xx_BadSpelling : K.lookup C_BadSpelling = some (excClassObj nm_BadSpelling q_BadSpelling C_BadSpelling N_BadSpelling bs_BadSpelling [.ref C_GroupError, .type "ValueError", .type "Exception", .type "BaseException", .type "object"] true sn_BadSpelling sub_BadSpelling ab_BadSpelling col_BadSpelling dd_BadSpelling m0_BadSpelling m1_BadSpelling m2_BadSpelling m3_BadSpelling m5_BadSpelling "ValueError.__new__"))
    (xb_BadSpelling : PySem.W.subIn K (.ref C_BadSpelling) (.type "BaseException") = some true)
    (xt_BadSpelling : PySem.W.typeIn K (.ref C_BadSpelling) = some (.type "type"))
    (xd_BadSpelling : PySem.W.hasDictIn K C_BadSpelling = true)
    (xk_BadSpelling : PySem.W.keepIn K (.ref C_BadSpelling) = true)
    (xa_BadSpelling : PySem.W.findIn K (.ref C_BadSpelling) "__getattribute__" = some (some (.builtin "BaseException.__getattribute__")))
    (xh_BadSpelling : PySem.W.findIn K (.ref C_BadSpelling) "__getattr__" = some none)
    (xc_BadSpelling : PySem.W.findIn K (.ref C_BadSpelling) "__class__" = some (some (.builtin "object.__class__")))
    (xm_BadSpelling : PySem.W.mroIn K C_BadSpelling (.type "object") = some true)
    (xy_BadSpelling : PySem.W.excIn K C_BadSpelling [.type "ValueError", .type "Exception", .type "BaseException", .type "object"] "ValueError.__new__" = true)
    (xg_NotShort : PySem.W.nsIn K mainGlobals "NotShort" = some (some (.ref C_NotShort)))
    (xx_NotShort : K.lookup C_NotShort = some (excClassObj nm_NotShort q_NotShort C_NotShort N_NotShort bs_NotShort [.ref C_GroupError, .type "ValueError", .type "Exception", .type "BaseException", .type "object"] true sn_NotShort sub_NotShort ab_NotShort col_NotShort dd_NotShort m0_NotShort m1_NotShort m2_NotShort m3_NotShort m5_NotShort "ValueError.__new__"))
    (xb_NotShort : PySem.W.subIn K (.ref C_NotShort) (.type "BaseException") = some true)
    (xt_NotShort : PySem.W.typeIn K (.ref C_NotShort) = some (.type "type"))
    (xd_NotShort : PySem.W.hasDictIn K C_NotShort = true)
    (xk_NotShort : PySem.W.keepIn K (.ref C_NotShort) = true)
    (xa_NotShort : PySem.W.findIn K (.ref C_NotShort) "__getattribute__" = some (some (.builtin "BaseException.__getattribute__")))
    (xh_NotShort : PySem.W.findIn K (.ref C_NotShort) "__getattr__" = some none)
    (xc_NotShort : PySem.W.findIn K (.ref C_NotShort) "__class__" = some (some (.builtin "object.__class__")))
    (xm_NotShort : PySem.W.mroIn K C_NotShort (.type "object") = some true)
    (xy_NotShort : PySem.W.excIn K C_NotShort [.type "ValueError", .type "Exception", .type "BaseException", .type "object"] "ValueError.__new__" = true)
    (xg_Endless : PySem.W.nsIn K mainGlobals "Endless" = some (some (.ref C_Endless)))
    (xx_Endless : K.lookup C_Endless = some (excClassObj nm_Endless q_Endless C_Endless N_Endless bs_Endless [.ref C_GroupError, .type "ValueError", .type "Exception", .type "BaseException", .type "object"] true sn_Endless sub_Endless ab_Endless col_Endless dd_Endless m0_Endless m1_Endless m2_Endless m3_Endless m5_Endless "ValueError.__new__"))
    (xb_Endless : PySem.W.subIn K (.ref C_Endless) (.type "BaseException") = some true)
    (xt_Endless : PySem.W.typeIn K (.ref C_Endless) = some (.type "type"))
    (xd_Endless : PySem.W.hasDictIn K C_Endless = true)
    (xk_Endless : PySem.W.keepIn K (.ref C_Endless) = true)
    (xa_Endless : PySem.W.findIn K (.ref C_Endless) "__getattribute__" = some (some (.builtin "BaseException.__getattribute__")))
    (xh_Endless : PySem.W.findIn K (.ref C_Endless) "__getattr__" = some none)
    (xc_Endless : PySem.W.findIn K (.ref C_Endless) "__class__" = some (some (.builtin "object.__class__")))
    (xm_Endless : PySem.W.mroIn K C_Endless (.type "object") = some true)
    (xy_Endless : PySem.W.excIn K C_Endless [.type "ValueError", .type "Exception", .type "BaseException", .type "object"] "ValueError.__new__" = true)
    (xg_BadChange : PySem.W.nsIn K mainGlobals "BadChange" = some (some (.ref C_BadChange)))
    (xx_BadChange : K.lookup C_BadChange = some (excClassObj nm_BadChange q_BadChange C_BadChange N_BadChange bs_BadChange [.ref C_GroupError, .type "ValueError", .type "Exception", .type "BaseException", .type "object"] true sn_BadChange sub_BadChange ab_BadChange col_BadChange dd_BadChange m0_BadChange m1_BadChange m2_BadChange m3_BadChange m5_BadChange "ValueError.__new__"))
    (xb_BadChange : PySem.W.subIn K (.ref C_BadChange) (.type "BaseException") = some true)
    (xt_BadChange : PySem.W.typeIn K (.ref C_BadChange) = some (.type "type"))
    (xd_BadChange : PySem.W.hasDictIn K C_BadChange = true)
    (xk_BadChange : PySem.W.keepIn K (.ref C_BadChange) = true)
    (xa_BadChange : PySem.W.findIn K (.ref C_BadChange) "__getattribute__" = some (some (.builtin "BaseException.__getattribute__")))
    (xh_BadChange : PySem.W.findIn K (.ref C_BadChange) "__getattr__" = some none)
    (xc_BadChange : PySem.W.findIn K (.ref C_BadChange) "__class__" = some (some (.builtin "object.__class__")))
    (xm_BadChange : PySem.W.mroIn K C_BadChange (.type "object") = some true)
    (xy_BadChange : PySem.W.excIn K C_BadChange [.type "ValueError", .type "Exception", .type "BaseException", .type "object"] "ValueError.__new__" = true)
    (xg_BadQuestion : PySem.W.nsIn K mainGlobals "BadQuestion" = some (some (.ref C_BadQuestion)))
    (xx_BadQuestion : K.lookup C_BadQuestion = some (excClassObj nm_BadQuestion q_BadQuestion C_BadQuestion N_BadQuestion bs_BadQuestion [.ref C_GroupError, .type "ValueError", .type "Exception", .type "BaseException", .type "object"] true sn_BadQuestion sub_BadQuestion ab_BadQuestion col_BadQuestion dd_BadQuestion m0_BadQuestion m1_BadQuestion m2_BadQuestion m3_BadQuestion m5_BadQuestion "ValueError.__new__"))
    (xb_BadQuestion : PySem.W.subIn K (.ref C_BadQuestion) (.type "BaseException") = some true)
    (xt_BadQuestion : PySem.W.typeIn K (.ref C_BadQuestion) = some (.type "type"))
    (xd_BadQuestion : PySem.W.hasDictIn K C_BadQuestion = true)
    (xk_BadQuestion : PySem.W.keepIn K (.ref C_BadQuestion) = true)
    (xa_BadQuestion : PySem.W.findIn K (.ref C_BadQuestion) "__getattribute__" = some (some (.builtin "BaseException.__getattribute__")))
    (xh_BadQuestion : PySem.W.findIn K (.ref C_BadQuestion) "__getattr__" = some none)
    (xc_BadQuestion : PySem.W.findIn K (.ref C_BadQuestion) "__class__" = some (some (.builtin "object.__class__")))
    (xm_BadQuestion : PySem.W.mroIn K C_BadQuestion (.type "object") = some true)
    (xy_BadQuestion : PySem.W.excIn K C_BadQuestion [.type "ValueError", .type "Exception", .type "BaseException", .type "object"] "ValueError.__new__" = true)
    (xg_BadDeed : PySem.W.nsIn K mainGlobals "BadDeed" = some (some (.ref C_BadDeed)))
    (xx_BadDeed : K.lookup C_BadDeed = some (excClassObj nm_BadDeed q_BadDeed C_BadDeed N_BadDeed bs_BadDeed [.ref C_GroupError, .type "ValueError", .type "Exception", .type "BaseException", .type "object"] true sn_BadDeed sub_BadDeed ab_BadDeed col_BadDeed dd_BadDeed m0_BadDeed m1_BadDeed m2_BadDeed m3_BadDeed m5_BadDeed "ValueError.__new__"))
    (xb_BadDeed : PySem.W.subIn K (.ref C_BadDeed) (.type "BaseException") = some true)
    (xt_BadDeed : PySem.W.typeIn K (.ref C_BadDeed) = some (.type "type"))
    (xd_BadDeed : PySem.W.hasDictIn K C_BadDeed = true)
    (xk_BadDeed : PySem.W.keepIn K (.ref C_BadDeed) = true)
    (xa_BadDeed : PySem.W.findIn K (.ref C_BadDeed) "__getattribute__" = some (some (.builtin "BaseException.__getattribute__")))
    (xh_BadDeed : PySem.W.findIn K (.ref C_BadDeed) "__getattr__" = some none)
    (xc_BadDeed : PySem.W.findIn K (.ref C_BadDeed) "__class__" = some (some (.builtin "object.__class__")))
    (xm_BadDeed : PySem.W.mroIn K C_BadDeed (.type "object") = some true)
    (xy_BadDeed : PySem.W.excIn K C_BadDeed [.type "ValueError", .type "Exception", .type "BaseException", .type "object"] "ValueError.__new__" = true)
    (xg_BadLive : PySem.W.nsIn K mainGlobals "BadLive" = some (some (.ref C_BadLive)))
    (xx_BadLive : K.lookup C_BadLive = some (excClassObj nm_BadLive q_BadLive C_BadLive N_BadLive bs_BadLive [.ref C_GroupError, .type "ValueError", .type "Exception", .type "BaseException", .type "object"] true sn_BadLive sub_BadLive ab_BadLive col_BadLive dd_BadLive m0_BadLive m1_BadLive m2_BadLive m3_BadLive m5_BadLive "ValueError.__new__"))
    (xb_BadLive : PySem.W.subIn K (.ref C_BadLive) (.type "BaseException") = some true)
    (xt_BadLive : PySem.W.typeIn K (.ref C_BadLive) = some (.type "type"))
    (xd_BadLive : PySem.W.hasDictIn K C_BadLive = true)
    (xk_BadLive : PySem.W.keepIn K (.ref C_BadLive) = true)
    (xa_BadLive : PySem.W.findIn K (.ref C_BadLive) "__getattribute__" = some (some (.builtin "BaseException.__getattribute__")))
    (xh_BadLive : PySem.W.findIn K (.ref C_BadLive) "__getattr__" = some none)
    (xc_BadLive : PySem.W.findIn K (.ref C_BadLive) "__class__" = some (some (.builtin "object.__class__")))
    (xm_BadLive : PySem.W.mroIn K C_BadLive (.type "object") = some true)
    (xy_BadLive : PySem.W.excIn K C_BadLive [.type "ValueError", .type "Exception", .type "BaseException", .type "object"] "ValueError.__new__" = true)
    (xg_BadValue : PySem.W.nsIn K mainGlobals "BadValue" = some (some (.ref C_BadValue)))
    (xx_BadValue : K.lookup C_BadValue = some (excClassObj nm_BadValue q_BadValue C_BadValue N_BadValue bs_BadValue [.ref C_GroupError, .type "ValueError", .type "Exception", .type "BaseException", .type "object"] true sn_BadValue sub_BadValue ab_BadValue col_BadValue dd_BadValue m0_BadValue m1_BadValue m2_BadValue m3_BadValue m5_BadValue "ValueError.__new__"))
    (xb_BadValue : PySem.W.subIn K (.ref C_BadValue) (.type "BaseException") = some true)
    (xt_BadValue : PySem.W.typeIn K (.ref C_BadValue) = some (.type "type"))
    (xd_BadValue : PySem.W.hasDictIn K C_BadValue = true)
    (xk_BadValue : PySem.W.keepIn K (.ref C_BadValue) = true)
    (xa_BadValue : PySem.W.findIn K (.ref C_BadValue) "__getattribute__" = some (some (.builtin "BaseException.__getattribute__")))
    (xh_BadValue : PySem.W.findIn K (.ref C_BadValue) "__getattr__" = some none)
    (xc_BadValue : PySem.W.findIn K (.ref C_BadValue) "__class__" = some (some (.builtin "object.__class__")))
    (xm_BadValue : PySem.W.mroIn K C_BadValue (.type "object") = some true)
    (xy_BadValue : PySem.W.excIn K C_BadValue [.type "ValueError", .type "Exception", .type "BaseException", .type "object"] "ValueError.__new__" = true)
    (xg_BadLog : PySem.W.nsIn K mainGlobals "BadLog" = some (some (.ref C_BadLog)))
    (xx_BadLog : K.lookup C_BadLog = some (excClassObj nm_BadLog q_BadLog C_BadLog N_BadLog bs_BadLog [.ref C_GroupError, .type "ValueError", .type "Exception", .type "BaseException", .type "object"] true sn_BadLog sub_BadLog ab_BadLog col_BadLog dd_BadLog m0_BadLog m1_BadLog m2_BadLog m3_BadLog m5_BadLog "ValueError.__new__"))
    (xb_BadLog : PySem.W.subIn K (.ref C_BadLog) (.type "BaseException") = some true)
    (xt_BadLog : PySem.W.typeIn K (.ref C_BadLog) = some (.type "type"))
    (xd_BadLog : PySem.W.hasDictIn K C_BadLog = true)
    (xk_BadLog : PySem.W.keepIn K (.ref C_BadLog) = true)
    (xa_BadLog : PySem.W.findIn K (.ref C_BadLog) "__getattribute__" = some (some (.builtin "BaseException.__getattribute__")))
    (xh_BadLog : PySem.W.findIn K (.ref C_BadLog) "__getattr__" = some none)
    (xc_BadLog : PySem.W.findIn K (.ref C_BadLog) "__class__" = some (some (.builtin "object.__class__")))
    (xm_BadLog : PySem.W.mroIn K C_BadLog (.type "object") = some true)
    (xy_BadLog : PySem.W.excIn K C_BadLog [.type "ValueError", .type "Exception", .type "BaseException", .type "object"] "ValueError.__new__" = true)
    (xg_BadNumber : PySem.W.nsIn K mainGlobals "BadNumber" = some (some (.ref C_BadNumber)))
    (xx_BadNumber : K.lookup C_BadNumber = some (excClassObj nm_BadNumber q_BadNumber C_BadNumber N_BadNumber bs_BadNumber [.ref C_GroupError, .type "ValueError", .type "Exception", .type "BaseException", .type "object"] true sn_BadNumber sub_BadNumber ab_BadNumber col_BadNumber dd_BadNumber m0_BadNumber m1_BadNumber m2_BadNumber m3_BadNumber m5_BadNumber "ValueError.__new__"))
    (xb_BadNumber : PySem.W.subIn K (.ref C_BadNumber) (.type "BaseException") = some true)
    (xt_BadNumber : PySem.W.typeIn K (.ref C_BadNumber) = some (.type "type"))
    (xd_BadNumber : PySem.W.hasDictIn K C_BadNumber = true)
    (xk_BadNumber : PySem.W.keepIn K (.ref C_BadNumber) = true)
    (xa_BadNumber : PySem.W.findIn K (.ref C_BadNumber) "__getattribute__" = some (some (.builtin "BaseException.__getattribute__")))
    (xh_BadNumber : PySem.W.findIn K (.ref C_BadNumber) "__getattr__" = some none)
    (xc_BadNumber : PySem.W.findIn K (.ref C_BadNumber) "__class__" = some (some (.builtin "object.__class__")))
    (xm_BadNumber : PySem.W.mroIn K C_BadNumber (.type "object") = some true)
    (xsa_BadNumber : PySem.W.findIn K (.ref C_BadNumber) "__setattr__" = some (some (.builtin "object.__setattr__")))
    (xn_BadNumber : PySem.W.findIn K (.ref C_BadNumber) "part" = some none)
    (xi_BadNumber : PySem.W.findIn K (.ref C_BadNumber) "__init__" = some (some (.ref fI_BadNumber)))
    (xf_BadNumber : PySem.W.typeIn K (.ref fI_BadNumber) = some (.type "function"))
    (xv_BadNumber : PySem.W.subIn K (.ref C_BadNumber) (.type "ValueError") = some true)
    (xo_BadNumber : PySem.W.mroIn K C_BadNumber (.ref C_BadNumber) = some true)
    (xw_BadNumber : PySem.W.ks_superIn K C_BadNumber C_BadNumber "__init__" = some (some (.builtin "ValueError.__init__")))
    (xl_BadNumber : K.lookup fI_BadNumber = some ⟨oi_BadNumber, odi_BadNumber, .func (PySem.W.ksFn "__init__" "BadNumber.__init__" (PySem.SupX.eA "part" ⟨58, 17, 58, 21⟩ ⟨58, 23, 58, 27⟩) (PySem.SupX.eB "part" "not a number that may stand there" ⟨59, 8, 59, 13⟩ ⟨59, 8, 59, 15⟩ ⟨59, 8, 59, 24⟩ ⟨59, 25, 59, 60⟩ ⟨59, 8, 59, 61⟩ ⟨59, 8, 59, 61⟩ ⟨60, 8, 60, 12⟩ ⟨60, 8, 60, 17⟩ ⟨60, 20, 60, 24⟩ ⟨60, 8, 60, 24⟩) (PySem.SupX.eS "part") .none .none doci_BadNumber pmi_BadNumber ani_BadNumber (.ref cda_BadNumber) cti_BadNumber cc_BadNumber), osli_BadNumber⟩)
    (xq_BadNumber : PySem.W.codeIn K (.ref cda_BadNumber) "BadNumber.__init__" = true)
    (xcd_BadNumber : K.lookup cda_BadNumber = some ⟨ccl_BadNumber, cdd_BadNumber, .fields vsi_BadNumber, ccs_BadNumber⟩)
    (xfl_BadNumber : vsi_BadNumber[2]? = some (.str file_BadNumber tf_BadNumber))
    (xfe_BadNumber : ((l.prog.main.file : Str) == file_BadNumber) = true)
    (xcc_BadNumber : K.lookup cc_BadNumber = some ⟨ccv_BadNumber, cld_BadNumber, .cell (some (.ref C_BadNumber)), csl_BadNumber⟩)
    (xg_BadGroup : PySem.W.nsIn K mainGlobals "BadGroup" = some (some (.ref C_BadGroup)))
    (xx_BadGroup : K.lookup C_BadGroup = some (excClassObj nm_BadGroup q_BadGroup C_BadGroup N_BadGroup bs_BadGroup [.ref C_GroupError, .type "ValueError", .type "Exception", .type "BaseException", .type "object"] true sn_BadGroup sub_BadGroup ab_BadGroup col_BadGroup dd_BadGroup m0_BadGroup m1_BadGroup m2_BadGroup m3_BadGroup m5_BadGroup "ValueError.__new__"))
    (xb_BadGroup : PySem.W.subIn K (.ref C_BadGroup) (.type "BaseException") = some true)
    (xt_BadGroup : PySem.W.typeIn K (.ref C_BadGroup) = some (.type "type"))
    (xd_BadGroup : PySem.W.hasDictIn K C_BadGroup = true)
    (xk_BadGroup : PySem.W.keepIn K (.ref C_BadGroup) = true)
    (xa_BadGroup : PySem.W.findIn K (.ref C_BadGroup) "__getattribute__" = some (some (.builtin "BaseException.__getattribute__")))
    (xh_BadGroup : PySem.W.findIn K (.ref C_BadGroup) "__getattr__" = some none)
    (xc_BadGroup : PySem.W.findIn K (.ref C_BadGroup) "__class__" = some (some (.builtin "object.__class__")))
    (xm_BadGroup : PySem.W.mroIn K C_BadGroup (.type "object") = some true)
    (xsa_BadGroup : PySem.W.findIn K (.ref C_BadGroup) "__setattr__" = some (some (.builtin "object.__setattr__")))
    (xn_BadGroup : PySem.W.findIn K (.ref C_BadGroup) "part" = some none)
    (xi_BadGroup : PySem.W.findIn K (.ref C_BadGroup) "__init__" = some (some (.ref fI_BadGroup)))
    (xf_BadGroup : PySem.W.typeIn K (.ref fI_BadGroup) = some (.type "function"))
    (xv_BadGroup : PySem.W.subIn K (.ref C_BadGroup) (.type "ValueError") = some true)
    (xo_BadGroup : PySem.W.mroIn K C_BadGroup (.ref C_BadGroup) = some true)
    (xw_BadGroup : PySem.W.ks_superIn K C_BadGroup C_BadGroup "__init__" = some (some (.builtin "ValueError.__init__")))
    (xl_BadGroup : K.lookup fI_BadGroup = some ⟨oi_BadGroup, odi_BadGroup, .func (PySem.W.ksFn "__init__" "BadGroup.__init__" (PySem.SupX.eA "part" ⟨29, 17, 29, 21⟩ ⟨29, 23, 29, 27⟩) (PySem.SupX.eB "part" "not right for a group" ⟨30, 8, 30, 13⟩ ⟨30, 8, 30, 15⟩ ⟨30, 8, 30, 24⟩ ⟨30, 25, 30, 48⟩ ⟨30, 8, 30, 49⟩ ⟨30, 8, 30, 49⟩ ⟨31, 8, 31, 12⟩ ⟨31, 8, 31, 17⟩ ⟨31, 20, 31, 24⟩ ⟨31, 8, 31, 24⟩) (PySem.SupX.eS "part") .none .none doci_BadGroup pmi_BadGroup ani_BadGroup (.ref cda_BadGroup) cti_BadGroup cc_BadGroup), osli_BadGroup⟩)
    (xq_BadGroup : PySem.W.codeIn K (.ref cda_BadGroup) "BadGroup.__init__" = true)
    (xcd_BadGroup : K.lookup cda_BadGroup = some ⟨ccl_BadGroup, cdd_BadGroup, .fields vsi_BadGroup, ccs_BadGroup⟩)
    (xfl_BadGroup : vsi_BadGroup[2]? = some (.str file_BadGroup tf_BadGroup))
    (xfe_BadGroup : ((l.prog.main.file : Str) == file_BadGroup) = true)
    (xcc_BadGroup : K.lookup cc_BadGroup = some ⟨ccv_BadGroup, cld_BadGroup, .cell (some (.ref C_BadGroup)), csl_BadGroup⟩)
    (xg_BadMachine : PySem.W.nsIn K mainGlobals "BadMachine" = some (some (.ref C_BadMachine)))
    (xx_BadMachine : K.lookup C_BadMachine = some (excClassObj nm_BadMachine q_BadMachine C_BadMachine N_BadMachine bs_BadMachine [.ref C_GroupError, .type "ValueError", .type "Exception", .type "BaseException", .type "object"] true sn_BadMachine sub_BadMachine ab_BadMachine col_BadMachine dd_BadMachine m0_BadMachine m1_BadMachine m2_BadMachine m3_BadMachine m5_BadMachine "ValueError.__new__"))
    (xb_BadMachine : PySem.W.subIn K (.ref C_BadMachine) (.type "BaseException") = some true)
    (xt_BadMachine : PySem.W.typeIn K (.ref C_BadMachine) = some (.type "type"))
    (xd_BadMachine : PySem.W.hasDictIn K C_BadMachine = true)
    (xk_BadMachine : PySem.W.keepIn K (.ref C_BadMachine) = true)
    (xa_BadMachine : PySem.W.findIn K (.ref C_BadMachine) "__getattribute__" = some (some (.builtin "BaseException.__getattribute__")))
    (xh_BadMachine : PySem.W.findIn K (.ref C_BadMachine) "__getattr__" = some none)
    (xc_BadMachine : PySem.W.findIn K (.ref C_BadMachine) "__class__" = some (some (.builtin "object.__class__")))
    (xm_BadMachine : PySem.W.mroIn K C_BadMachine (.type "object") = some true)
    (xsa_BadMachine : PySem.W.findIn K (.ref C_BadMachine) "__setattr__" = some (some (.builtin "object.__setattr__")))
    (xn_BadMachine : PySem.W.findIn K (.ref C_BadMachine) "part" = some none)
    (xi_BadMachine : PySem.W.findIn K (.ref C_BadMachine) "__init__" = some (some (.ref fI_BadMachine)))
    (xf_BadMachine : PySem.W.typeIn K (.ref fI_BadMachine) = some (.type "function"))
    (xv_BadMachine : PySem.W.subIn K (.ref C_BadMachine) (.type "ValueError") = some true)
    (xo_BadMachine : PySem.W.mroIn K C_BadMachine (.ref C_BadMachine) = some true)
    (xw_BadMachine : PySem.W.ks_superIn K C_BadMachine C_BadMachine "__init__" = some (some (.builtin "ValueError.__init__")))
    (xl_BadMachine : K.lookup fI_BadMachine = some ⟨oi_BadMachine, odi_BadMachine, .func (PySem.W.ksFn "__init__" "BadMachine.__init__" (PySem.SupX.eA "part" ⟨48, 17, 48, 21⟩ ⟨48, 23, 48, 27⟩) (PySem.SupX.eB "part" "not right for a machine" ⟨49, 8, 49, 13⟩ ⟨49, 8, 49, 15⟩ ⟨49, 8, 49, 24⟩ ⟨49, 25, 49, 50⟩ ⟨49, 8, 49, 51⟩ ⟨49, 8, 49, 51⟩ ⟨50, 8, 50, 12⟩ ⟨50, 8, 50, 17⟩ ⟨50, 20, 50, 24⟩ ⟨50, 8, 50, 24⟩) (PySem.SupX.eS "part") .none .none doci_BadMachine pmi_BadMachine ani_BadMachine (.ref cda_BadMachine) cti_BadMachine cc_BadMachine), osli_BadMachine⟩)
    (xq_BadMachine : PySem.W.codeIn K (.ref cda_BadMachine) "BadMachine.__init__" = true)
    (xcd_BadMachine : K.lookup cda_BadMachine = some ⟨ccl_BadMachine, cdd_BadMachine, .fields vsi_BadMachine, ccs_BadMachine⟩)
    (xfl_BadMachine : vsi_BadMachine[2]? = some (.str file_BadMachine tf_BadMachine))
    (xfe_BadMachine : ((l.prog.main.file : Str) == file_BadMachine) = true)
    (xcc_BadMachine : K.lookup cc_BadMachine = some ⟨ccv_BadMachine, cld_BadMachine, .cell (some (.ref C_BadMachine)), csl_BadMachine⟩)
    (xg_BadClaim : PySem.W.nsIn K mainGlobals "BadClaim" = some (some (.ref C_BadClaim)))
    (xx_BadClaim : K.lookup C_BadClaim = some (excClassObj nm_BadClaim q_BadClaim C_BadClaim N_BadClaim bs_BadClaim [.ref C_GroupError, .type "ValueError", .type "Exception", .type "BaseException", .type "object"] true sn_BadClaim sub_BadClaim ab_BadClaim col_BadClaim dd_BadClaim m0_BadClaim m1_BadClaim m2_BadClaim m3_BadClaim m5_BadClaim "ValueError.__new__"))
    (xb_BadClaim : PySem.W.subIn K (.ref C_BadClaim) (.type "BaseException") = some true)
    (xt_BadClaim : PySem.W.typeIn K (.ref C_BadClaim) = some (.type "type"))
    (xd_BadClaim : PySem.W.hasDictIn K C_BadClaim = true)
    (xk_BadClaim : PySem.W.keepIn K (.ref C_BadClaim) = true)
    (xa_BadClaim : PySem.W.findIn K (.ref C_BadClaim) "__getattribute__" = some (some (.builtin "BaseException.__getattribute__")))
    (xh_BadClaim : PySem.W.findIn K (.ref C_BadClaim) "__getattr__" = some none)
    (xc_BadClaim : PySem.W.findIn K (.ref C_BadClaim) "__class__" = some (some (.builtin "object.__class__")))
    (xm_BadClaim : PySem.W.mroIn K C_BadClaim (.type "object") = some true)
    (xsa_BadClaim : PySem.W.findIn K (.ref C_BadClaim) "__setattr__" = some (some (.builtin "object.__setattr__")))
    (xn_BadClaim : PySem.W.findIn K (.ref C_BadClaim) "part" = some none)
    (xi_BadClaim : PySem.W.findIn K (.ref C_BadClaim) "__init__" = some (some (.ref fI_BadClaim)))
    (xf_BadClaim : PySem.W.typeIn K (.ref fI_BadClaim) = some (.type "function"))
    (xv_BadClaim : PySem.W.subIn K (.ref C_BadClaim) (.type "ValueError") = some true)
    (xo_BadClaim : PySem.W.mroIn K C_BadClaim (.ref C_BadClaim) = some true)
    (xw_BadClaim : PySem.W.ks_superIn K C_BadClaim C_BadClaim "__init__" = some (some (.builtin "ValueError.__init__")))
    (xl_BadClaim : K.lookup fI_BadClaim = some ⟨oi_BadClaim, odi_BadClaim, .func (PySem.W.ksFn "__init__" "BadClaim.__init__" (PySem.SupX.eA "part" ⟨15, 17, 15, 21⟩ ⟨15, 23, 15, 27⟩) (PySem.SupX.eB "part" "not right for a claim" ⟨16, 8, 16, 13⟩ ⟨16, 8, 16, 15⟩ ⟨16, 8, 16, 24⟩ ⟨16, 25, 16, 48⟩ ⟨16, 8, 16, 49⟩ ⟨16, 8, 16, 49⟩ ⟨17, 8, 17, 12⟩ ⟨17, 8, 17, 17⟩ ⟨17, 20, 17, 24⟩ ⟨17, 8, 17, 24⟩) (PySem.SupX.eS "part") .none .none doci_BadClaim pmi_BadClaim ani_BadClaim (.ref cda_BadClaim) cti_BadClaim cc_BadClaim), osli_BadClaim⟩)
    (xq_BadClaim : PySem.W.codeIn K (.ref cda_BadClaim) "BadClaim.__init__" = true)
    (xcd_BadClaim : K.lookup cda_BadClaim = some ⟨ccl_BadClaim, cdd_BadClaim, .fields vsi_BadClaim, ccs_BadClaim⟩)
    (xfl_BadClaim : vsi_BadClaim[2]? = some (.str file_BadClaim tf_BadClaim))
    (xfe_BadClaim : ((l.prog.main.file : Str) == file_BadClaim) = true)
    (xcc_BadClaim : K.lookup cc_BadClaim = some ⟨ccv_BadClaim, cld_BadClaim, .cell (some (.ref C_BadClaim)), csl_BadClaim⟩)
    (xg_BadSystem : PySem.W.nsIn K mainGlobals "BadSystem" = some (some (.ref C_BadSystem)))
    (xx_BadSystem : K.lookup C_BadSystem = some (excClassObj nm_BadSystem q_BadSystem C_BadSystem N_BadSystem bs_BadSystem [.ref C_GroupError, .type "ValueError", .type "Exception", .type "BaseException", .type "object"] true sn_BadSystem sub_BadSystem ab_BadSystem col_BadSystem dd_BadSystem m0_BadSystem m1_BadSystem m2_BadSystem m3_BadSystem m5_BadSystem "ValueError.__new__"))
    (xb_BadSystem : PySem.W.subIn K (.ref C_BadSystem) (.type "BaseException") = some true)
    (xt_BadSystem : PySem.W.typeIn K (.ref C_BadSystem) = some (.type "type"))
    (xd_BadSystem : PySem.W.hasDictIn K C_BadSystem = true)
    (xk_BadSystem : PySem.W.keepIn K (.ref C_BadSystem) = true)
    (xa_BadSystem : PySem.W.findIn K (.ref C_BadSystem) "__getattribute__" = some (some (.builtin "BaseException.__getattribute__")))
    (xh_BadSystem : PySem.W.findIn K (.ref C_BadSystem) "__getattr__" = some none)
    (xc_BadSystem : PySem.W.findIn K (.ref C_BadSystem) "__class__" = some (some (.builtin "object.__class__")))
    (xm_BadSystem : PySem.W.mroIn K C_BadSystem (.type "object") = some true)
    (xsa_BadSystem : PySem.W.findIn K (.ref C_BadSystem) "__setattr__" = some (some (.builtin "object.__setattr__")))
    (xn_BadSystem : PySem.W.findIn K (.ref C_BadSystem) "part" = some none)
    (xi_BadSystem : PySem.W.findIn K (.ref C_BadSystem) "__init__" = some (some (.ref fI_BadSystem)))
    (xf_BadSystem : PySem.W.typeIn K (.ref fI_BadSystem) = some (.type "function"))
    (xv_BadSystem : PySem.W.subIn K (.ref C_BadSystem) (.type "ValueError") = some true)
    (xo_BadSystem : PySem.W.mroIn K C_BadSystem (.ref C_BadSystem) = some true)
    (xw_BadSystem : PySem.W.ks_superIn K C_BadSystem C_BadSystem "__init__" = some (some (.builtin "ValueError.__init__")))
    (xl_BadSystem : K.lookup fI_BadSystem = some ⟨oi_BadSystem, odi_BadSystem, .func (PySem.W.ksFn "__init__" "BadSystem.__init__" (PySem.SupX.eA "part" ⟨83, 17, 83, 21⟩ ⟨83, 23, 83, 27⟩) (PySem.SupX.eB "part" "not right for a system" ⟨84, 8, 84, 13⟩ ⟨84, 8, 84, 15⟩ ⟨84, 8, 84, 24⟩ ⟨84, 25, 84, 49⟩ ⟨84, 8, 84, 50⟩ ⟨84, 8, 84, 50⟩ ⟨85, 8, 85, 12⟩ ⟨85, 8, 85, 17⟩ ⟨85, 20, 85, 24⟩ ⟨85, 8, 85, 24⟩) (PySem.SupX.eS "part") .none .none doci_BadSystem pmi_BadSystem ani_BadSystem (.ref cda_BadSystem) cti_BadSystem cc_BadSystem), osli_BadSystem⟩)
    (xq_BadSystem : PySem.W.codeIn K (.ref cda_BadSystem) "BadSystem.__init__" = true)
    (xcd_BadSystem : K.lookup cda_BadSystem = some ⟨ccl_BadSystem, cdd_BadSystem, .fields vsi_BadSystem, ccs_BadSystem⟩)
    (xfl_BadSystem : vsi_BadSystem[2]? = some (.str file_BadSystem tf_BadSystem))
    (xfe_BadSystem : ((l.prog.main.file : Str) == file_BadSystem) = true)
    (xcc_BadSystem : K.lookup cc_BadSystem = some ⟨ccv_BadSystem, cld_BadSystem, .cell (some (.ref C_BadSystem)), csl_BadSystem⟩)
    (xg_BadMap : PySem.W.nsIn K mainGlobals "BadMap" = some (some (.ref C_BadMap)))
    (xx_BadMap : K.lookup C_BadMap = some (excClassObj nm_BadMap q_BadMap C_BadMap N_BadMap bs_BadMap [.ref C_GroupError, .type "ValueError", .type "Exception", .type "BaseException", .type "object"] true sn_BadMap sub_BadMap ab_BadMap col_BadMap dd_BadMap m0_BadMap m1_BadMap m2_BadMap m3_BadMap m5_BadMap "ValueError.__new__"))
    (xb_BadMap : PySem.W.subIn K (.ref C_BadMap) (.type "BaseException") = some true)
    (xt_BadMap : PySem.W.typeIn K (.ref C_BadMap) = some (.type "type"))
    (xd_BadMap : PySem.W.hasDictIn K C_BadMap = true)
    (xk_BadMap : PySem.W.keepIn K (.ref C_BadMap) = true)
    (xa_BadMap : PySem.W.findIn K (.ref C_BadMap) "__getattribute__" = some (some (.builtin "BaseException.__getattribute__")))
    (xh_BadMap : PySem.W.findIn K (.ref C_BadMap) "__getattr__" = some none)
    (xc_BadMap : PySem.W.findIn K (.ref C_BadMap) "__class__" = some (some (.builtin "object.__class__")))
    (xm_BadMap : PySem.W.mroIn K C_BadMap (.type "object") = some true)
    (xsa_BadMap : PySem.W.findIn K (.ref C_BadMap) "__setattr__" = some (some (.builtin "object.__setattr__")))
    (xn_BadMap : PySem.W.findIn K (.ref C_BadMap) "part" = some none)
    (xi_BadMap : PySem.W.findIn K (.ref C_BadMap) "__init__" = some (some (.ref fI_BadMap)))
    (xf_BadMap : PySem.W.typeIn K (.ref fI_BadMap) = some (.type "function"))
    (xv_BadMap : PySem.W.subIn K (.ref C_BadMap) (.type "ValueError") = some true)
    (xo_BadMap : PySem.W.mroIn K C_BadMap (.ref C_BadMap) = some true)
    (xw_BadMap : PySem.W.ks_superIn K C_BadMap C_BadMap "__init__" = some (some (.builtin "ValueError.__init__")))
    (xl_BadMap : K.lookup fI_BadMap = some ⟨oi_BadMap, odi_BadMap, .func (PySem.W.ksFn "__init__" "BadMap.__init__" (PySem.SupX.eA "part" ⟨53, 17, 53, 21⟩ ⟨53, 23, 53, 27⟩) (PySem.SupX.eB "part" "not right for a map" ⟨54, 8, 54, 13⟩ ⟨54, 8, 54, 15⟩ ⟨54, 8, 54, 24⟩ ⟨54, 25, 54, 46⟩ ⟨54, 8, 54, 47⟩ ⟨54, 8, 54, 47⟩ ⟨55, 8, 55, 12⟩ ⟨55, 8, 55, 17⟩ ⟨55, 20, 55, 24⟩ ⟨55, 8, 55, 24⟩) (PySem.SupX.eS "part") .none .none doci_BadMap pmi_BadMap ani_BadMap (.ref cda_BadMap) cti_BadMap cc_BadMap), osli_BadMap⟩)
    (xq_BadMap : PySem.W.codeIn K (.ref cda_BadMap) "BadMap.__init__" = true)
    (xcd_BadMap : K.lookup cda_BadMap = some ⟨ccl_BadMap, cdd_BadMap, .fields vsi_BadMap, ccs_BadMap⟩)
    (xfl_BadMap : vsi_BadMap[2]? = some (.str file_BadMap tf_BadMap))
    (xfe_BadMap : ((l.prog.main.file : Str) == file_BadMap) = true)
    (xcc_BadMap : K.lookup cc_BadMap = some ⟨ccv_BadMap, cld_BadMap, .cell (some (.ref C_BadMap)), csl_BadMap⟩)
    (xg_TooMany : PySem.W.nsIn K mainGlobals "TooMany" = some (some (.ref C_TooMany)))
    (xx_TooMany : K.lookup C_TooMany = some (excClassObj nm_TooMany q_TooMany C_TooMany N_TooMany bs_TooMany [.ref C_GroupError, .type "ValueError", .type "Exception", .type "BaseException", .type "object"] true sn_TooMany sub_TooMany ab_TooMany col_TooMany dd_TooMany m0_TooMany m1_TooMany m2_TooMany m3_TooMany m5_TooMany "ValueError.__new__"))
    (xb_TooMany : PySem.W.subIn K (.ref C_TooMany) (.type "BaseException") = some true)
    (xt_TooMany : PySem.W.typeIn K (.ref C_TooMany) = some (.type "type"))
    (xd_TooMany : PySem.W.hasDictIn K C_TooMany = true)
    (xk_TooMany : PySem.W.keepIn K (.ref C_TooMany) = true)
    (xa_TooMany : PySem.W.findIn K (.ref C_TooMany) "__getattribute__" = some (some (.builtin "BaseException.__getattribute__")))
    (xh_TooMany : PySem.W.findIn K (.ref C_TooMany) "__getattr__" = some none)
    (xc_TooMany : PySem.W.findIn K (.ref C_TooMany) "__class__" = some (some (.builtin "object.__class__")))
    (xm_TooMany : PySem.W.mroIn K C_TooMany (.type "object") = some true)
    (xsa_TooMany : PySem.W.findIn K (.ref C_TooMany) "__setattr__" = some (some (.builtin "object.__setattr__")))
    (xn_TooMany : PySem.W.findIn K (.ref C_TooMany) "most" = some none)
    (xi_TooMany : PySem.W.findIn K (.ref C_TooMany) "__init__" = some (some (.ref fI_TooMany)))
    (xf_TooMany : PySem.W.typeIn K (.ref fI_TooMany) = some (.type "function"))
    (xv_TooMany : PySem.W.subIn K (.ref C_TooMany) (.type "ValueError") = some true)
    (xo_TooMany : PySem.W.mroIn K C_TooMany (.ref C_TooMany) = some true)
    (xw_TooMany : PySem.W.ks_superIn K C_TooMany C_TooMany "__init__" = some (some (.builtin "ValueError.__init__")))
    (xl_TooMany : K.lookup fI_TooMany = some ⟨oi_TooMany, odi_TooMany, .func (PySem.W.ksFn "__init__" "TooMany.__init__" (PySem.SupX.eA "most" ⟨108, 17, 108, 21⟩ ⟨108, 23, 108, 27⟩) (PySem.SupX.eB "most" "more than are let" ⟨109, 8, 109, 13⟩ ⟨109, 8, 109, 15⟩ ⟨109, 8, 109, 24⟩ ⟨109, 25, 109, 44⟩ ⟨109, 8, 109, 45⟩ ⟨109, 8, 109, 45⟩ ⟨110, 8, 110, 12⟩ ⟨110, 8, 110, 17⟩ ⟨110, 20, 110, 24⟩ ⟨110, 8, 110, 24⟩) (PySem.SupX.eS "most") .none .none doci_TooMany pmi_TooMany ani_TooMany (.ref cda_TooMany) cti_TooMany cc_TooMany), osli_TooMany⟩)
    (xq_TooMany : PySem.W.codeIn K (.ref cda_TooMany) "TooMany.__init__" = true)
    (xcd_TooMany : K.lookup cda_TooMany = some ⟨ccl_TooMany, cdd_TooMany, .fields vsi_TooMany, ccs_TooMany⟩)
    (xfl_TooMany : vsi_TooMany[2]? = some (.str file_TooMany tf_TooMany))
    (xfe_TooMany : ((l.prog.main.file : Str) == file_TooMany) = true)
    (xcc_TooMany : K.lookup cc_TooMany = some ⟨ccv_TooMany, cld_TooMany, .cell (some (.ref C_TooMany)), csl_TooMany⟩)
    (xg_BadSteady : PySem.W.nsIn K mainGlobals "BadSteady" = some (some (.ref C_BadSteady)))
    (xx_BadSteady : K.lookup C_BadSteady = some (excClassObj nm_BadSteady q_BadSteady C_BadSteady N_BadSteady bs_BadSteady [.ref C_GroupError, .type "ValueError", .type "Exception", .type "BaseException", .type "object"] true sn_BadSteady sub_BadSteady ab_BadSteady col_BadSteady dd_BadSteady m0_BadSteady m1_BadSteady m2_BadSteady m3_BadSteady m5_BadSteady "ValueError.__new__"))
    (xb_BadSteady : PySem.W.subIn K (.ref C_BadSteady) (.type "BaseException") = some true)
    (xt_BadSteady : PySem.W.typeIn K (.ref C_BadSteady) = some (.type "type"))
    (xd_BadSteady : PySem.W.hasDictIn K C_BadSteady = true)
    (xk_BadSteady : PySem.W.keepIn K (.ref C_BadSteady) = true)
    (xa_BadSteady : PySem.W.findIn K (.ref C_BadSteady) "__getattribute__" = some (some (.builtin "BaseException.__getattribute__")))
    (xh_BadSteady : PySem.W.findIn K (.ref C_BadSteady) "__getattr__" = some none)
    (xc_BadSteady : PySem.W.findIn K (.ref C_BadSteady) "__class__" = some (some (.builtin "object.__class__")))
    (xm_BadSteady : PySem.W.mroIn K C_BadSteady (.type "object") = some true)
    (xsa_BadSteady : PySem.W.findIn K (.ref C_BadSteady) "__setattr__" = some (some (.builtin "object.__setattr__")))
    (xn_BadSteady : PySem.W.findIn K (.ref C_BadSteady) "fault" = some none)
    (xi_BadSteady : PySem.W.findIn K (.ref C_BadSteady) "__init__" = some (some (.ref fI_BadSteady)))
    (xf_BadSteady : PySem.W.typeIn K (.ref fI_BadSteady) = some (.type "function"))
    (xv_BadSteady : PySem.W.subIn K (.ref C_BadSteady) (.type "ValueError") = some true)
    (xo_BadSteady : PySem.W.mroIn K C_BadSteady (.ref C_BadSteady) = some true)
    (xw_BadSteady : PySem.W.ks_superIn K C_BadSteady C_BadSteady "__init__" = some (some (.builtin "ValueError.__init__")))
    (xl_BadSteady : K.lookup fI_BadSteady = some ⟨oi_BadSteady, odi_BadSteady, .func (PySem.W.ksFn "__init__" "BadSteady.__init__" (PySem.SupX.eA "fault" ⟨71, 17, 71, 21⟩ ⟨71, 23, 71, 28⟩) (PySem.SupX.eB "fault" "not a steady claim" ⟨72, 8, 72, 13⟩ ⟨72, 8, 72, 15⟩ ⟨72, 8, 72, 24⟩ ⟨72, 25, 72, 45⟩ ⟨72, 8, 72, 46⟩ ⟨72, 8, 72, 46⟩ ⟨73, 8, 73, 12⟩ ⟨73, 8, 73, 18⟩ ⟨73, 21, 73, 26⟩ ⟨73, 8, 73, 26⟩) (PySem.SupX.eS "fault") .none .none doci_BadSteady pmi_BadSteady ani_BadSteady (.ref cda_BadSteady) cti_BadSteady cc_BadSteady), osli_BadSteady⟩)
    (xq_BadSteady : PySem.W.codeIn K (.ref cda_BadSteady) "BadSteady.__init__" = true)
    (xcd_BadSteady : K.lookup cda_BadSteady = some ⟨ccl_BadSteady, cdd_BadSteady, .fields vsi_BadSteady, ccs_BadSteady⟩)
    (xfl_BadSteady : vsi_BadSteady[2]? = some (.str file_BadSteady tf_BadSteady))
    (xfe_BadSteady : ((l.prog.main.file : Str) == file_BadSteady) = true)
    (xcc_BadSteady : K.lookup cc_BadSteady = some ⟨ccv_BadSteady, cld_BadSteady, .cell (some (.ref C_BadSteady)), csl_BadSteady⟩)
    (xg_BadJudged : PySem.W.nsIn K mainGlobals "BadJudged" = some (some (.ref C_BadJudged)))
    (xx_BadJudged : K.lookup C_BadJudged = some (excClassObj nm_BadJudged q_BadJudged C_BadJudged N_BadJudged bs_BadJudged [.ref C_GroupError, .type "ValueError", .type "Exception", .type "BaseException", .type "object"] true sn_BadJudged sub_BadJudged ab_BadJudged col_BadJudged dd_BadJudged m0_BadJudged m1_BadJudged m2_BadJudged m3_BadJudged m5_BadJudged "ValueError.__new__"))
    (xb_BadJudged : PySem.W.subIn K (.ref C_BadJudged) (.type "BaseException") = some true)
    (xt_BadJudged : PySem.W.typeIn K (.ref C_BadJudged) = some (.type "type"))
    (xd_BadJudged : PySem.W.hasDictIn K C_BadJudged = true)
    (xk_BadJudged : PySem.W.keepIn K (.ref C_BadJudged) = true)
    (xa_BadJudged : PySem.W.findIn K (.ref C_BadJudged) "__getattribute__" = some (some (.builtin "BaseException.__getattribute__")))
    (xh_BadJudged : PySem.W.findIn K (.ref C_BadJudged) "__getattr__" = some none)
    (xc_BadJudged : PySem.W.findIn K (.ref C_BadJudged) "__class__" = some (some (.builtin "object.__class__")))
    (xm_BadJudged : PySem.W.mroIn K C_BadJudged (.type "object") = some true)
    (xsa_BadJudged : PySem.W.findIn K (.ref C_BadJudged) "__setattr__" = some (some (.builtin "object.__setattr__")))
    (xn_BadJudged : PySem.W.findIn K (.ref C_BadJudged) "part" = some none)
    (xi_BadJudged : PySem.W.findIn K (.ref C_BadJudged) "__init__" = some (some (.ref fI_BadJudged)))
    (xf_BadJudged : PySem.W.typeIn K (.ref fI_BadJudged) = some (.type "function"))
    (xv_BadJudged : PySem.W.subIn K (.ref C_BadJudged) (.type "ValueError") = some true)
    (xo_BadJudged : PySem.W.mroIn K C_BadJudged (.ref C_BadJudged) = some true)
    (xw_BadJudged : PySem.W.ks_superIn K C_BadJudged C_BadJudged "__init__" = some (some (.builtin "ValueError.__init__")))
    (xl_BadJudged : K.lookup fI_BadJudged = some ⟨oi_BadJudged, odi_BadJudged, .func (PySem.W.ksFn "__init__" "BadJudged.__init__" (PySem.SupX.eA "part" ⟨34, 17, 34, 21⟩ ⟨34, 23, 34, 27⟩) (PySem.SupX.eB "part" "not right for a judged claim" ⟨35, 8, 35, 13⟩ ⟨35, 8, 35, 15⟩ ⟨35, 8, 35, 24⟩ ⟨35, 25, 35, 55⟩ ⟨35, 8, 35, 56⟩ ⟨35, 8, 35, 56⟩ ⟨36, 8, 36, 12⟩ ⟨36, 8, 36, 17⟩ ⟨36, 20, 36, 24⟩ ⟨36, 8, 36, 24⟩) (PySem.SupX.eS "part") .none .none doci_BadJudged pmi_BadJudged ani_BadJudged (.ref cda_BadJudged) cti_BadJudged cc_BadJudged), osli_BadJudged⟩)
    (xq_BadJudged : PySem.W.codeIn K (.ref cda_BadJudged) "BadJudged.__init__" = true)
    (xcd_BadJudged : K.lookup cda_BadJudged = some ⟨ccl_BadJudged, cdd_BadJudged, .fields vsi_BadJudged, ccs_BadJudged⟩)
    (xfl_BadJudged : vsi_BadJudged[2]? = some (.str file_BadJudged tf_BadJudged))
    (xfe_BadJudged : ((l.prog.main.file : Str) == file_BadJudged) = true)
    (xcc_BadJudged : K.lookup cc_BadJudged = some ⟨ccv_BadJudged, cld_BadJudged, .cell (some (.ref C_BadJudged)), csl_BadJudged⟩)
    (xg_BadSubgroup : PySem.W.nsIn K mainGlobals "BadSubgroup" = some (some (.ref C_BadSubgroup)))
    (xx_BadSubgroup : K.lookup C_BadSubgroup = some (excClassObj nm_BadSubgroup q_BadSubgroup C_BadSubgroup N_BadSubgroup bs_BadSubgroup [.ref C_GroupError, .type "ValueError", .type "Exception", .type "BaseException", .type "object"] true sn_BadSubgroup sub_BadSubgroup ab_BadSubgroup col_BadSubgroup dd_BadSubgroup m0_BadSubgroup m1_BadSubgroup m2_BadSubgroup m3_BadSubgroup m5_BadSubgroup "ValueError.__new__"))
    (xb_BadSubgroup : PySem.W.subIn K (.ref C_BadSubgroup) (.type "BaseException") = some true)
    (xt_BadSubgroup : PySem.W.typeIn K (.ref C_BadSubgroup) = some (.type "type"))
    (xd_BadSubgroup : PySem.W.hasDictIn K C_BadSubgroup = true)
    (xk_BadSubgroup : PySem.W.keepIn K (.ref C_BadSubgroup) = true)
    (xa_BadSubgroup : PySem.W.findIn K (.ref C_BadSubgroup) "__getattribute__" = some (some (.builtin "BaseException.__getattribute__")))
    (xh_BadSubgroup : PySem.W.findIn K (.ref C_BadSubgroup) "__getattr__" = some none)
    (xc_BadSubgroup : PySem.W.findIn K (.ref C_BadSubgroup) "__class__" = some (some (.builtin "object.__class__")))
    (xm_BadSubgroup : PySem.W.mroIn K C_BadSubgroup (.type "object") = some true)
    (xsa_BadSubgroup : PySem.W.findIn K (.ref C_BadSubgroup) "__setattr__" = some (some (.builtin "object.__setattr__")))
    (xn_BadSubgroup : PySem.W.findIn K (.ref C_BadSubgroup) "part" = some none)
    (xi_BadSubgroup : PySem.W.findIn K (.ref C_BadSubgroup) "__init__" = some (some (.ref fI_BadSubgroup)))
    (xf_BadSubgroup : PySem.W.typeIn K (.ref fI_BadSubgroup) = some (.type "function"))
    (xv_BadSubgroup : PySem.W.subIn K (.ref C_BadSubgroup) (.type "ValueError") = some true)
    (xo_BadSubgroup : PySem.W.mroIn K C_BadSubgroup (.ref C_BadSubgroup) = some true)
    (xw_BadSubgroup : PySem.W.ks_superIn K C_BadSubgroup C_BadSubgroup "__init__" = some (some (.builtin "ValueError.__init__")))
    (xl_BadSubgroup : K.lookup fI_BadSubgroup = some ⟨oi_BadSubgroup, odi_BadSubgroup, .func (PySem.W.ksFn "__init__" "BadSubgroup.__init__" (PySem.SupX.eA "part" ⟨78, 17, 78, 21⟩ ⟨78, 23, 78, 27⟩) (PySem.SupX.eB "part" "not right for a subgroup" ⟨79, 8, 79, 13⟩ ⟨79, 8, 79, 15⟩ ⟨79, 8, 79, 24⟩ ⟨79, 25, 79, 51⟩ ⟨79, 8, 79, 52⟩ ⟨79, 8, 79, 52⟩ ⟨80, 8, 80, 12⟩ ⟨80, 8, 80, 17⟩ ⟨80, 20, 80, 24⟩ ⟨80, 8, 80, 24⟩) (PySem.SupX.eS "part") .none .none doci_BadSubgroup pmi_BadSubgroup ani_BadSubgroup (.ref cda_BadSubgroup) cti_BadSubgroup cc_BadSubgroup), osli_BadSubgroup⟩)
    (xq_BadSubgroup : PySem.W.codeIn K (.ref cda_BadSubgroup) "BadSubgroup.__init__" = true)
    (xcd_BadSubgroup : K.lookup cda_BadSubgroup = some ⟨ccl_BadSubgroup, cdd_BadSubgroup, .fields vsi_BadSubgroup, ccs_BadSubgroup⟩)
    (xfl_BadSubgroup : vsi_BadSubgroup[2]? = some (.str file_BadSubgroup tf_BadSubgroup))
    (xfe_BadSubgroup : ((l.prog.main.file : Str) == file_BadSubgroup) = true)
    (xcc_BadSubgroup : K.lookup cc_BadSubgroup = some ⟨ccv_BadSubgroup, cld_BadSubgroup, .cell (some (.ref C_BadSubgroup)), csl_BadSubgroup⟩)
    (xg_BadLefts : PySem.W.nsIn K mainGlobals "BadLefts" = some (some (.ref C_BadLefts)))
    (xx_BadLefts : K.lookup C_BadLefts = some (excClassObj nm_BadLefts q_BadLefts C_BadLefts N_BadLefts bs_BadLefts [.ref C_GroupError, .type "ValueError", .type "Exception", .type "BaseException", .type "object"] true sn_BadLefts sub_BadLefts ab_BadLefts col_BadLefts dd_BadLefts m0_BadLefts m1_BadLefts m2_BadLefts m3_BadLefts m5_BadLefts "ValueError.__new__"))
    (xb_BadLefts : PySem.W.subIn K (.ref C_BadLefts) (.type "BaseException") = some true)
    (xt_BadLefts : PySem.W.typeIn K (.ref C_BadLefts) = some (.type "type"))
    (xd_BadLefts : PySem.W.hasDictIn K C_BadLefts = true)
    (xk_BadLefts : PySem.W.keepIn K (.ref C_BadLefts) = true)
    (xa_BadLefts : PySem.W.findIn K (.ref C_BadLefts) "__getattribute__" = some (some (.builtin "BaseException.__getattribute__")))
    (xh_BadLefts : PySem.W.findIn K (.ref C_BadLefts) "__getattr__" = some none)
    (xc_BadLefts : PySem.W.findIn K (.ref C_BadLefts) "__class__" = some (some (.builtin "object.__class__")))
    (xm_BadLefts : PySem.W.mroIn K C_BadLefts (.type "object") = some true)
    (xsa_BadLefts : PySem.W.findIn K (.ref C_BadLefts) "__setattr__" = some (some (.builtin "object.__setattr__")))
    (xn_BadLefts : PySem.W.findIn K (.ref C_BadLefts) "place" = some none)
    (xi_BadLefts : PySem.W.findIn K (.ref C_BadLefts) "__init__" = some (some (.ref fI_BadLefts)))
    (xf_BadLefts : PySem.W.typeIn K (.ref fI_BadLefts) = some (.type "function"))
    (xv_BadLefts : PySem.W.subIn K (.ref C_BadLefts) (.type "ValueError") = some true)
    (xo_BadLefts : PySem.W.mroIn K C_BadLefts (.ref C_BadLefts) = some true)
    (xw_BadLefts : PySem.W.ks_superIn K C_BadLefts C_BadLefts "__init__" = some (some (.builtin "ValueError.__init__")))
    (xl_BadLefts : K.lookup fI_BadLefts = some ⟨oi_BadLefts, odi_BadLefts, .func (PySem.W.ksFn "__init__" "BadLefts.__init__" (PySem.SupX.eA "place" ⟨39, 17, 39, 21⟩ ⟨39, 23, 39, 28⟩) (PySem.SupX.eB "place" "not the machine of a letter ahead" ⟨40, 8, 40, 13⟩ ⟨40, 8, 40, 15⟩ ⟨40, 8, 40, 24⟩ ⟨40, 25, 40, 60⟩ ⟨40, 8, 40, 61⟩ ⟨40, 8, 40, 61⟩ ⟨41, 8, 41, 12⟩ ⟨41, 8, 41, 18⟩ ⟨41, 21, 41, 26⟩ ⟨41, 8, 41, 26⟩) (PySem.SupX.eS "place") .none .none doci_BadLefts pmi_BadLefts ani_BadLefts (.ref cda_BadLefts) cti_BadLefts cc_BadLefts), osli_BadLefts⟩)
    (xq_BadLefts : PySem.W.codeIn K (.ref cda_BadLefts) "BadLefts.__init__" = true)
    (xcd_BadLefts : K.lookup cda_BadLefts = some ⟨ccl_BadLefts, cdd_BadLefts, .fields vsi_BadLefts, ccs_BadLefts⟩)
    (xfl_BadLefts : vsi_BadLefts[2]? = some (.str file_BadLefts tf_BadLefts))
    (xfe_BadLefts : ((l.prog.main.file : Str) == file_BadLefts) = true)
    (xcc_BadLefts : K.lookup cc_BadLefts = some ⟨ccv_BadLefts, cld_BadLefts, .cell (some (.ref C_BadLefts)), csl_BadLefts⟩)
    (xg_NotLet : PySem.W.nsIn K mainGlobals "NotLet" = some (some (.ref C_NotLet)))
    (xx_NotLet : K.lookup C_NotLet = some (excClassObj nm_NotLet q_NotLet C_NotLet N_NotLet bs_NotLet [.ref C_GroupError, .type "ValueError", .type "Exception", .type "BaseException", .type "object"] true sn_NotLet sub_NotLet ab_NotLet col_NotLet dd_NotLet m0_NotLet m1_NotLet m2_NotLet m3_NotLet m5_NotLet "ValueError.__new__"))
    (xb_NotLet : PySem.W.subIn K (.ref C_NotLet) (.type "BaseException") = some true)
    (xt_NotLet : PySem.W.typeIn K (.ref C_NotLet) = some (.type "type"))
    (xd_NotLet : PySem.W.hasDictIn K C_NotLet = true)
    (xk_NotLet : PySem.W.keepIn K (.ref C_NotLet) = true)
    (xa_NotLet : PySem.W.findIn K (.ref C_NotLet) "__getattribute__" = some (some (.builtin "BaseException.__getattribute__")))
    (xh_NotLet : PySem.W.findIn K (.ref C_NotLet) "__getattr__" = some none)
    (xc_NotLet : PySem.W.findIn K (.ref C_NotLet) "__class__" = some (some (.builtin "object.__class__")))
    (xm_NotLet : PySem.W.mroIn K C_NotLet (.type "object") = some true)
    (xsa_NotLet : PySem.W.findIn K (.ref C_NotLet) "__setattr__" = some (some (.builtin "object.__setattr__")))
    (xn_NotLet : PySem.W.findIn K (.ref C_NotLet) "why" = some none)
    (xi_NotLet : PySem.W.findIn K (.ref C_NotLet) "__init__" = some (some (.ref fI_NotLet)))
    (xf_NotLet : PySem.W.typeIn K (.ref fI_NotLet) = some (.type "function"))
    (xv_NotLet : PySem.W.subIn K (.ref C_NotLet) (.type "ValueError") = some true)
    (xo_NotLet : PySem.W.mroIn K C_NotLet (.ref C_NotLet) = some true)
    (xw_NotLet : PySem.W.ks_superIn K C_NotLet C_NotLet "__init__" = some (some (.builtin "ValueError.__init__")))
    (xl_NotLet : K.lookup fI_NotLet = some ⟨oi_NotLet, odi_NotLet, .func (PySem.W.ksFn "__init__" "NotLet.__init__" (PySem.SupX.eA "why" ⟨101, 17, 101, 21⟩ ⟨101, 23, 101, 26⟩) (PySem.SupX.eB "why" "this cannot be done" ⟨102, 8, 102, 13⟩ ⟨102, 8, 102, 15⟩ ⟨102, 8, 102, 24⟩ ⟨102, 25, 102, 46⟩ ⟨102, 8, 102, 47⟩ ⟨102, 8, 102, 47⟩ ⟨103, 8, 103, 12⟩ ⟨103, 8, 103, 16⟩ ⟨103, 19, 103, 22⟩ ⟨103, 8, 103, 22⟩) (PySem.SupX.eS "why") .none .none doci_NotLet pmi_NotLet ani_NotLet (.ref cda_NotLet) cti_NotLet cc_NotLet), osli_NotLet⟩)
    (xq_NotLet : PySem.W.codeIn K (.ref cda_NotLet) "NotLet.__init__" = true)
    (xcd_NotLet : K.lookup cda_NotLet = some ⟨ccl_NotLet, cdd_NotLet, .fields vsi_NotLet, ccs_NotLet⟩)
    (xfl_NotLet : vsi_NotLet[2]? = some (.str file_NotLet tf_NotLet))
    (xfe_NotLet : ((l.prog.main.file : Str) == file_NotLet) = true)
    (xcc_NotLet : K.lookup cc_NotLet = some ⟨ccv_NotLet, cld_NotLet, .cell (some (.ref C_NotLet)), csl_NotLet⟩)
    (xg_BadBytes : PySem.W.nsIn K mainGlobals "BadBytes" = some (some (.ref C_BadBytes)))
    (xx_BadBytes : K.lookup C_BadBytes = some (excClassObj nm_BadBytes q_BadBytes C_BadBytes N_BadBytes bs_BadBytes [.ref C_GroupError, .type "ValueError", .type "Exception", .type "BaseException", .type "object"] true sn_BadBytes sub_BadBytes ab_BadBytes col_BadBytes dd_BadBytes m0_BadBytes m1_BadBytes m2_BadBytes m3_BadBytes m5_BadBytes "ValueError.__new__"))
    (xb_BadBytes : PySem.W.subIn K (.ref C_BadBytes) (.type "BaseException") = some true)
    (xt_BadBytes : PySem.W.typeIn K (.ref C_BadBytes) = some (.type "type"))
    (xd_BadBytes : PySem.W.hasDictIn K C_BadBytes = true)
    (xk_BadBytes : PySem.W.keepIn K (.ref C_BadBytes) = true)
    (xa_BadBytes : PySem.W.findIn K (.ref C_BadBytes) "__getattribute__" = some (some (.builtin "BaseException.__getattribute__")))
    (xh_BadBytes : PySem.W.findIn K (.ref C_BadBytes) "__getattr__" = some none)
    (xc_BadBytes : PySem.W.findIn K (.ref C_BadBytes) "__class__" = some (some (.builtin "object.__class__")))
    (xm_BadBytes : PySem.W.mroIn K C_BadBytes (.type "object") = some true)
    (xsa_BadBytes : PySem.W.findIn K (.ref C_BadBytes) "__setattr__" = some (some (.builtin "object.__setattr__")))
    (xn_BadBytes : PySem.W.findIn K (.ref C_BadBytes) "place" = some none)
    (xi_BadBytes : PySem.W.findIn K (.ref C_BadBytes) "__init__" = some (some (.ref fI_BadBytes)))
    (xf_BadBytes : PySem.W.typeIn K (.ref fI_BadBytes) = some (.type "function"))
    (xv_BadBytes : PySem.W.subIn K (.ref C_BadBytes) (.type "ValueError") = some true)
    (xo_BadBytes : PySem.W.mroIn K C_BadBytes (.ref C_BadBytes) = some true)
    (xw_BadBytes : PySem.W.ks_superIn K C_BadBytes C_BadBytes "__init__" = some (some (.builtin "ValueError.__init__")))
    (xl_BadBytes : K.lookup fI_BadBytes = some ⟨oi_BadBytes, odi_BadBytes, .func (PySem.W.ksFn "__init__" "BadBytes.__init__" (PySem.SupX.eA "place" ⟨8, 17, 8, 21⟩ ⟨8, 23, 8, 28⟩) (PySem.SupX.eB "place" "not the bytes of a value" ⟨9, 8, 9, 13⟩ ⟨9, 8, 9, 15⟩ ⟨9, 8, 9, 24⟩ ⟨9, 25, 9, 51⟩ ⟨9, 8, 9, 52⟩ ⟨9, 8, 9, 52⟩ ⟨10, 8, 10, 12⟩ ⟨10, 8, 10, 18⟩ ⟨10, 21, 10, 26⟩ ⟨10, 8, 10, 26⟩) (PySem.SupX.eS "place") .none .none doci_BadBytes pmi_BadBytes ani_BadBytes (.ref cda_BadBytes) cti_BadBytes cc_BadBytes), osli_BadBytes⟩)
    (xq_BadBytes : PySem.W.codeIn K (.ref cda_BadBytes) "BadBytes.__init__" = true)
    (xcd_BadBytes : K.lookup cda_BadBytes = some ⟨ccl_BadBytes, cdd_BadBytes, .fields vsi_BadBytes, ccs_BadBytes⟩)
    (xfl_BadBytes : vsi_BadBytes[2]? = some (.str file_BadBytes tf_BadBytes))
    (xfe_BadBytes : ((l.prog.main.file : Str) == file_BadBytes) = true)
    (xcc_BadBytes : K.lookup cc_BadBytes = some ⟨ccv_BadBytes, cld_BadBytes, .cell (some (.ref C_BadBytes)), csl_BadBytes⟩)
    (xg_BadText : PySem.W.nsIn K mainGlobals "BadText" = some (some (.ref C_BadText)))
    (xx_BadText : K.lookup C_BadText = some (excClassObj nm_BadText q_BadText C_BadText N_BadText bs_BadText [.ref C_GroupError, .type "ValueError", .type "Exception", .type "BaseException", .type "object"] true sn_BadText sub_BadText ab_BadText col_BadText dd_BadText m0_BadText m1_BadText m2_BadText m3_BadText m5_BadText "ValueError.__new__"))
    (xb_BadText : PySem.W.subIn K (.ref C_BadText) (.type "BaseException") = some true)
    (xt_BadText : PySem.W.typeIn K (.ref C_BadText) = some (.type "type"))
    (xd_BadText : PySem.W.hasDictIn K C_BadText = true)
    (xk_BadText : PySem.W.keepIn K (.ref C_BadText) = true)
    (xa_BadText : PySem.W.findIn K (.ref C_BadText) "__getattribute__" = some (some (.builtin "BaseException.__getattribute__")))
    (xh_BadText : PySem.W.findIn K (.ref C_BadText) "__getattr__" = some none)
    (xc_BadText : PySem.W.findIn K (.ref C_BadText) "__class__" = some (some (.builtin "object.__class__")))
    (xm_BadText : PySem.W.mroIn K C_BadText (.type "object") = some true)
    (xsa_BadText : PySem.W.findIn K (.ref C_BadText) "__setattr__" = some (some (.builtin "object.__setattr__")))
    (xn_BadText : PySem.W.findIn K (.ref C_BadText) "at" = some none)
    (xi_BadText : PySem.W.findIn K (.ref C_BadText) "__init__" = some (some (.ref fI_BadText)))
    (xf_BadText : PySem.W.typeIn K (.ref fI_BadText) = some (.type "function"))
    (xv_BadText : PySem.W.subIn K (.ref C_BadText) (.type "ValueError") = some true)
    (xo_BadText : PySem.W.mroIn K C_BadText (.ref C_BadText) = some true)
    (xw_BadText : PySem.W.ks_superIn K C_BadText C_BadText "__init__" = some (some (.builtin "ValueError.__init__")))
    (xl_BadText : K.lookup fI_BadText = some ⟨oi_BadText, odi_BadText, .func (PySem.W.ksFn "__init__" "BadText.__init__" (PySem.SupX.eA "at" ⟨88, 17, 88, 21⟩ ⟨88, 23, 88, 25⟩) (PySem.SupX.eB "at" "not a text of this sort" ⟨89, 8, 89, 13⟩ ⟨89, 8, 89, 15⟩ ⟨89, 8, 89, 24⟩ ⟨89, 25, 89, 50⟩ ⟨89, 8, 89, 51⟩ ⟨89, 8, 89, 51⟩ ⟨90, 8, 90, 12⟩ ⟨90, 8, 90, 15⟩ ⟨90, 18, 90, 20⟩ ⟨90, 8, 90, 20⟩) (PySem.SupX.eS "at") .none .none doci_BadText pmi_BadText ani_BadText (.ref cda_BadText) cti_BadText cc_BadText), osli_BadText⟩)
    (xq_BadText : PySem.W.codeIn K (.ref cda_BadText) "BadText.__init__" = true)
    (xcd_BadText : K.lookup cda_BadText = some ⟨ccl_BadText, cdd_BadText, .fields vsi_BadText, ccs_BadText⟩)
    (xfl_BadText : vsi_BadText[2]? = some (.str file_BadText tf_BadText))
    (xfe_BadText : ((l.prog.main.file : Str) == file_BadText) = true)
    (xcc_BadText : K.lookup cc_BadText = some ⟨ccv_BadText, cld_BadText, .cell (some (.ref C_BadText)), csl_BadText⟩)
    (xg_BadGiant : PySem.W.nsIn K mainGlobals "BadGiant" = some (some (.ref C_BadGiant)))
    (xx_BadGiant : K.lookup C_BadGiant = some (excClassObj nm_BadGiant q_BadGiant C_BadGiant N_BadGiant bs_BadGiant [.ref C_GroupError, .type "ValueError", .type "Exception", .type "BaseException", .type "object"] true sn_BadGiant sub_BadGiant ab_BadGiant col_BadGiant dd_BadGiant m0_BadGiant m1_BadGiant m2_BadGiant m3_BadGiant m5_BadGiant "ValueError.__new__"))
    (xb_BadGiant : PySem.W.subIn K (.ref C_BadGiant) (.type "BaseException") = some true)
    (xt_BadGiant : PySem.W.typeIn K (.ref C_BadGiant) = some (.type "type"))
    (xd_BadGiant : PySem.W.hasDictIn K C_BadGiant = true)
    (xk_BadGiant : PySem.W.keepIn K (.ref C_BadGiant) = true)
    (xa_BadGiant : PySem.W.findIn K (.ref C_BadGiant) "__getattribute__" = some (some (.builtin "BaseException.__getattribute__")))
    (xh_BadGiant : PySem.W.findIn K (.ref C_BadGiant) "__getattr__" = some none)
    (xc_BadGiant : PySem.W.findIn K (.ref C_BadGiant) "__class__" = some (some (.builtin "object.__class__")))
    (xm_BadGiant : PySem.W.mroIn K C_BadGiant (.type "object") = some true)
    (xsa_BadGiant : PySem.W.findIn K (.ref C_BadGiant) "__setattr__" = some (some (.builtin "object.__setattr__")))
    (xn_BadGiant : PySem.W.findIn K (.ref C_BadGiant) "part" = some none)
    (xi_BadGiant : PySem.W.findIn K (.ref C_BadGiant) "__init__" = some (some (.ref fI_BadGiant)))
    (xf_BadGiant : PySem.W.typeIn K (.ref fI_BadGiant) = some (.type "function"))
    (xv_BadGiant : PySem.W.subIn K (.ref C_BadGiant) (.type "ValueError") = some true)
    (xo_BadGiant : PySem.W.mroIn K C_BadGiant (.ref C_BadGiant) = some true)
    (xw_BadGiant : PySem.W.ks_superIn K C_BadGiant C_BadGiant "__init__" = some (some (.builtin "ValueError.__init__")))
    (xl_BadGiant : K.lookup fI_BadGiant = some ⟨oi_BadGiant, odi_BadGiant, .func (PySem.W.ksFn "__init__" "BadGiant.__init__" (PySem.SupX.eA "part" ⟨24, 17, 24, 21⟩ ⟨24, 23, 24, 27⟩) (PySem.SupX.eB "part" "not right for a giant" ⟨25, 8, 25, 13⟩ ⟨25, 8, 25, 15⟩ ⟨25, 8, 25, 24⟩ ⟨25, 25, 25, 48⟩ ⟨25, 8, 25, 49⟩ ⟨25, 8, 25, 49⟩ ⟨26, 8, 26, 12⟩ ⟨26, 8, 26, 17⟩ ⟨26, 20, 26, 24⟩ ⟨26, 8, 26, 24⟩) (PySem.SupX.eS "part") .none .none doci_BadGiant pmi_BadGiant ani_BadGiant (.ref cda_BadGiant) cti_BadGiant cc_BadGiant), osli_BadGiant⟩)
    (xq_BadGiant : PySem.W.codeIn K (.ref cda_BadGiant) "BadGiant.__init__" = true)
    (xcd_BadGiant : K.lookup cda_BadGiant = some ⟨ccl_BadGiant, cdd_BadGiant, .fields vsi_BadGiant, ccs_BadGiant⟩)
    (xfl_BadGiant : vsi_BadGiant[2]? = some (.str file_BadGiant tf_BadGiant))
    (xfe_BadGiant : ((l.prog.main.file : Str) == file_BadGiant) = true)
    (xcc_BadGiant : K.lookup cc_BadGiant = some ⟨ccv_BadGiant, cld_BadGiant, .cell (some (.ref C_BadGiant)), csl_BadGiant⟩)
    (gk1 : PySem.W.specialIn K (.builtin "object.__class__") "__get__" = some (some (.builtin "getset_descriptor.__get__")))
    (gk2 : PySem.W.takesIn K (.builtin "object.__class__") = some true)
    (nd : ([C_GroupError, C_BadBack, C_BadWord, C_BadStep, C_BadRoad, C_BadFraction, C_NoGroup, C_BadPaper, C_BadSpelling, C_NotShort, C_Endless, C_BadChange, C_BadQuestion, C_BadDeed, C_BadLive, C_BadValue, C_BadLog, C_BadNumber, C_BadGroup, C_BadMachine, C_BadClaim, C_BadSystem, C_BadMap, C_TooMany, C_BadSteady, C_BadJudged, C_BadSubgroup, C_BadLefts, C_NotLet, C_BadBytes, C_BadText, C_BadGiant] : List Addr).Nodup)
    : ∃ fd : FuncData, LawAt l.prog w K mg "law" s_law N_law 12 fa fd := by
  have e := hfa.symm.trans (PySem.W.mg_of X G a8)
  cases e
  have T : Bt mg := ⟨PySem.W.mg_none_of X G z_len, PySem.W.mg_none_of X G z_int, PySem.W.mg_none_of X G z_bool, PySem.W.mg_none_of X G z_str, PySem.W.mg_none_of X G z_list, PySem.W.mg_none_of X G z_tuple, PySem.W.mg_none_of X G z_dict, PySem.W.mg_none_of X G z_isinstance, PySem.W.mg_none_of X G z_all, PySem.W.mg_none_of X G z_any, PySem.W.mg_none_of X G z_abs, PySem.W.mg_none_of X G z_min, PySem.W.mg_none_of X G z_max, PySem.W.mg_none_of X G z_range, PySem.W.mg_none_of X G z_enumerate, PySem.W.mg_none_of X G z_repr, PySem.W.mg_none_of X G z_sorted⟩
  have E_GroupError : ExcC K C_GroupError := ⟨xa_GroupError, xh_GroupError, xb_GroupError, xd_GroupError, xc_GroupError, gk1, gk2, xm_GroupError⟩
  have m_GroupError : ClsM K C_GroupError [] := clsM_of xx_GroupError xd_GroupError xt_GroupError
  have g_GroupError := PySem.W.mg_of X G xg_GroupError
  have e_GroupError : Err K mg "GroupError" C_GroupError := ⟨g_GroupError, xy_GroupError, xk_GroupError, xb_GroupError, xt_GroupError⟩
  have E_BadBack : ExcC K C_BadBack := ⟨xa_BadBack, xh_BadBack, xb_BadBack, xd_BadBack, xc_BadBack, gk1, gk2, xm_BadBack⟩
  have m_BadBack : ClsM K C_BadBack [C_GroupError] := clsM_of xx_BadBack xd_BadBack xt_BadBack
  have g_BadBack := PySem.W.mg_of X G xg_BadBack
  have e_BadBack : Err K mg "BadBack" C_BadBack := ⟨g_BadBack, xy_BadBack, xk_BadBack, xb_BadBack, xt_BadBack⟩
  have E_BadWord : ExcC K C_BadWord := ⟨xa_BadWord, xh_BadWord, xb_BadWord, xd_BadWord, xc_BadWord, gk1, gk2, xm_BadWord⟩
  have m_BadWord : ClsM K C_BadWord [C_GroupError] := clsM_of xx_BadWord xd_BadWord xt_BadWord
  have g_BadWord := PySem.W.mg_of X G xg_BadWord
  have e_BadWord : Err K mg "BadWord" C_BadWord := ⟨g_BadWord, xy_BadWord, xk_BadWord, xb_BadWord, xt_BadWord⟩
  have E_BadStep : ExcC K C_BadStep := ⟨xa_BadStep, xh_BadStep, xb_BadStep, xd_BadStep, xc_BadStep, gk1, gk2, xm_BadStep⟩
  have m_BadStep : ClsM K C_BadStep [C_GroupError] := clsM_of xx_BadStep xd_BadStep xt_BadStep
  have g_BadStep := PySem.W.mg_of X G xg_BadStep
  have e_BadStep : Err K mg "BadStep" C_BadStep := ⟨g_BadStep, xy_BadStep, xk_BadStep, xb_BadStep, xt_BadStep⟩
  have E_BadRoad : ExcC K C_BadRoad := ⟨xa_BadRoad, xh_BadRoad, xb_BadRoad, xd_BadRoad, xc_BadRoad, gk1, gk2, xm_BadRoad⟩
  have m_BadRoad : ClsM K C_BadRoad [C_GroupError] := clsM_of xx_BadRoad xd_BadRoad xt_BadRoad
  have g_BadRoad := PySem.W.mg_of X G xg_BadRoad
  have e_BadRoad : Err K mg "BadRoad" C_BadRoad := ⟨g_BadRoad, xy_BadRoad, xk_BadRoad, xb_BadRoad, xt_BadRoad⟩
  have E_BadFraction : ExcC K C_BadFraction := ⟨xa_BadFraction, xh_BadFraction, xb_BadFraction, xd_BadFraction, xc_BadFraction, gk1, gk2, xm_BadFraction⟩
  have m_BadFraction : ClsM K C_BadFraction [C_GroupError] := clsM_of xx_BadFraction xd_BadFraction xt_BadFraction
  have g_BadFraction := PySem.W.mg_of X G xg_BadFraction
  have e_BadFraction : Err K mg "BadFraction" C_BadFraction := ⟨g_BadFraction, xy_BadFraction, xk_BadFraction, xb_BadFraction, xt_BadFraction⟩
  have E_NoGroup : ExcC K C_NoGroup := ⟨xa_NoGroup, xh_NoGroup, xb_NoGroup, xd_NoGroup, xc_NoGroup, gk1, gk2, xm_NoGroup⟩
  have m_NoGroup : ClsM K C_NoGroup [C_GroupError] := clsM_of xx_NoGroup xd_NoGroup xt_NoGroup
  have g_NoGroup := PySem.W.mg_of X G xg_NoGroup
  have e_NoGroup : Err K mg "NoGroup" C_NoGroup := ⟨g_NoGroup, xy_NoGroup, xk_NoGroup, xb_NoGroup, xt_NoGroup⟩
  have E_BadPaper : ExcC K C_BadPaper := ⟨xa_BadPaper, xh_BadPaper, xb_BadPaper, xd_BadPaper, xc_BadPaper, gk1, gk2, xm_BadPaper⟩
  have m_BadPaper : ClsM K C_BadPaper [C_GroupError] := clsM_of xx_BadPaper xd_BadPaper xt_BadPaper
  have g_BadPaper := PySem.W.mg_of X G xg_BadPaper
  have e_BadPaper : Err K mg "BadPaper" C_BadPaper := ⟨g_BadPaper, xy_BadPaper, xk_BadPaper, xb_BadPaper, xt_BadPaper⟩
  have E_BadSpelling : ExcC K C_BadSpelling := ⟨xa_BadSpelling, xh_BadSpelling, xb_BadSpelling, xd_BadSpelling, xc_BadSpelling, gk1, gk2, xm_BadSpelling⟩
  have m_BadSpelling : ClsM K C_BadSpelling [C_GroupError] := clsM_of xx_BadSpelling xd_BadSpelling xt_BadSpelling
  have g_BadSpelling := PySem.W.mg_of X G xg_BadSpelling
  have e_BadSpelling : Err K mg "BadSpelling" C_BadSpelling := ⟨g_BadSpelling, xy_BadSpelling, xk_BadSpelling, xb_BadSpelling, xt_BadSpelling⟩
  have E_NotShort : ExcC K C_NotShort := ⟨xa_NotShort, xh_NotShort, xb_NotShort, xd_NotShort, xc_NotShort, gk1, gk2, xm_NotShort⟩
  have m_NotShort : ClsM K C_NotShort [C_GroupError] := clsM_of xx_NotShort xd_NotShort xt_NotShort
  have g_NotShort := PySem.W.mg_of X G xg_NotShort
  have e_NotShort : Err K mg "NotShort" C_NotShort := ⟨g_NotShort, xy_NotShort, xk_NotShort, xb_NotShort, xt_NotShort⟩
  have E_Endless : ExcC K C_Endless := ⟨xa_Endless, xh_Endless, xb_Endless, xd_Endless, xc_Endless, gk1, gk2, xm_Endless⟩
  have m_Endless : ClsM K C_Endless [C_GroupError] := clsM_of xx_Endless xd_Endless xt_Endless
  have g_Endless := PySem.W.mg_of X G xg_Endless
  have e_Endless : Err K mg "Endless" C_Endless := ⟨g_Endless, xy_Endless, xk_Endless, xb_Endless, xt_Endless⟩
  have E_BadChange : ExcC K C_BadChange := ⟨xa_BadChange, xh_BadChange, xb_BadChange, xd_BadChange, xc_BadChange, gk1, gk2, xm_BadChange⟩
  have m_BadChange : ClsM K C_BadChange [C_GroupError] := clsM_of xx_BadChange xd_BadChange xt_BadChange
  have g_BadChange := PySem.W.mg_of X G xg_BadChange
  have e_BadChange : Err K mg "BadChange" C_BadChange := ⟨g_BadChange, xy_BadChange, xk_BadChange, xb_BadChange, xt_BadChange⟩
  have E_BadQuestion : ExcC K C_BadQuestion := ⟨xa_BadQuestion, xh_BadQuestion, xb_BadQuestion, xd_BadQuestion, xc_BadQuestion, gk1, gk2, xm_BadQuestion⟩
  have m_BadQuestion : ClsM K C_BadQuestion [C_GroupError] := clsM_of xx_BadQuestion xd_BadQuestion xt_BadQuestion
  have g_BadQuestion := PySem.W.mg_of X G xg_BadQuestion
  have e_BadQuestion : Err K mg "BadQuestion" C_BadQuestion := ⟨g_BadQuestion, xy_BadQuestion, xk_BadQuestion, xb_BadQuestion, xt_BadQuestion⟩
  have E_BadDeed : ExcC K C_BadDeed := ⟨xa_BadDeed, xh_BadDeed, xb_BadDeed, xd_BadDeed, xc_BadDeed, gk1, gk2, xm_BadDeed⟩
  have m_BadDeed : ClsM K C_BadDeed [C_GroupError] := clsM_of xx_BadDeed xd_BadDeed xt_BadDeed
  have g_BadDeed := PySem.W.mg_of X G xg_BadDeed
  have e_BadDeed : Err K mg "BadDeed" C_BadDeed := ⟨g_BadDeed, xy_BadDeed, xk_BadDeed, xb_BadDeed, xt_BadDeed⟩
  have E_BadLive : ExcC K C_BadLive := ⟨xa_BadLive, xh_BadLive, xb_BadLive, xd_BadLive, xc_BadLive, gk1, gk2, xm_BadLive⟩
  have m_BadLive : ClsM K C_BadLive [C_GroupError] := clsM_of xx_BadLive xd_BadLive xt_BadLive
  have g_BadLive := PySem.W.mg_of X G xg_BadLive
  have e_BadLive : Err K mg "BadLive" C_BadLive := ⟨g_BadLive, xy_BadLive, xk_BadLive, xb_BadLive, xt_BadLive⟩
  have E_BadValue : ExcC K C_BadValue := ⟨xa_BadValue, xh_BadValue, xb_BadValue, xd_BadValue, xc_BadValue, gk1, gk2, xm_BadValue⟩
  have m_BadValue : ClsM K C_BadValue [C_GroupError] := clsM_of xx_BadValue xd_BadValue xt_BadValue
  have g_BadValue := PySem.W.mg_of X G xg_BadValue
  have e_BadValue : Err K mg "BadValue" C_BadValue := ⟨g_BadValue, xy_BadValue, xk_BadValue, xb_BadValue, xt_BadValue⟩
  have E_BadLog : ExcC K C_BadLog := ⟨xa_BadLog, xh_BadLog, xb_BadLog, xd_BadLog, xc_BadLog, gk1, gk2, xm_BadLog⟩
  have m_BadLog : ClsM K C_BadLog [C_GroupError] := clsM_of xx_BadLog xd_BadLog xt_BadLog
  have g_BadLog := PySem.W.mg_of X G xg_BadLog
  have e_BadLog : Err K mg "BadLog" C_BadLog := ⟨g_BadLog, xy_BadLog, xk_BadLog, xb_BadLog, xt_BadLog⟩
  have E_BadNumber : ExcC K C_BadNumber := ⟨xa_BadNumber, xh_BadNumber, xb_BadNumber, xd_BadNumber, xc_BadNumber, gk1, gk2, xm_BadNumber⟩
  have m_BadNumber : ClsM K C_BadNumber [C_GroupError] := clsM_of xx_BadNumber xd_BadNumber xt_BadNumber
  have g_BadNumber := PySem.W.mg_of X G xg_BadNumber
  have E_BadGroup : ExcC K C_BadGroup := ⟨xa_BadGroup, xh_BadGroup, xb_BadGroup, xd_BadGroup, xc_BadGroup, gk1, gk2, xm_BadGroup⟩
  have m_BadGroup : ClsM K C_BadGroup [C_GroupError] := clsM_of xx_BadGroup xd_BadGroup xt_BadGroup
  have g_BadGroup := PySem.W.mg_of X G xg_BadGroup
  have E_BadMachine : ExcC K C_BadMachine := ⟨xa_BadMachine, xh_BadMachine, xb_BadMachine, xd_BadMachine, xc_BadMachine, gk1, gk2, xm_BadMachine⟩
  have m_BadMachine : ClsM K C_BadMachine [C_GroupError] := clsM_of xx_BadMachine xd_BadMachine xt_BadMachine
  have g_BadMachine := PySem.W.mg_of X G xg_BadMachine
  have E_BadClaim : ExcC K C_BadClaim := ⟨xa_BadClaim, xh_BadClaim, xb_BadClaim, xd_BadClaim, xc_BadClaim, gk1, gk2, xm_BadClaim⟩
  have m_BadClaim : ClsM K C_BadClaim [C_GroupError] := clsM_of xx_BadClaim xd_BadClaim xt_BadClaim
  have g_BadClaim := PySem.W.mg_of X G xg_BadClaim
  have E_BadSystem : ExcC K C_BadSystem := ⟨xa_BadSystem, xh_BadSystem, xb_BadSystem, xd_BadSystem, xc_BadSystem, gk1, gk2, xm_BadSystem⟩
  have m_BadSystem : ClsM K C_BadSystem [C_GroupError] := clsM_of xx_BadSystem xd_BadSystem xt_BadSystem
  have g_BadSystem := PySem.W.mg_of X G xg_BadSystem
  have E_BadMap : ExcC K C_BadMap := ⟨xa_BadMap, xh_BadMap, xb_BadMap, xd_BadMap, xc_BadMap, gk1, gk2, xm_BadMap⟩
  have m_BadMap : ClsM K C_BadMap [C_GroupError] := clsM_of xx_BadMap xd_BadMap xt_BadMap
  have g_BadMap := PySem.W.mg_of X G xg_BadMap
  have E_TooMany : ExcC K C_TooMany := ⟨xa_TooMany, xh_TooMany, xb_TooMany, xd_TooMany, xc_TooMany, gk1, gk2, xm_TooMany⟩
  have m_TooMany : ClsM K C_TooMany [C_GroupError] := clsM_of xx_TooMany xd_TooMany xt_TooMany
  have g_TooMany := PySem.W.mg_of X G xg_TooMany
  have E_BadSteady : ExcC K C_BadSteady := ⟨xa_BadSteady, xh_BadSteady, xb_BadSteady, xd_BadSteady, xc_BadSteady, gk1, gk2, xm_BadSteady⟩
  have m_BadSteady : ClsM K C_BadSteady [C_GroupError] := clsM_of xx_BadSteady xd_BadSteady xt_BadSteady
  have g_BadSteady := PySem.W.mg_of X G xg_BadSteady
  have E_BadJudged : ExcC K C_BadJudged := ⟨xa_BadJudged, xh_BadJudged, xb_BadJudged, xd_BadJudged, xc_BadJudged, gk1, gk2, xm_BadJudged⟩
  have m_BadJudged : ClsM K C_BadJudged [C_GroupError] := clsM_of xx_BadJudged xd_BadJudged xt_BadJudged
  have g_BadJudged := PySem.W.mg_of X G xg_BadJudged
  have E_BadSubgroup : ExcC K C_BadSubgroup := ⟨xa_BadSubgroup, xh_BadSubgroup, xb_BadSubgroup, xd_BadSubgroup, xc_BadSubgroup, gk1, gk2, xm_BadSubgroup⟩
  have m_BadSubgroup : ClsM K C_BadSubgroup [C_GroupError] := clsM_of xx_BadSubgroup xd_BadSubgroup xt_BadSubgroup
  have g_BadSubgroup := PySem.W.mg_of X G xg_BadSubgroup
  have E_BadLefts : ExcC K C_BadLefts := ⟨xa_BadLefts, xh_BadLefts, xb_BadLefts, xd_BadLefts, xc_BadLefts, gk1, gk2, xm_BadLefts⟩
  have m_BadLefts : ClsM K C_BadLefts [C_GroupError] := clsM_of xx_BadLefts xd_BadLefts xt_BadLefts
  have g_BadLefts := PySem.W.mg_of X G xg_BadLefts
  have E_NotLet : ExcC K C_NotLet := ⟨xa_NotLet, xh_NotLet, xb_NotLet, xd_NotLet, xc_NotLet, gk1, gk2, xm_NotLet⟩
  have m_NotLet : ClsM K C_NotLet [C_GroupError] := clsM_of xx_NotLet xd_NotLet xt_NotLet
  have g_NotLet := PySem.W.mg_of X G xg_NotLet
  have E_BadBytes : ExcC K C_BadBytes := ⟨xa_BadBytes, xh_BadBytes, xb_BadBytes, xd_BadBytes, xc_BadBytes, gk1, gk2, xm_BadBytes⟩
  have m_BadBytes : ClsM K C_BadBytes [C_GroupError] := clsM_of xx_BadBytes xd_BadBytes xt_BadBytes
  have g_BadBytes := PySem.W.mg_of X G xg_BadBytes
  have E_BadText : ExcC K C_BadText := ⟨xa_BadText, xh_BadText, xb_BadText, xd_BadText, xc_BadText, gk1, gk2, xm_BadText⟩
  have m_BadText : ClsM K C_BadText [C_GroupError] := clsM_of xx_BadText xd_BadText xt_BadText
  have g_BadText := PySem.W.mg_of X G xg_BadText
  have E_BadGiant : ExcC K C_BadGiant := ⟨xa_BadGiant, xh_BadGiant, xb_BadGiant, xd_BadGiant, xc_BadGiant, gk1, gk2, xm_BadGiant⟩
  have m_BadGiant : ClsM K C_BadGiant [C_GroupError] := clsM_of xx_BadGiant xd_BadGiant xt_BadGiant
  have g_BadGiant := PySem.W.mg_of X G xg_BadGiant
  have t_BadNumber : PySem.SupX.SupTxt l.prog K mg "BadNumber" "part" C_BadNumber fI_BadNumber :=
    { gC := g_BadNumber, cls := ⟨nm_BadNumber, q_BadNumber, N_BadNumber, bs_BadNumber, _, sn_BadNumber, sub_BadNumber, ab_BadNumber, col_BadNumber, dd_BadNumber, m0_BadNumber, m1_BadNumber, m2_BadNumber, m3_BadNumber, m5_BadNumber, xx_BadNumber, rfl⟩, sa := xsa_BadNumber, ga := xa_BadNumber, gg := xh_BadNumber, noN := xn_BadNumber, iC := xi_BadNumber, tC := xf_BadNumber, kC := xk_BadNumber, exC := xb_BadNumber, veC := xv_BadNumber, tyC := xt_BadNumber, hdC := xd_BadNumber, mC := xo_BadNumber, sup := xw_BadNumber, op := z_op, noS := PySem.W.mg_none_of X G z_super, top := h_top, nf := PySem.SupX.fld_part,
      fn := ⟨_, _, _, _, _, cda_BadNumber, _, _, cc_BadNumber, _, _, _, _, _, _, _, _, _, _, _, _, _, _, _, _, _, _, _, _, _, file_BadNumber, _, rfl, xl_BadNumber, xq_BadNumber, xcd_BadNumber, xfl_BadNumber, xfe_BadNumber, xcc_BadNumber⟩ }
  have t_BadGroup : PySem.SupX.SupTxt l.prog K mg "BadGroup" "part" C_BadGroup fI_BadGroup :=
    { gC := g_BadGroup, cls := ⟨nm_BadGroup, q_BadGroup, N_BadGroup, bs_BadGroup, _, sn_BadGroup, sub_BadGroup, ab_BadGroup, col_BadGroup, dd_BadGroup, m0_BadGroup, m1_BadGroup, m2_BadGroup, m3_BadGroup, m5_BadGroup, xx_BadGroup, rfl⟩, sa := xsa_BadGroup, ga := xa_BadGroup, gg := xh_BadGroup, noN := xn_BadGroup, iC := xi_BadGroup, tC := xf_BadGroup, kC := xk_BadGroup, exC := xb_BadGroup, veC := xv_BadGroup, tyC := xt_BadGroup, hdC := xd_BadGroup, mC := xo_BadGroup, sup := xw_BadGroup, op := z_op, noS := PySem.W.mg_none_of X G z_super, top := h_top, nf := PySem.SupX.fld_part,
      fn := ⟨_, _, _, _, _, cda_BadGroup, _, _, cc_BadGroup, _, _, _, _, _, _, _, _, _, _, _, _, _, _, _, _, _, _, _, _, _, file_BadGroup, _, rfl, xl_BadGroup, xq_BadGroup, xcd_BadGroup, xfl_BadGroup, xfe_BadGroup, xcc_BadGroup⟩ }
  have t_BadMachine : PySem.SupX.SupTxt l.prog K mg "BadMachine" "part" C_BadMachine fI_BadMachine :=
    { gC := g_BadMachine, cls := ⟨nm_BadMachine, q_BadMachine, N_BadMachine, bs_BadMachine, _, sn_BadMachine, sub_BadMachine, ab_BadMachine, col_BadMachine, dd_BadMachine, m0_BadMachine, m1_BadMachine, m2_BadMachine, m3_BadMachine, m5_BadMachine, xx_BadMachine, rfl⟩, sa := xsa_BadMachine, ga := xa_BadMachine, gg := xh_BadMachine, noN := xn_BadMachine, iC := xi_BadMachine, tC := xf_BadMachine, kC := xk_BadMachine, exC := xb_BadMachine, veC := xv_BadMachine, tyC := xt_BadMachine, hdC := xd_BadMachine, mC := xo_BadMachine, sup := xw_BadMachine, op := z_op, noS := PySem.W.mg_none_of X G z_super, top := h_top, nf := PySem.SupX.fld_part,
      fn := ⟨_, _, _, _, _, cda_BadMachine, _, _, cc_BadMachine, _, _, _, _, _, _, _, _, _, _, _, _, _, _, _, _, _, _, _, _, _, file_BadMachine, _, rfl, xl_BadMachine, xq_BadMachine, xcd_BadMachine, xfl_BadMachine, xfe_BadMachine, xcc_BadMachine⟩ }
  have t_BadClaim : PySem.SupX.SupTxt l.prog K mg "BadClaim" "part" C_BadClaim fI_BadClaim :=
    { gC := g_BadClaim, cls := ⟨nm_BadClaim, q_BadClaim, N_BadClaim, bs_BadClaim, _, sn_BadClaim, sub_BadClaim, ab_BadClaim, col_BadClaim, dd_BadClaim, m0_BadClaim, m1_BadClaim, m2_BadClaim, m3_BadClaim, m5_BadClaim, xx_BadClaim, rfl⟩, sa := xsa_BadClaim, ga := xa_BadClaim, gg := xh_BadClaim, noN := xn_BadClaim, iC := xi_BadClaim, tC := xf_BadClaim, kC := xk_BadClaim, exC := xb_BadClaim, veC := xv_BadClaim, tyC := xt_BadClaim, hdC := xd_BadClaim, mC := xo_BadClaim, sup := xw_BadClaim, op := z_op, noS := PySem.W.mg_none_of X G z_super, top := h_top, nf := PySem.SupX.fld_part,
      fn := ⟨_, _, _, _, _, cda_BadClaim, _, _, cc_BadClaim, _, _, _, _, _, _, _, _, _, _, _, _, _, _, _, _, _, _, _, _, _, file_BadClaim, _, rfl, xl_BadClaim, xq_BadClaim, xcd_BadClaim, xfl_BadClaim, xfe_BadClaim, xcc_BadClaim⟩ }
  have t_BadSystem : PySem.SupX.SupTxt l.prog K mg "BadSystem" "part" C_BadSystem fI_BadSystem :=
    { gC := g_BadSystem, cls := ⟨nm_BadSystem, q_BadSystem, N_BadSystem, bs_BadSystem, _, sn_BadSystem, sub_BadSystem, ab_BadSystem, col_BadSystem, dd_BadSystem, m0_BadSystem, m1_BadSystem, m2_BadSystem, m3_BadSystem, m5_BadSystem, xx_BadSystem, rfl⟩, sa := xsa_BadSystem, ga := xa_BadSystem, gg := xh_BadSystem, noN := xn_BadSystem, iC := xi_BadSystem, tC := xf_BadSystem, kC := xk_BadSystem, exC := xb_BadSystem, veC := xv_BadSystem, tyC := xt_BadSystem, hdC := xd_BadSystem, mC := xo_BadSystem, sup := xw_BadSystem, op := z_op, noS := PySem.W.mg_none_of X G z_super, top := h_top, nf := PySem.SupX.fld_part,
      fn := ⟨_, _, _, _, _, cda_BadSystem, _, _, cc_BadSystem, _, _, _, _, _, _, _, _, _, _, _, _, _, _, _, _, _, _, _, _, _, file_BadSystem, _, rfl, xl_BadSystem, xq_BadSystem, xcd_BadSystem, xfl_BadSystem, xfe_BadSystem, xcc_BadSystem⟩ }
  have t_BadMap : PySem.SupX.SupTxt l.prog K mg "BadMap" "part" C_BadMap fI_BadMap :=
    { gC := g_BadMap, cls := ⟨nm_BadMap, q_BadMap, N_BadMap, bs_BadMap, _, sn_BadMap, sub_BadMap, ab_BadMap, col_BadMap, dd_BadMap, m0_BadMap, m1_BadMap, m2_BadMap, m3_BadMap, m5_BadMap, xx_BadMap, rfl⟩, sa := xsa_BadMap, ga := xa_BadMap, gg := xh_BadMap, noN := xn_BadMap, iC := xi_BadMap, tC := xf_BadMap, kC := xk_BadMap, exC := xb_BadMap, veC := xv_BadMap, tyC := xt_BadMap, hdC := xd_BadMap, mC := xo_BadMap, sup := xw_BadMap, op := z_op, noS := PySem.W.mg_none_of X G z_super, top := h_top, nf := PySem.SupX.fld_part,
      fn := ⟨_, _, _, _, _, cda_BadMap, _, _, cc_BadMap, _, _, _, _, _, _, _, _, _, _, _, _, _, _, _, _, _, _, _, _, _, file_BadMap, _, rfl, xl_BadMap, xq_BadMap, xcd_BadMap, xfl_BadMap, xfe_BadMap, xcc_BadMap⟩ }
  have t_TooMany : PySem.SupX.SupTxt l.prog K mg "TooMany" "most" C_TooMany fI_TooMany :=
    { gC := g_TooMany, cls := ⟨nm_TooMany, q_TooMany, N_TooMany, bs_TooMany, _, sn_TooMany, sub_TooMany, ab_TooMany, col_TooMany, dd_TooMany, m0_TooMany, m1_TooMany, m2_TooMany, m3_TooMany, m5_TooMany, xx_TooMany, rfl⟩, sa := xsa_TooMany, ga := xa_TooMany, gg := xh_TooMany, noN := xn_TooMany, iC := xi_TooMany, tC := xf_TooMany, kC := xk_TooMany, exC := xb_TooMany, veC := xv_TooMany, tyC := xt_TooMany, hdC := xd_TooMany, mC := xo_TooMany, sup := xw_TooMany, op := z_op, noS := PySem.W.mg_none_of X G z_super, top := h_top, nf := PySem.SupX.fld_most,
      fn := ⟨_, _, _, _, _, cda_TooMany, _, _, cc_TooMany, _, _, _, _, _, _, _, _, _, _, _, _, _, _, _, _, _, _, _, _, _, file_TooMany, _, rfl, xl_TooMany, xq_TooMany, xcd_TooMany, xfl_TooMany, xfe_TooMany, xcc_TooMany⟩ }
  have t_BadSteady : PySem.SupX.SupTxt l.prog K mg "BadSteady" "fault" C_BadSteady fI_BadSteady :=
    { gC := g_BadSteady, cls := ⟨nm_BadSteady, q_BadSteady, N_BadSteady, bs_BadSteady, _, sn_BadSteady, sub_BadSteady, ab_BadSteady, col_BadSteady, dd_BadSteady, m0_BadSteady, m1_BadSteady, m2_BadSteady, m3_BadSteady, m5_BadSteady, xx_BadSteady, rfl⟩, sa := xsa_BadSteady, ga := xa_BadSteady, gg := xh_BadSteady, noN := xn_BadSteady, iC := xi_BadSteady, tC := xf_BadSteady, kC := xk_BadSteady, exC := xb_BadSteady, veC := xv_BadSteady, tyC := xt_BadSteady, hdC := xd_BadSteady, mC := xo_BadSteady, sup := xw_BadSteady, op := z_op, noS := PySem.W.mg_none_of X G z_super, top := h_top, nf := PySem.SupX.fld_fault,
      fn := ⟨_, _, _, _, _, cda_BadSteady, _, _, cc_BadSteady, _, _, _, _, _, _, _, _, _, _, _, _, _, _, _, _, _, _, _, _, _, file_BadSteady, _, rfl, xl_BadSteady, xq_BadSteady, xcd_BadSteady, xfl_BadSteady, xfe_BadSteady, xcc_BadSteady⟩ }
  have t_BadJudged : PySem.SupX.SupTxt l.prog K mg "BadJudged" "part" C_BadJudged fI_BadJudged :=
    { gC := g_BadJudged, cls := ⟨nm_BadJudged, q_BadJudged, N_BadJudged, bs_BadJudged, _, sn_BadJudged, sub_BadJudged, ab_BadJudged, col_BadJudged, dd_BadJudged, m0_BadJudged, m1_BadJudged, m2_BadJudged, m3_BadJudged, m5_BadJudged, xx_BadJudged, rfl⟩, sa := xsa_BadJudged, ga := xa_BadJudged, gg := xh_BadJudged, noN := xn_BadJudged, iC := xi_BadJudged, tC := xf_BadJudged, kC := xk_BadJudged, exC := xb_BadJudged, veC := xv_BadJudged, tyC := xt_BadJudged, hdC := xd_BadJudged, mC := xo_BadJudged, sup := xw_BadJudged, op := z_op, noS := PySem.W.mg_none_of X G z_super, top := h_top, nf := PySem.SupX.fld_part,
      fn := ⟨_, _, _, _, _, cda_BadJudged, _, _, cc_BadJudged, _, _, _, _, _, _, _, _, _, _, _, _, _, _, _, _, _, _, _, _, _, file_BadJudged, _, rfl, xl_BadJudged, xq_BadJudged, xcd_BadJudged, xfl_BadJudged, xfe_BadJudged, xcc_BadJudged⟩ }
  have t_BadSubgroup : PySem.SupX.SupTxt l.prog K mg "BadSubgroup" "part" C_BadSubgroup fI_BadSubgroup :=
    { gC := g_BadSubgroup, cls := ⟨nm_BadSubgroup, q_BadSubgroup, N_BadSubgroup, bs_BadSubgroup, _, sn_BadSubgroup, sub_BadSubgroup, ab_BadSubgroup, col_BadSubgroup, dd_BadSubgroup, m0_BadSubgroup, m1_BadSubgroup, m2_BadSubgroup, m3_BadSubgroup, m5_BadSubgroup, xx_BadSubgroup, rfl⟩, sa := xsa_BadSubgroup, ga := xa_BadSubgroup, gg := xh_BadSubgroup, noN := xn_BadSubgroup, iC := xi_BadSubgroup, tC := xf_BadSubgroup, kC := xk_BadSubgroup, exC := xb_BadSubgroup, veC := xv_BadSubgroup, tyC := xt_BadSubgroup, hdC := xd_BadSubgroup, mC := xo_BadSubgroup, sup := xw_BadSubgroup, op := z_op, noS := PySem.W.mg_none_of X G z_super, top := h_top, nf := PySem.SupX.fld_part,
      fn := ⟨_, _, _, _, _, cda_BadSubgroup, _, _, cc_BadSubgroup, _, _, _, _, _, _, _, _, _, _, _, _, _, _, _, _, _, _, _, _, _, file_BadSubgroup, _, rfl, xl_BadSubgroup, xq_BadSubgroup, xcd_BadSubgroup, xfl_BadSubgroup, xfe_BadSubgroup, xcc_BadSubgroup⟩ }
  have t_BadLefts : PySem.SupX.SupTxt l.prog K mg "BadLefts" "place" C_BadLefts fI_BadLefts :=
    { gC := g_BadLefts, cls := ⟨nm_BadLefts, q_BadLefts, N_BadLefts, bs_BadLefts, _, sn_BadLefts, sub_BadLefts, ab_BadLefts, col_BadLefts, dd_BadLefts, m0_BadLefts, m1_BadLefts, m2_BadLefts, m3_BadLefts, m5_BadLefts, xx_BadLefts, rfl⟩, sa := xsa_BadLefts, ga := xa_BadLefts, gg := xh_BadLefts, noN := xn_BadLefts, iC := xi_BadLefts, tC := xf_BadLefts, kC := xk_BadLefts, exC := xb_BadLefts, veC := xv_BadLefts, tyC := xt_BadLefts, hdC := xd_BadLefts, mC := xo_BadLefts, sup := xw_BadLefts, op := z_op, noS := PySem.W.mg_none_of X G z_super, top := h_top, nf := PySem.SupX.fld_place,
      fn := ⟨_, _, _, _, _, cda_BadLefts, _, _, cc_BadLefts, _, _, _, _, _, _, _, _, _, _, _, _, _, _, _, _, _, _, _, _, _, file_BadLefts, _, rfl, xl_BadLefts, xq_BadLefts, xcd_BadLefts, xfl_BadLefts, xfe_BadLefts, xcc_BadLefts⟩ }
  have t_NotLet : PySem.SupX.SupTxt l.prog K mg "NotLet" "why" C_NotLet fI_NotLet :=
    { gC := g_NotLet, cls := ⟨nm_NotLet, q_NotLet, N_NotLet, bs_NotLet, _, sn_NotLet, sub_NotLet, ab_NotLet, col_NotLet, dd_NotLet, m0_NotLet, m1_NotLet, m2_NotLet, m3_NotLet, m5_NotLet, xx_NotLet, rfl⟩, sa := xsa_NotLet, ga := xa_NotLet, gg := xh_NotLet, noN := xn_NotLet, iC := xi_NotLet, tC := xf_NotLet, kC := xk_NotLet, exC := xb_NotLet, veC := xv_NotLet, tyC := xt_NotLet, hdC := xd_NotLet, mC := xo_NotLet, sup := xw_NotLet, op := z_op, noS := PySem.W.mg_none_of X G z_super, top := h_top, nf := PySem.SupX.fld_why,
      fn := ⟨_, _, _, _, _, cda_NotLet, _, _, cc_NotLet, _, _, _, _, _, _, _, _, _, _, _, _, _, _, _, _, _, _, _, _, _, file_NotLet, _, rfl, xl_NotLet, xq_NotLet, xcd_NotLet, xfl_NotLet, xfe_NotLet, xcc_NotLet⟩ }
  have t_BadBytes : PySem.SupX.SupTxt l.prog K mg "BadBytes" "place" C_BadBytes fI_BadBytes :=
    { gC := g_BadBytes, cls := ⟨nm_BadBytes, q_BadBytes, N_BadBytes, bs_BadBytes, _, sn_BadBytes, sub_BadBytes, ab_BadBytes, col_BadBytes, dd_BadBytes, m0_BadBytes, m1_BadBytes, m2_BadBytes, m3_BadBytes, m5_BadBytes, xx_BadBytes, rfl⟩, sa := xsa_BadBytes, ga := xa_BadBytes, gg := xh_BadBytes, noN := xn_BadBytes, iC := xi_BadBytes, tC := xf_BadBytes, kC := xk_BadBytes, exC := xb_BadBytes, veC := xv_BadBytes, tyC := xt_BadBytes, hdC := xd_BadBytes, mC := xo_BadBytes, sup := xw_BadBytes, op := z_op, noS := PySem.W.mg_none_of X G z_super, top := h_top, nf := PySem.SupX.fld_place,
      fn := ⟨_, _, _, _, _, cda_BadBytes, _, _, cc_BadBytes, _, _, _, _, _, _, _, _, _, _, _, _, _, _, _, _, _, _, _, _, _, file_BadBytes, _, rfl, xl_BadBytes, xq_BadBytes, xcd_BadBytes, xfl_BadBytes, xfe_BadBytes, xcc_BadBytes⟩ }
  have t_BadText : PySem.SupX.SupTxt l.prog K mg "BadText" "at" C_BadText fI_BadText :=
    { gC := g_BadText, cls := ⟨nm_BadText, q_BadText, N_BadText, bs_BadText, _, sn_BadText, sub_BadText, ab_BadText, col_BadText, dd_BadText, m0_BadText, m1_BadText, m2_BadText, m3_BadText, m5_BadText, xx_BadText, rfl⟩, sa := xsa_BadText, ga := xa_BadText, gg := xh_BadText, noN := xn_BadText, iC := xi_BadText, tC := xf_BadText, kC := xk_BadText, exC := xb_BadText, veC := xv_BadText, tyC := xt_BadText, hdC := xd_BadText, mC := xo_BadText, sup := xw_BadText, op := z_op, noS := PySem.W.mg_none_of X G z_super, top := h_top, nf := PySem.SupX.fld_at,
      fn := ⟨_, _, _, _, _, cda_BadText, _, _, cc_BadText, _, _, _, _, _, _, _, _, _, _, _, _, _, _, _, _, _, _, _, _, _, file_BadText, _, rfl, xl_BadText, xq_BadText, xcd_BadText, xfl_BadText, xfe_BadText, xcc_BadText⟩ }
  have t_BadGiant : PySem.SupX.SupTxt l.prog K mg "BadGiant" "part" C_BadGiant fI_BadGiant :=
    { gC := g_BadGiant, cls := ⟨nm_BadGiant, q_BadGiant, N_BadGiant, bs_BadGiant, _, sn_BadGiant, sub_BadGiant, ab_BadGiant, col_BadGiant, dd_BadGiant, m0_BadGiant, m1_BadGiant, m2_BadGiant, m3_BadGiant, m5_BadGiant, xx_BadGiant, rfl⟩, sa := xsa_BadGiant, ga := xa_BadGiant, gg := xh_BadGiant, noN := xn_BadGiant, iC := xi_BadGiant, tC := xf_BadGiant, kC := xk_BadGiant, exC := xb_BadGiant, veC := xv_BadGiant, tyC := xt_BadGiant, hdC := xd_BadGiant, mC := xo_BadGiant, sup := xw_BadGiant, op := z_op, noS := PySem.W.mg_none_of X G z_super, top := h_top, nf := PySem.SupX.fld_part,
      fn := ⟨_, _, _, _, _, cda_BadGiant, _, _, cc_BadGiant, _, _, _, _, _, _, _, _, _, _, _, _, _, _, _, _, _, _, _, _, _, file_BadGiant, _, rfl, xl_BadGiant, xq_BadGiant, xcd_BadGiant, xfl_BadGiant, xfe_BadGiant, xcc_BadGiant⟩ }
  have F0 := fun_mk (st := s_law_begun) l0 c0 k0
  have b0 := F0.binds (ps := P_law_begun) fun _ _ _ _ _ _ us hl => match us, hl with | [_], _ => rfl
  have D0 : DefAt K mg "_law_begun" s_law_begun P_law_begun f0 _ := ⟨F0, PySem.W.mg_of X G a0, b0⟩
  have F1 := fun_mk (st := s_law_mixed) l1 c1 k1
  have b1 := F1.binds (ps := P_law_mixed) fun _ _ _ _ _ _ us hl => match us, hl with | [_], _ => rfl
  have D1 : DefAt K mg "_law_mixed" s_law_mixed P_law_mixed f1 _ := ⟨F1, PySem.W.mg_of X G a1, b1⟩
  have F2 := fun_mk (st := s_law_take) l2 c2 k2
  have b2 := F2.binds (ps := P_law_take) fun _ _ _ _ _ _ us hl => match us, hl with | [_, _], _ => rfl
  have D2 : DefAt K mg "_law_take" s_law_take P_law_take f2 _ := ⟨F2, PySem.W.mg_of X G a2, b2⟩
  have F3 := fun_mk (st := s_law_pick) l3 c3 k3
  have b3 := F3.binds (ps := P_law_pick) fun _ _ _ _ _ _ us hl => match us, hl with | [_, _], _ => rfl
  have D3 : DefAt K mg "_law_pick" s_law_pick P_law_pick f3 _ := ⟨F3, PySem.W.mg_of X G a3, b3⟩
  have F4 := fun_mk (st := s_law_any) l4 c4 k4
  have b4 := F4.binds (ps := P_law_any) fun _ _ _ _ _ _ us hl => match us, hl with | [_], _ => rfl
  have D4 : DefAt K mg "_law_any" s_law_any P_law_any f4 _ := ⟨F4, PySem.W.mg_of X G a4, b4⟩
  have F5 := fun_mk (st := s_law_kinds) l5 c5 k5
  have b5 := F5.binds (ps := P_law_kinds) fun _ _ _ _ _ _ us hl => match us, hl with | [_], _ => rfl
  have D5 : DefAt K mg "_law_kinds" s_law_kinds P_law_kinds f5 _ := ⟨F5, PySem.W.mg_of X G a5, b5⟩
  have F6 := fun_mk (st := s_law_plain_errors) l6 c6 k6
  have b6 := F6.binds (ps := P_law_plain_errors) fun _ _ _ _ _ _ us hl => match us, hl with | [_], _ => rfl
  have D6 : DefAt K mg "_law_plain_errors" s_law_plain_errors P_law_plain_errors f6 _ := ⟨F6, PySem.W.mg_of X G a6, b6⟩
  have F7 := fun_mk (st := s_law_errors_of) l7 c7 k7
  have b7 := F7.binds (ps := P_law_errors_of) fun _ _ _ _ _ _ us hl => match us, hl with | [_], _ => rfl
  have D7 : DefAt K mg "_law_errors_of" s_law_errors_of P_law_errors_of f7 _ := ⟨F7, PySem.W.mg_of X G a7, b7⟩
  have F8 := fun_mk (st := s_law) l8 c8 k8
  have b8 := F8.binds (ps := P_law) fun _ _ _ _ _ _ us hl => match us, hl with | [_], _ => rfl
  have hall : ∀ C ∈ ([C_BadBack, C_BadWord, C_BadStep, C_BadRoad, C_BadFraction, C_NoGroup, C_BadPaper, C_BadSpelling, C_NotShort, C_Endless, C_BadChange, C_BadQuestion, C_BadDeed, C_BadLive, C_BadValue, C_BadLog] : List Addr) ++ [C_BadNumber, C_BadGroup, C_BadMachine, C_BadClaim, C_BadSystem, C_BadMap, C_TooMany, C_BadSteady, C_BadJudged, C_BadSubgroup, C_BadLefts, C_NotLet, C_BadBytes, C_BadText, C_BadGiant], ExcC K C ∧ ClsM K C [C_GroupError] := by
    intro C hC
    simp only [List.cons_append, List.nil_append, List.mem_cons, List.not_mem_nil, or_false] at hC
    rcases hC with rfl | rfl | rfl | rfl | rfl | rfl | rfl | rfl | rfl | rfl | rfl | rfl | rfl | rfl | rfl | rfl | rfl | rfl | rfl | rfl | rfl | rfl | rfl | rfl | rfl | rfl | rfl | rfl | rfl | rfl | rfl
    · exact ⟨E_BadBack, m_BadBack⟩
    · exact ⟨E_BadWord, m_BadWord⟩
    · exact ⟨E_BadStep, m_BadStep⟩
    · exact ⟨E_BadRoad, m_BadRoad⟩
    · exact ⟨E_BadFraction, m_BadFraction⟩
    · exact ⟨E_NoGroup, m_NoGroup⟩
    · exact ⟨E_BadPaper, m_BadPaper⟩
    · exact ⟨E_BadSpelling, m_BadSpelling⟩
    · exact ⟨E_NotShort, m_NotShort⟩
    · exact ⟨E_Endless, m_Endless⟩
    · exact ⟨E_BadChange, m_BadChange⟩
    · exact ⟨E_BadQuestion, m_BadQuestion⟩
    · exact ⟨E_BadDeed, m_BadDeed⟩
    · exact ⟨E_BadLive, m_BadLive⟩
    · exact ⟨E_BadValue, m_BadValue⟩
    · exact ⟨E_BadLog, m_BadLog⟩
    · exact ⟨E_BadNumber, m_BadNumber⟩
    · exact ⟨E_BadGroup, m_BadGroup⟩
    · exact ⟨E_BadMachine, m_BadMachine⟩
    · exact ⟨E_BadClaim, m_BadClaim⟩
    · exact ⟨E_BadSystem, m_BadSystem⟩
    · exact ⟨E_BadMap, m_BadMap⟩
    · exact ⟨E_TooMany, m_TooMany⟩
    · exact ⟨E_BadSteady, m_BadSteady⟩
    · exact ⟨E_BadJudged, m_BadJudged⟩
    · exact ⟨E_BadSubgroup, m_BadSubgroup⟩
    · exact ⟨E_BadLefts, m_BadLefts⟩
    · exact ⟨E_NotLet, m_NotLet⟩
    · exact ⟨E_BadBytes, m_BadBytes⟩
    · exact ⟨E_BadText, m_BadText⟩
    · exact ⟨E_BadGiant, m_BadGiant⟩
  refine ⟨_, sc_law, F8, b8, fun base hK hNs cdv s H a ns hr hO hS h63 => ?_⟩
  have h__law_begun := ok_law_begun (P := l.prog) (w := w) (base := base) D0 T
  have h__law_mixed := ok_law_mixed (P := l.prog) (w := w) (base := base) D1 T
  have h__law_take := ok_law_take (P := l.prog) (w := w) (base := base) D2 T h__law_mixed
  have h__law_pick := ok_law_pick (P := l.prog) (w := w) (base := base) D3 T h__law_take
  have h__law_any := ok_law_any (P := l.prog) (w := w) (base := base) D4 T h__law_pick
  have h__law_kinds := ok_law_kinds (P := l.prog) (w := w) (base := base) D5 T g_BadBack g_BadWord g_BadStep g_BadRoad g_BadFraction g_NoGroup g_BadPaper g_BadSpelling g_NotShort g_Endless g_BadChange g_BadQuestion g_BadDeed g_BadLive g_BadValue g_BadLog g_BadNumber g_BadGroup g_BadMachine g_BadClaim g_BadSystem g_BadMap g_TooMany g_BadSteady g_BadJudged g_BadSubgroup g_BadLefts g_NotLet g_BadBytes g_BadText g_BadGiant
  have h__law_plain_errors := ok_law_plain_errors (P := l.prog) (w := w) (base := base) D6 T e_BadBack e_BadWord e_BadStep e_BadRoad e_BadFraction e_NoGroup e_BadPaper e_BadSpelling e_NotShort e_Endless e_BadChange e_BadQuestion e_BadDeed e_BadLive e_BadValue e_BadLog
  have h__law_errors_of := ok_law_errors_of (P := l.prog) (w := w) (base := base) D7 T t_BadNumber t_BadGroup t_BadMachine t_BadClaim t_BadSystem t_BadMap t_TooMany t_BadSteady t_BadJudged t_BadSubgroup t_BadLefts t_NotLet t_BadBytes t_BadText t_BadGiant
  exact ok_law T (PySem.W.mg_none_of X G z_ValueError) e_GroupError rfl rfl (fun C h => (hall C h).1) (kinds_of (fun C h => (hall C h).2) nd) (fun C h => kit_ge m_GroupError (hall C h).2) (fun C h => kit_ve (hall C h).2) E_GroupError (kinds_base m_GroupError (fun C h => (hall C h).2) nd) (kit_ve m_GroupError) h__law_begun h__law_pick h__law_any h__law_kinds h__law_plain_errors h__law_errors_of hr hO hS h63
end Gw

open PySem PySem.W PyProof.Rows in
set_option maxRecDepth 100000 in
set_option maxHeartbeats 0 in
theorem PySem.Challenge.cw_gatewords_k00_errors_of_all_parts_holds : PySem.Challenge.rw_gatewords_k00_errors_of_all_parts.Holds := by
  w_on; o_law; k_head; (case hw => w_witness2)
  k_fill
  refine Gw.walk_at (l := PySem.Challenge.rw_gatewords_k00_errors_of_all_parts) (st := Gw.s_law) (N := Gw.N_law) (k := 12) rfl rfl ⟨rfl, by decide, by decide⟩ (fun w h Y => PySem.W.kIn_of Y) ?F
  case F =>
    intro w mg fa h KX G hmg
    refine' Gw.all_mk KX G hmg ?a0 ?l0 ?c0 ?k0 ?a1 ?l1 ?c1 ?k1 ?a2 ?l2 ?c2 ?k2 ?a3 ?l3 ?c3 ?k3 ?a4 ?l4 ?c4 ?k4 ?a5 ?l5 ?c5 ?k5 ?a6 ?l6 ?c6 ?k6 ?a7 ?l7 ?c7 ?k7 ?a8 ?l8 ?c8 ?k8 ?z_len ?z_int ?z_bool ?z_str ?z_list ?z_tuple ?z_dict ?z_isinstance ?z_all ?z_any ?z_abs ?z_min ?z_max ?z_range ?z_enumerate ?z_repr ?z_sorted ?z_super ?z_ValueError ?z_op ?h_top ?xg_GroupError ?xx_GroupError ?xb_GroupError ?xt_GroupError ?xd_GroupError ?xk_GroupError ?xa_GroupError ?xh_GroupError ?xc_GroupError ?xm_GroupError ?xy_GroupError ?xg_BadBack ?xx_BadBack ?xb_BadBack ?xt_BadBack ?xd_BadBack ?xk_BadBack ?xa_BadBack ?xh_BadBack ?xc_BadBack ?xm_BadBack ?xy_BadBack ?xg_BadWord ?xx_BadWord ?xb_BadWord ?xt_BadWord ?xd_BadWord ?xk_BadWord ?xa_BadWord ?xh_BadWord ?xc_BadWord ?xm_BadWord ?xy_BadWord ?xg_BadStep ?xx_BadStep ?xb_BadStep ?xt_BadStep ?xd_BadStep ?xk_BadStep ?xa_BadStep ?xh_BadStep ?xc_BadStep ?xm_BadStep ?xy_BadStep ?xg_BadRoad ?xx_BadRoad ?xb_BadRoad ?xt_BadRoad ?xd_BadRoad ?xk_BadRoad ?xa_BadRoad ?xh_BadRoad ?xc_BadRoad ?xm_BadRoad ?xy_BadRoad ?xg_BadFraction ?xx_BadFraction ?xb_BadFraction ?xt_BadFraction ?xd_BadFraction ?xk_BadFraction ?xa_BadFraction ?xh_BadFraction ?xc_BadFraction ?xm_BadFraction ?xy_BadFraction ?xg_NoGroup ?xx_NoGroup ?xb_NoGroup ?xt_NoGroup ?xd_NoGroup ?xk_NoGroup ?xa_NoGroup ?xh_NoGroup ?xc_NoGroup ?xm_NoGroup ?xy_NoGroup ?xg_BadPaper ?xx_BadPaper ?xb_BadPaper ?xt_BadPaper ?xd_BadPaper ?xk_BadPaper ?xa_BadPaper ?xh_BadPaper ?xc_BadPaper ?xm_BadPaper ?xy_BadPaper ?xg_BadSpelling ?xx_BadSpelling ?xb_BadSpelling ?xt_BadSpelling ?xd_BadSpelling ?xk_BadSpelling ?xa_BadSpelling ?xh_BadSpelling ?xc_BadSpelling ?xm_BadSpelling ?xy_BadSpelling ?xg_NotShort ?xx_NotShort ?xb_NotShort ?xt_NotShort ?xd_NotShort ?xk_NotShort ?xa_NotShort ?xh_NotShort ?xc_NotShort ?xm_NotShort ?xy_NotShort ?xg_Endless ?xx_Endless ?xb_Endless ?xt_Endless ?xd_Endless ?xk_Endless ?xa_Endless ?xh_Endless ?xc_Endless ?xm_Endless ?xy_Endless ?xg_BadChange ?xx_BadChange ?xb_BadChange ?xt_BadChange ?xd_BadChange ?xk_BadChange ?xa_BadChange ?xh_BadChange ?xc_BadChange ?xm_BadChange ?xy_BadChange ?xg_BadQuestion ?xx_BadQuestion ?xb_BadQuestion ?xt_BadQuestion ?xd_BadQuestion ?xk_BadQuestion ?xa_BadQuestion ?xh_BadQuestion ?xc_BadQuestion ?xm_BadQuestion ?xy_BadQuestion ?xg_BadDeed ?xx_BadDeed ?xb_BadDeed ?xt_BadDeed ?xd_BadDeed ?xk_BadDeed ?xa_BadDeed ?xh_BadDeed ?xc_BadDeed ?xm_BadDeed ?xy_BadDeed ?xg_BadLive ?xx_BadLive ?xb_BadLive ?xt_BadLive ?xd_BadLive ?xk_BadLive ?xa_BadLive ?xh_BadLive ?xc_BadLive ?xm_BadLive ?xy_BadLive ?xg_BadValue ?xx_BadValue ?xb_BadValue ?xt_BadValue ?xd_BadValue ?xk_BadValue ?xa_BadValue ?xh_BadValue ?xc_BadValue ?xm_BadValue ?xy_BadValue ?xg_BadLog ?xx_BadLog ?xb_BadLog ?xt_BadLog ?xd_BadLog ?xk_BadLog ?xa_BadLog ?xh_BadLog ?xc_BadLog ?xm_BadLog ?xy_BadLog ?xg_BadNumber ?xx_BadNumber ?xb_BadNumber ?xt_BadNumber ?xd_BadNumber ?xk_BadNumber ?xa_BadNumber ?xh_BadNumber ?xc_BadNumber ?xm_BadNumber ?xsa_BadNumber ?xn_BadNumber ?xi_BadNumber ?xf_BadNumber ?xv_BadNumber ?xo_BadNumber ?xw_BadNumber ?xl_BadNumber ?xq_BadNumber ?xcd_BadNumber ?xfl_BadNumber ?xfe_BadNumber ?xcc_BadNumber ?xg_BadGroup ?xx_BadGroup ?xb_BadGroup ?xt_BadGroup ?xd_BadGroup ?xk_BadGroup ?xa_BadGroup ?xh_BadGroup ?xc_BadGroup ?xm_BadGroup ?xsa_BadGroup ?xn_BadGroup ?xi_BadGroup ?xf_BadGroup ?xv_BadGroup ?xo_BadGroup ?xw_BadGroup ?xl_BadGroup ?xq_BadGroup ?xcd_BadGroup ?xfl_BadGroup ?xfe_BadGroup ?xcc_BadGroup ?xg_BadMachine ?xx_BadMachine ?xb_BadMachine ?xt_BadMachine ?xd_BadMachine ?xk_BadMachine ?xa_BadMachine ?xh_BadMachine ?xc_BadMachine ?xm_BadMachine ?xsa_BadMachine ?xn_BadMachine ?xi_BadMachine ?xf_BadMachine ?xv_BadMachine ?xo_BadMachine ?xw_BadMachine ?xl_BadMachine ?xq_BadMachine ?xcd_BadMachine ?xfl_BadMachine ?xfe_BadMachine ?xcc_BadMachine ?xg_BadClaim ?xx_BadClaim ?xb_BadClaim ?xt_BadClaim ?xd_BadClaim ?xk_BadClaim ?xa_BadClaim ?xh_BadClaim ?xc_BadClaim ?xm_BadClaim ?xsa_BadClaim ?xn_BadClaim ?xi_BadClaim ?xf_BadClaim ?xv_BadClaim ?xo_BadClaim ?xw_BadClaim ?xl_BadClaim ?xq_BadClaim ?xcd_BadClaim ?xfl_BadClaim ?xfe_BadClaim ?xcc_BadClaim ?xg_BadSystem ?xx_BadSystem ?xb_BadSystem ?xt_BadSystem ?xd_BadSystem ?xk_BadSystem ?xa_BadSystem ?xh_BadSystem ?xc_BadSystem ?xm_BadSystem ?xsa_BadSystem ?xn_BadSystem ?xi_BadSystem ?xf_BadSystem ?xv_BadSystem ?xo_BadSystem ?xw_BadSystem ?xl_BadSystem ?xq_BadSystem ?xcd_BadSystem ?xfl_BadSystem ?xfe_BadSystem ?xcc_BadSystem ?xg_BadMap ?xx_BadMap ?xb_BadMap ?xt_BadMap ?xd_BadMap ?xk_BadMap ?xa_BadMap ?xh_BadMap ?xc_BadMap ?xm_BadMap ?xsa_BadMap ?xn_BadMap ?xi_BadMap ?xf_BadMap ?xv_BadMap ?xo_BadMap ?xw_BadMap ?xl_BadMap ?xq_BadMap ?xcd_BadMap ?xfl_BadMap ?xfe_BadMap ?xcc_BadMap ?xg_TooMany ?xx_TooMany ?xb_TooMany ?xt_TooMany ?xd_TooMany ?xk_TooMany ?xa_TooMany ?xh_TooMany ?xc_TooMany ?xm_TooMany ?xsa_TooMany ?xn_TooMany ?xi_TooMany ?xf_TooMany ?xv_TooMany ?xo_TooMany ?xw_TooMany ?xl_TooMany ?xq_TooMany ?xcd_TooMany ?xfl_TooMany ?xfe_TooMany ?xcc_TooMany ?xg_BadSteady ?xx_BadSteady ?xb_BadSteady ?xt_BadSteady ?xd_BadSteady ?xk_BadSteady ?xa_BadSteady ?xh_BadSteady ?xc_BadSteady ?xm_BadSteady ?xsa_BadSteady ?xn_BadSteady ?xi_BadSteady ?xf_BadSteady ?xv_BadSteady ?xo_BadSteady ?xw_BadSteady ?xl_BadSteady ?xq_BadSteady ?xcd_BadSteady ?xfl_BadSteady ?xfe_BadSteady ?xcc_BadSteady ?xg_BadJudged ?xx_BadJudged ?xb_BadJudged ?xt_BadJudged ?xd_BadJudged ?xk_BadJudged ?xa_BadJudged ?xh_BadJudged ?xc_BadJudged ?xm_BadJudged ?xsa_BadJudged ?xn_BadJudged ?xi_BadJudged ?xf_BadJudged ?xv_BadJudged ?xo_BadJudged ?xw_BadJudged ?xl_BadJudged ?xq_BadJudged ?xcd_BadJudged ?xfl_BadJudged ?xfe_BadJudged ?xcc_BadJudged ?xg_BadSubgroup ?xx_BadSubgroup ?xb_BadSubgroup ?xt_BadSubgroup ?xd_BadSubgroup ?xk_BadSubgroup ?xa_BadSubgroup ?xh_BadSubgroup ?xc_BadSubgroup ?xm_BadSubgroup ?xsa_BadSubgroup ?xn_BadSubgroup ?xi_BadSubgroup ?xf_BadSubgroup ?xv_BadSubgroup ?xo_BadSubgroup ?xw_BadSubgroup ?xl_BadSubgroup ?xq_BadSubgroup ?xcd_BadSubgroup ?xfl_BadSubgroup ?xfe_BadSubgroup ?xcc_BadSubgroup ?xg_BadLefts ?xx_BadLefts ?xb_BadLefts ?xt_BadLefts ?xd_BadLefts ?xk_BadLefts ?xa_BadLefts ?xh_BadLefts ?xc_BadLefts ?xm_BadLefts ?xsa_BadLefts ?xn_BadLefts ?xi_BadLefts ?xf_BadLefts ?xv_BadLefts ?xo_BadLefts ?xw_BadLefts ?xl_BadLefts ?xq_BadLefts ?xcd_BadLefts ?xfl_BadLefts ?xfe_BadLefts ?xcc_BadLefts ?xg_NotLet ?xx_NotLet ?xb_NotLet ?xt_NotLet ?xd_NotLet ?xk_NotLet ?xa_NotLet ?xh_NotLet ?xc_NotLet ?xm_NotLet ?xsa_NotLet ?xn_NotLet ?xi_NotLet ?xf_NotLet ?xv_NotLet ?xo_NotLet ?xw_NotLet ?xl_NotLet ?xq_NotLet ?xcd_NotLet ?xfl_NotLet ?xfe_NotLet ?xcc_NotLet ?xg_BadBytes ?xx_BadBytes ?xb_BadBytes ?xt_BadBytes ?xd_BadBytes ?xk_BadBytes ?xa_BadBytes ?xh_BadBytes ?xc_BadBytes ?xm_BadBytes ?xsa_BadBytes ?xn_BadBytes ?xi_BadBytes ?xf_BadBytes ?xv_BadBytes ?xo_BadBytes ?xw_BadBytes ?xl_BadBytes ?xq_BadBytes ?xcd_BadBytes ?xfl_BadBytes ?xfe_BadBytes ?xcc_BadBytes ?xg_BadText ?xx_BadText ?xb_BadText ?xt_BadText ?xd_BadText ?xk_BadText ?xa_BadText ?xh_BadText ?xc_BadText ?xm_BadText ?xsa_BadText ?xn_BadText ?xi_BadText ?xf_BadText ?xv_BadText ?xo_BadText ?xw_BadText ?xl_BadText ?xq_BadText ?xcd_BadText ?xfl_BadText ?xfe_BadText ?xcc_BadText ?xg_BadGiant ?xx_BadGiant ?xb_BadGiant ?xt_BadGiant ?xd_BadGiant ?xk_BadGiant ?xa_BadGiant ?xh_BadGiant ?xc_BadGiant ?xm_BadGiant ?xsa_BadGiant ?xn_BadGiant ?xi_BadGiant ?xf_BadGiant ?xv_BadGiant ?xo_BadGiant ?xw_BadGiant ?xl_BadGiant ?xq_BadGiant ?xcd_BadGiant ?xfl_BadGiant ?xfe_BadGiant ?xcc_BadGiant ?gk1 ?gk2 ?nd
    (case a0 => k_is)
    (case l0 => k_is)
    (case c0 => k_is)
    (case k0 => k_is)
    (case a1 => k_is)
    (case l1 => k_is)
    (case c1 => k_is)
    (case k1 => k_is)
    (case a2 => k_is)
    (case l2 => k_is)
    (case c2 => k_is)
    (case k2 => k_is)
    (case a3 => k_is)
    (case l3 => k_is)
    (case c3 => k_is)
    (case k3 => k_is)
    (case a4 => k_is)
    (case l4 => k_is)
    (case c4 => k_is)
    (case k4 => k_is)
    (case a5 => k_is)
    (case l5 => k_is)
    (case c5 => k_is)
    (case k5 => k_is)
    (case a6 => k_is)
    (case l6 => k_is)
    (case c6 => k_is)
    (case k6 => k_is)
    (case a7 => k_is)
    (case l7 => k_is)
    (case c7 => k_is)
    (case k7 => k_is)
    (case a8 => k_is)
    (case l8 => k_is)
    (case c8 => k_is)
    (case k8 => k_is)
    (case z_len => k_is)
    (case z_int => k_is)
    (case z_bool => k_is)
    (case z_str => k_is)
    (case z_list => k_is)
    (case z_tuple => k_is)
    (case z_dict => k_is)
    (case z_isinstance => k_is)
    (case z_all => k_is)
    (case z_any => k_is)
    (case z_abs => k_is)
    (case z_min => k_is)
    (case z_max => k_is)
    (case z_range => k_is)
    (case z_enumerate => k_is)
    (case z_repr => k_is)
    (case z_sorted => k_is)
    (case z_super => k_is)
    (case z_ValueError => k_is)
    (case z_op => k_is)
    (case h_top => first | rfl | decide +kernel)
    (case xg_GroupError => k_is)
    (case xx_GroupError => k_is)
    (case xb_GroupError => k_is)
    (case xt_GroupError => k_is)
    (case xd_GroupError => k_is)
    (case xk_GroupError => k_is)
    (case xa_GroupError => k_is)
    (case xh_GroupError => k_is)
    (case xc_GroupError => k_is)
    (case xm_GroupError => k_is)
    (case xy_GroupError => k_exc)
    (case xg_BadBack => k_is)
    (case xx_BadBack => k_is)
    (case xb_BadBack => k_is)
    (case xt_BadBack => k_is)
    (case xd_BadBack => k_is)
    (case xk_BadBack => k_is)
    (case xa_BadBack => k_is)
    (case xh_BadBack => k_is)
    (case xc_BadBack => k_is)
    (case xm_BadBack => k_is)
    (case xy_BadBack => k_exc)
    (case xg_BadWord => k_is)
    (case xx_BadWord => k_is)
    (case xb_BadWord => k_is)
    (case xt_BadWord => k_is)
    (case xd_BadWord => k_is)
    (case xk_BadWord => k_is)
    (case xa_BadWord => k_is)
    (case xh_BadWord => k_is)
    (case xc_BadWord => k_is)
    (case xm_BadWord => k_is)
    (case xy_BadWord => k_exc)
    (case xg_BadStep => k_is)
    (case xx_BadStep => k_is)
    (case xb_BadStep => k_is)
    (case xt_BadStep => k_is)
    (case xd_BadStep => k_is)
    (case xk_BadStep => k_is)
    (case xa_BadStep => k_is)
    (case xh_BadStep => k_is)
    (case xc_BadStep => k_is)
    (case xm_BadStep => k_is)
    (case xy_BadStep => k_exc)
    (case xg_BadRoad => k_is)
    (case xx_BadRoad => k_is)
    (case xb_BadRoad => k_is)
    (case xt_BadRoad => k_is)
    (case xd_BadRoad => k_is)
    (case xk_BadRoad => k_is)
    (case xa_BadRoad => k_is)
    (case xh_BadRoad => k_is)
    (case xc_BadRoad => k_is)
    (case xm_BadRoad => k_is)
    (case xy_BadRoad => k_exc)
    (case xg_BadFraction => k_is)
    (case xx_BadFraction => k_is)
    (case xb_BadFraction => k_is)
    (case xt_BadFraction => k_is)
    (case xd_BadFraction => k_is)
    (case xk_BadFraction => k_is)
    (case xa_BadFraction => k_is)
    (case xh_BadFraction => k_is)
    (case xc_BadFraction => k_is)
    (case xm_BadFraction => k_is)
    (case xy_BadFraction => k_exc)
    (case xg_NoGroup => k_is)
    (case xx_NoGroup => k_is)
    (case xb_NoGroup => k_is)
    (case xt_NoGroup => k_is)
    (case xd_NoGroup => k_is)
    (case xk_NoGroup => k_is)
    (case xa_NoGroup => k_is)
    (case xh_NoGroup => k_is)
    (case xc_NoGroup => k_is)
    (case xm_NoGroup => k_is)
    (case xy_NoGroup => k_exc)
    (case xg_BadPaper => k_is)
    (case xx_BadPaper => k_is)
    (case xb_BadPaper => k_is)
    (case xt_BadPaper => k_is)
    (case xd_BadPaper => k_is)
    (case xk_BadPaper => k_is)
    (case xa_BadPaper => k_is)
    (case xh_BadPaper => k_is)
    (case xc_BadPaper => k_is)
    (case xm_BadPaper => k_is)
    (case xy_BadPaper => k_exc)
    (case xg_BadSpelling => k_is)
    (case xx_BadSpelling => k_is)
    (case xb_BadSpelling => k_is)
    (case xt_BadSpelling => k_is)
    (case xd_BadSpelling => k_is)
    (case xk_BadSpelling => k_is)
    (case xa_BadSpelling => k_is)
    (case xh_BadSpelling => k_is)
    (case xc_BadSpelling => k_is)
    (case xm_BadSpelling => k_is)
    (case xy_BadSpelling => k_exc)
    (case xg_NotShort => k_is)
    (case xx_NotShort => k_is)
    (case xb_NotShort => k_is)
    (case xt_NotShort => k_is)
    (case xd_NotShort => k_is)
    (case xk_NotShort => k_is)
    (case xa_NotShort => k_is)
    (case xh_NotShort => k_is)
    (case xc_NotShort => k_is)
    (case xm_NotShort => k_is)
    (case xy_NotShort => k_exc)
    (case xg_Endless => k_is)
    (case xx_Endless => k_is)
    (case xb_Endless => k_is)
    (case xt_Endless => k_is)
    (case xd_Endless => k_is)
    (case xk_Endless => k_is)
    (case xa_Endless => k_is)
    (case xh_Endless => k_is)
    (case xc_Endless => k_is)
    (case xm_Endless => k_is)
    (case xy_Endless => k_exc)
    (case xg_BadChange => k_is)
    (case xx_BadChange => k_is)
    (case xb_BadChange => k_is)
    (case xt_BadChange => k_is)
    (case xd_BadChange => k_is)
    (case xk_BadChange => k_is)
    (case xa_BadChange => k_is)
    (case xh_BadChange => k_is)
    (case xc_BadChange => k_is)
    (case xm_BadChange => k_is)
    (case xy_BadChange => k_exc)
    (case xg_BadQuestion => k_is)
    (case xx_BadQuestion => k_is)
    (case xb_BadQuestion => k_is)
    (case xt_BadQuestion => k_is)
    (case xd_BadQuestion => k_is)
    (case xk_BadQuestion => k_is)
    (case xa_BadQuestion => k_is)
    (case xh_BadQuestion => k_is)
    (case xc_BadQuestion => k_is)
    (case xm_BadQuestion => k_is)
    (case xy_BadQuestion => k_exc)
    (case xg_BadDeed => k_is)
    (case xx_BadDeed => k_is)
    (case xb_BadDeed => k_is)
    (case xt_BadDeed => k_is)
    (case xd_BadDeed => k_is)
    (case xk_BadDeed => k_is)
    (case xa_BadDeed => k_is)
    (case xh_BadDeed => k_is)
    (case xc_BadDeed => k_is)
    (case xm_BadDeed => k_is)
    (case xy_BadDeed => k_exc)
    (case xg_BadLive => k_is)
    (case xx_BadLive => k_is)
    (case xb_BadLive => k_is)
    (case xt_BadLive => k_is)
    (case xd_BadLive => k_is)
    (case xk_BadLive => k_is)
    (case xa_BadLive => k_is)
    (case xh_BadLive => k_is)
    (case xc_BadLive => k_is)
    (case xm_BadLive => k_is)
    (case xy_BadLive => k_exc)
    (case xg_BadValue => k_is)
    (case xx_BadValue => k_is)
    (case xb_BadValue => k_is)
    (case xt_BadValue => k_is)
    (case xd_BadValue => k_is)
    (case xk_BadValue => k_is)
    (case xa_BadValue => k_is)
    (case xh_BadValue => k_is)
    (case xc_BadValue => k_is)
    (case xm_BadValue => k_is)
    (case xy_BadValue => k_exc)
    (case xg_BadLog => k_is)
    (case xx_BadLog => k_is)
    (case xb_BadLog => k_is)
    (case xt_BadLog => k_is)
    (case xd_BadLog => k_is)
    (case xk_BadLog => k_is)
    (case xa_BadLog => k_is)
    (case xh_BadLog => k_is)
    (case xc_BadLog => k_is)
    (case xm_BadLog => k_is)
    (case xy_BadLog => k_exc)
    (case xg_BadNumber => k_is)
    (case xx_BadNumber => k_is)
    (case xb_BadNumber => k_is)
    (case xt_BadNumber => k_is)
    (case xd_BadNumber => k_is)
    (case xk_BadNumber => k_is)
    (case xa_BadNumber => k_is)
    (case xh_BadNumber => k_is)
    (case xc_BadNumber => k_is)
    (case xm_BadNumber => k_is)
    (case xsa_BadNumber => k_is)
    (case xn_BadNumber => k_is)
    (case xi_BadNumber => k_is)
    (case xf_BadNumber => k_is)
    (case xv_BadNumber => k_is)
    (case xo_BadNumber => k_is)
    (case xw_BadNumber => ks_is)
    (case xl_BadNumber => k_is)
    (case xq_BadNumber => k_is)
    (case xcd_BadNumber => k_is)
    (case xfl_BadNumber => first | rfl | k_is)
    (case xfe_BadNumber => first | rfl | decide +kernel)
    (case xcc_BadNumber => k_is)
    (case xg_BadGroup => k_is)
    (case xx_BadGroup => k_is)
    (case xb_BadGroup => k_is)
    (case xt_BadGroup => k_is)
    (case xd_BadGroup => k_is)
    (case xk_BadGroup => k_is)
    (case xa_BadGroup => k_is)
    (case xh_BadGroup => k_is)
    (case xc_BadGroup => k_is)
    (case xm_BadGroup => k_is)
    (case xsa_BadGroup => k_is)
    (case xn_BadGroup => k_is)
    (case xi_BadGroup => k_is)
    (case xf_BadGroup => k_is)
    (case xv_BadGroup => k_is)
    (case xo_BadGroup => k_is)
    (case xw_BadGroup => ks_is)
    (case xl_BadGroup => k_is)
    (case xq_BadGroup => k_is)
    (case xcd_BadGroup => k_is)
    (case xfl_BadGroup => first | rfl | k_is)
    (case xfe_BadGroup => first | rfl | decide +kernel)
    (case xcc_BadGroup => k_is)
    (case xg_BadMachine => k_is)
    (case xx_BadMachine => k_is)
    (case xb_BadMachine => k_is)
    (case xt_BadMachine => k_is)
    (case xd_BadMachine => k_is)
    (case xk_BadMachine => k_is)
    (case xa_BadMachine => k_is)
    (case xh_BadMachine => k_is)
    (case xc_BadMachine => k_is)
    (case xm_BadMachine => k_is)
    (case xsa_BadMachine => k_is)
    (case xn_BadMachine => k_is)
    (case xi_BadMachine => k_is)
    (case xf_BadMachine => k_is)
    (case xv_BadMachine => k_is)
    (case xo_BadMachine => k_is)
    (case xw_BadMachine => ks_is)
    (case xl_BadMachine => k_is)
    (case xq_BadMachine => k_is)
    (case xcd_BadMachine => k_is)
    (case xfl_BadMachine => first | rfl | k_is)
    (case xfe_BadMachine => first | rfl | decide +kernel)
    (case xcc_BadMachine => k_is)
    (case xg_BadClaim => k_is)
    (case xx_BadClaim => k_is)
    (case xb_BadClaim => k_is)
    (case xt_BadClaim => k_is)
    (case xd_BadClaim => k_is)
    (case xk_BadClaim => k_is)
    (case xa_BadClaim => k_is)
    (case xh_BadClaim => k_is)
    (case xc_BadClaim => k_is)
    (case xm_BadClaim => k_is)
    (case xsa_BadClaim => k_is)
    (case xn_BadClaim => k_is)
    (case xi_BadClaim => k_is)
    (case xf_BadClaim => k_is)
    (case xv_BadClaim => k_is)
    (case xo_BadClaim => k_is)
    (case xw_BadClaim => ks_is)
    (case xl_BadClaim => k_is)
    (case xq_BadClaim => k_is)
    (case xcd_BadClaim => k_is)
    (case xfl_BadClaim => first | rfl | k_is)
    (case xfe_BadClaim => first | rfl | decide +kernel)
    (case xcc_BadClaim => k_is)
    (case xg_BadSystem => k_is)
    (case xx_BadSystem => k_is)
    (case xb_BadSystem => k_is)
    (case xt_BadSystem => k_is)
    (case xd_BadSystem => k_is)
    (case xk_BadSystem => k_is)
    (case xa_BadSystem => k_is)
    (case xh_BadSystem => k_is)
    (case xc_BadSystem => k_is)
    (case xm_BadSystem => k_is)
    (case xsa_BadSystem => k_is)
    (case xn_BadSystem => k_is)
    (case xi_BadSystem => k_is)
    (case xf_BadSystem => k_is)
    (case xv_BadSystem => k_is)
    (case xo_BadSystem => k_is)
    (case xw_BadSystem => ks_is)
    (case xl_BadSystem => k_is)
    (case xq_BadSystem => k_is)
    (case xcd_BadSystem => k_is)
    (case xfl_BadSystem => first | rfl | k_is)
    (case xfe_BadSystem => first | rfl | decide +kernel)
    (case xcc_BadSystem => k_is)
    (case xg_BadMap => k_is)
    (case xx_BadMap => k_is)
    (case xb_BadMap => k_is)
    (case xt_BadMap => k_is)
    (case xd_BadMap => k_is)
    (case xk_BadMap => k_is)
    (case xa_BadMap => k_is)
    (case xh_BadMap => k_is)
    (case xc_BadMap => k_is)
    (case xm_BadMap => k_is)
    (case xsa_BadMap => k_is)
    (case xn_BadMap => k_is)
    (case xi_BadMap => k_is)
    (case xf_BadMap => k_is)
    (case xv_BadMap => k_is)
    (case xo_BadMap => k_is)
    (case xw_BadMap => ks_is)
    (case xl_BadMap => k_is)
    (case xq_BadMap => k_is)
    (case xcd_BadMap => k_is)
    (case xfl_BadMap => first | rfl | k_is)
    (case xfe_BadMap => first | rfl | decide +kernel)
    (case xcc_BadMap => k_is)
    (case xg_TooMany => k_is)
    (case xx_TooMany => k_is)
    (case xb_TooMany => k_is)
    (case xt_TooMany => k_is)
    (case xd_TooMany => k_is)
    (case xk_TooMany => k_is)
    (case xa_TooMany => k_is)
    (case xh_TooMany => k_is)
    (case xc_TooMany => k_is)
    (case xm_TooMany => k_is)
    (case xsa_TooMany => k_is)
    (case xn_TooMany => k_is)
    (case xi_TooMany => k_is)
    (case xf_TooMany => k_is)
    (case xv_TooMany => k_is)
    (case xo_TooMany => k_is)
    (case xw_TooMany => ks_is)
    (case xl_TooMany => k_is)
    (case xq_TooMany => k_is)
    (case xcd_TooMany => k_is)
    (case xfl_TooMany => first | rfl | k_is)
    (case xfe_TooMany => first | rfl | decide +kernel)
    (case xcc_TooMany => k_is)
    (case xg_BadSteady => k_is)
    (case xx_BadSteady => k_is)
    (case xb_BadSteady => k_is)
    (case xt_BadSteady => k_is)
    (case xd_BadSteady => k_is)
    (case xk_BadSteady => k_is)
    (case xa_BadSteady => k_is)
    (case xh_BadSteady => k_is)
    (case xc_BadSteady => k_is)
    (case xm_BadSteady => k_is)
    (case xsa_BadSteady => k_is)
    (case xn_BadSteady => k_is)
    (case xi_BadSteady => k_is)
    (case xf_BadSteady => k_is)
    (case xv_BadSteady => k_is)
    (case xo_BadSteady => k_is)
    (case xw_BadSteady => ks_is)
    (case xl_BadSteady => k_is)
    (case xq_BadSteady => k_is)
    (case xcd_BadSteady => k_is)
    (case xfl_BadSteady => first | rfl | k_is)
    (case xfe_BadSteady => first | rfl | decide +kernel)
    (case xcc_BadSteady => k_is)
    (case xg_BadJudged => k_is)
    (case xx_BadJudged => k_is)
    (case xb_BadJudged => k_is)
    (case xt_BadJudged => k_is)
    (case xd_BadJudged => k_is)
    (case xk_BadJudged => k_is)
    (case xa_BadJudged => k_is)
    (case xh_BadJudged => k_is)
    (case xc_BadJudged => k_is)
    (case xm_BadJudged => k_is)
    (case xsa_BadJudged => k_is)
    (case xn_BadJudged => k_is)
    (case xi_BadJudged => k_is)
    (case xf_BadJudged => k_is)
    (case xv_BadJudged => k_is)
    (case xo_BadJudged => k_is)
    (case xw_BadJudged => ks_is)
    (case xl_BadJudged => k_is)
    (case xq_BadJudged => k_is)
    (case xcd_BadJudged => k_is)
    (case xfl_BadJudged => first | rfl | k_is)
    (case xfe_BadJudged => first | rfl | decide +kernel)
    (case xcc_BadJudged => k_is)
    (case xg_BadSubgroup => k_is)
    (case xx_BadSubgroup => k_is)
    (case xb_BadSubgroup => k_is)
    (case xt_BadSubgroup => k_is)
    (case xd_BadSubgroup => k_is)
    (case xk_BadSubgroup => k_is)
    (case xa_BadSubgroup => k_is)
    (case xh_BadSubgroup => k_is)
    (case xc_BadSubgroup => k_is)
    (case xm_BadSubgroup => k_is)
    (case xsa_BadSubgroup => k_is)
    (case xn_BadSubgroup => k_is)
    (case xi_BadSubgroup => k_is)
    (case xf_BadSubgroup => k_is)
    (case xv_BadSubgroup => k_is)
    (case xo_BadSubgroup => k_is)
    (case xw_BadSubgroup => ks_is)
    (case xl_BadSubgroup => k_is)
    (case xq_BadSubgroup => k_is)
    (case xcd_BadSubgroup => k_is)
    (case xfl_BadSubgroup => first | rfl | k_is)
    (case xfe_BadSubgroup => first | rfl | decide +kernel)
    (case xcc_BadSubgroup => k_is)
    (case xg_BadLefts => k_is)
    (case xx_BadLefts => k_is)
    (case xb_BadLefts => k_is)
    (case xt_BadLefts => k_is)
    (case xd_BadLefts => k_is)
    (case xk_BadLefts => k_is)
    (case xa_BadLefts => k_is)
    (case xh_BadLefts => k_is)
    (case xc_BadLefts => k_is)
    (case xm_BadLefts => k_is)
    (case xsa_BadLefts => k_is)
    (case xn_BadLefts => k_is)
    (case xi_BadLefts => k_is)
    (case xf_BadLefts => k_is)
    (case xv_BadLefts => k_is)
    (case xo_BadLefts => k_is)
    (case xw_BadLefts => ks_is)
    (case xl_BadLefts => k_is)
    (case xq_BadLefts => k_is)
    (case xcd_BadLefts => k_is)
    (case xfl_BadLefts => first | rfl | k_is)
    (case xfe_BadLefts => first | rfl | decide +kernel)
    (case xcc_BadLefts => k_is)
    (case xg_NotLet => k_is)
    (case xx_NotLet => k_is)
    (case xb_NotLet => k_is)
    (case xt_NotLet => k_is)
    (case xd_NotLet => k_is)
    (case xk_NotLet => k_is)
    (case xa_NotLet => k_is)
    (case xh_NotLet => k_is)
    (case xc_NotLet => k_is)
    (case xm_NotLet => k_is)
    (case xsa_NotLet => k_is)
    (case xn_NotLet => k_is)
    (case xi_NotLet => k_is)
    (case xf_NotLet => k_is)
    (case xv_NotLet => k_is)
    (case xo_NotLet => k_is)
    (case xw_NotLet => ks_is)
    (case xl_NotLet => k_is)
    (case xq_NotLet => k_is)
    (case xcd_NotLet => k_is)
    (case xfl_NotLet => first | rfl | k_is)
    (case xfe_NotLet => first | rfl | decide +kernel)
    (case xcc_NotLet => k_is)
    (case xg_BadBytes => k_is)
    (case xx_BadBytes => k_is)
    (case xb_BadBytes => k_is)
    (case xt_BadBytes => k_is)
    (case xd_BadBytes => k_is)
    (case xk_BadBytes => k_is)
    (case xa_BadBytes => k_is)
    (case xh_BadBytes => k_is)
    (case xc_BadBytes => k_is)
    (case xm_BadBytes => k_is)
    (case xsa_BadBytes => k_is)
    (case xn_BadBytes => k_is)
    (case xi_BadBytes => k_is)
    (case xf_BadBytes => k_is)
    (case xv_BadBytes => k_is)
    (case xo_BadBytes => k_is)
    (case xw_BadBytes => ks_is)
    (case xl_BadBytes => k_is)
    (case xq_BadBytes => k_is)
    (case xcd_BadBytes => k_is)
    (case xfl_BadBytes => first | rfl | k_is)
    (case xfe_BadBytes => first | rfl | decide +kernel)
    (case xcc_BadBytes => k_is)
    (case xg_BadText => k_is)
    (case xx_BadText => k_is)
    (case xb_BadText => k_is)
    (case xt_BadText => k_is)
    (case xd_BadText => k_is)
    (case xk_BadText => k_is)
    (case xa_BadText => k_is)
    (case xh_BadText => k_is)
    (case xc_BadText => k_is)
    (case xm_BadText => k_is)
    (case xsa_BadText => k_is)
    (case xn_BadText => k_is)
    (case xi_BadText => k_is)
    (case xf_BadText => k_is)
    (case xv_BadText => k_is)
    (case xo_BadText => k_is)
    (case xw_BadText => ks_is)
    (case xl_BadText => k_is)
    (case xq_BadText => k_is)
    (case xcd_BadText => k_is)
    (case xfl_BadText => first | rfl | k_is)
    (case xfe_BadText => first | rfl | decide +kernel)
    (case xcc_BadText => k_is)
    (case xg_BadGiant => k_is)
    (case xx_BadGiant => k_is)
    (case xb_BadGiant => k_is)
    (case xt_BadGiant => k_is)
    (case xd_BadGiant => k_is)
    (case xk_BadGiant => k_is)
    (case xa_BadGiant => k_is)
    (case xh_BadGiant => k_is)
    (case xc_BadGiant => k_is)
    (case xm_BadGiant => k_is)
    (case xsa_BadGiant => k_is)
    (case xn_BadGiant => k_is)
    (case xi_BadGiant => k_is)
    (case xf_BadGiant => k_is)
    (case xv_BadGiant => k_is)
    (case xo_BadGiant => k_is)
    (case xw_BadGiant => ks_is)
    (case xl_BadGiant => k_is)
    (case xq_BadGiant => k_is)
    (case xcd_BadGiant => k_is)
    (case xfl_BadGiant => first | rfl | k_is)
    (case xfe_BadGiant => first | rfl | decide +kernel)
    (case xcc_BadGiant => k_is)
    (case gk1 => k_is)
    (case gk2 => k_is)
    (case nd => first | decide | decide +kernel)
