import PyProof.Rows.All
import Wide.All
import OpenK.AllK
import Wide.FinOn
import PySem.Challenge.RW_gatewords_k02_whole_free_words
import HandS.ForMost
import HandS.TupAny
import HandS.IsInst
import HandS.Conv
import PyProof.ReprReads
import HandS.Walk
import KE.GoesMore
import PyProof.EnumMake
import HandS.Style
import KE.KRevSl
import HandS.Lambda
import PyProof.ReprBulk
import PyProof.ReprRoads
import HandS.SortKw
import HandS.ExcOwn
import KE.DataMinKey
import KE.SortData
set_option Elab.async false
set_option linter.all false
set_option maxRecDepth 100000
set_option maxHeartbeats 4000000
namespace Gw
open PySem PySem.Spec PyProof.Rows L2

/-! ### views: G is the part of the heap that never changes -/
structure Nx (G H G' H' : Hp) : Prop where
  gg : Same G G'
  gh : Same G' H'
  hh : Same H H'
  fr : ∀ a, H a ≠ none → G' a = G a
theorem ne_none {H : Hp} {a : Addr} {o : HO} (h : H a = some o) : H a ≠ none := by rw [h]; exact fun z => nomatch z
theorem same_none {H H' : Hp} (e : Same H H') {a : Addr} (h : H a ≠ none) : H' a ≠ none := by
  cases q : H a with
  | none => exact absurd q h
  | some o => exact ne_none (e a o q)
theorem Nx.refl {G H : Hp} (h : Same G H) : Nx G H G H := ⟨Same.refl G, h, Same.refl H, fun _ _ => rfl⟩
theorem Nx.trans {G H G1 H1 G2 H2 : Hp} (a : Nx G H G1 H1) (b : Nx G1 H1 G2 H2) : Nx G H G2 H2 :=
  ⟨a.gg.trans b.gg, b.gh, a.hh.trans b.hh, fun x h => (b.fr x (same_none a.hh h)).trans (a.fr x h)⟩
theorem Nx.new {G H : Hp} {p : Addr} {o : HO} (h : Same G H) (hp : H p = none) : Nx G H (upd G p o) (upd H p o) := by
  have gp : G p = none := h.free hp
  refine ⟨fun b u e => ?_, fun b u e => ?_, fun b u e => ?_, fun b hb => ?_⟩
  · rw [upd_ne (ne_of_none e gp)]; exact e
  · by_cases hb : b = p
    · subst hb; rw [upd_same] at e ⊢; exact e
    · rw [upd_ne hb] at e ⊢; exact h b u e
  · rw [upd_ne (ne_of_none e hp)]; exact e
  · by_cases hq : b = p
    · subst hq; exact absurd hp hb
    · rw [upd_ne hq]
/-- a new object that is not told to the view -/
theorem Nx.lay {G H : Hp} {p : Addr} {o : HO} (h : Same G H) (hp : H p = none) : Nx G H G (upd H p o) :=
  ⟨Same.refl G, fun b u e => by rw [upd_ne (ne_of_none (h b u e) hp)]; exact h b u e, fun b u e => by rw [upd_ne (ne_of_none e hp)]; exact e, fun _ _ => rfl⟩
theorem same_tup {K : PySem.W.Frag} {H H' : Hp} {a : Addr} {xs : List V} (e : Same H H') (h : SqT K H a xs) : SqT K H' a xs := by
  rcases h with (h | ⟨o, h⟩) | h
  · exact .inl (.inl (e _ _ h))
  · exact .inl (.inr ⟨o, e _ _ h⟩)
  · exact .inr h

/-! ### data in a view -/
mutual
theorem dp_mono {K : PySem.W.Frag} {H H' : Hp} (e : Same H H') : ∀ (d : PyData) {v : V}, Dp K H v d → Dp K H' v d
  | .none, _, .non => .non
  | .bool b, _, .bl _ => .bl b
  | .int i, _, .int _ => .int i
  | .str x, _, .str _ => .str x
  | .list ds, _, .lst hs ha => .lst (e.seq hs) (dpa_mono e ds ha)
  | .tuple ds, _, .tup hs ha => .tup (same_tup e hs) (dpa_mono e ds ha)
theorem dpa_mono {K : PySem.W.Frag} {H H' : Hp} (e : Same H H') : ∀ (ds : List PyData) {vs : List V}, DpAll K H vs ds → DpAll K H' vs ds
  | [], _, .nil => .nil
  | d :: ds, _, .cons h t => .cons (dp_mono e d h) (dpa_mono e ds t)
end
theorem dpa_length {K : PySem.W.Frag} {H : Hp} : ∀ {vs : List V} {ds : List PyData}, DpAll K H vs ds → vs.length = ds.length
  | _, _, .nil => rfl
  | _, _, .cons _ t => by rw [List.length_cons, List.length_cons, dpa_length t]
theorem dpa_get {K : PySem.W.Frag} {H : Hp} : ∀ {vs : List V} {ds : List PyData} {i : Nat} {v : V}, DpAll K H vs ds → vs[i]? = some v → ∃ d, ds[i]? = some d ∧ Dp K H v d
  | _, _, _, _, .nil, e => by simp at e
  | _, _, 0, _, .cons r _, e => by simp at e; subst e; exact ⟨_, rfl, r⟩
  | _, _, i + 1, _, .cons _ t, e => by
    obtain ⟨u, h1, h2⟩ := dpa_get (i := i) t (by simpa using e)
    exact ⟨u, by simpa using h1, h2⟩
theorem dpa_at {K : PySem.W.Frag} {H : Hp} : ∀ {vs : List V} {ds : List PyData} {i : Nat} {d : PyData}, DpAll K H vs ds → ds[i]? = some d → ∃ v, vs[i]? = some v ∧ Dp K H v d
  | _, _, _, _, .nil, e => by simp at e
  | _, _, 0, _, .cons r _, e => by simp at e; subst e; exact ⟨_, rfl, r⟩
  | _, _, i + 1, _, .cons _ t, e => by
    obtain ⟨u, h1, h2⟩ := dpa_at (i := i) t (by simpa using e)
    exact ⟨u, by simpa using h1, h2⟩
theorem dpa_append {K : PySem.W.Frag} {H : Hp} : ∀ {vs ws : List V} {ds es : List PyData}, DpAll K H vs ds → DpAll K H ws es → DpAll K H (vs ++ ws) (ds ++ es)
  | _, _, _, _, .nil, h => h
  | _, _, _, _, .cons r t, h => .cons r (dpa_append t h)
theorem dpa_take {K : PySem.W.Frag} {H : Hp} : ∀ {vs : List V} {ds : List PyData} (n : Nat), DpAll K H vs ds → DpAll K H (vs.take n) (ds.take n)
  | _, _, 0, _ => .nil
  | _, _, _ + 1, .nil => .nil
  | _, _, n + 1, .cons r t => .cons r (dpa_take n t)
theorem dpa_drop {K : PySem.W.Frag} {H : Hp} : ∀ {vs : List V} {ds : List PyData} (n : Nat), DpAll K H vs ds → DpAll K H (vs.drop n) (ds.drop n)
  | _, _, 0, r => r
  | _, _, _ + 1, .nil => .nil
  | _, _, n + 1, .cons _ t => dpa_drop n t
theorem dpa_reverse {K : PySem.W.Frag} {H : Hp} : ∀ {vs : List V} {ds : List PyData}, DpAll K H vs ds → DpAll K H vs.reverse ds.reverse
  | _, _, .nil => .nil
  | _, _, .cons r t => by rw [List.reverse_cons, List.reverse_cons]; exact dpa_append (dpa_reverse t) (.cons r .nil)
theorem dpa_ints {K : PySem.W.Frag} {H : Hp} : ∀ ns : List Int, DpAll K H (ns.map V.int) (ns.map PyData.int)
  | [] => .nil
  | n :: ns => .cons (.int n) (dpa_ints ns)
theorem dp_int {K : PySem.W.Frag} {H : Hp} {v : V} {i : Int} (h : Dp K H v (.int i)) : v = .int i := by cases h; rfl
theorem dp_bl {K : PySem.W.Frag} {H : Hp} {v : V} {i : Bool} (h : Dp K H v (.bool i)) : v = .bl i := by cases h; rfl
theorem dp_non {K : PySem.W.Frag} {H : Hp} {v : V} (h : Dp K H v .none) : v = .non := by cases h; rfl
theorem dp_str {K : PySem.W.Frag} {H : Hp} {v : V} {i : Str} (h : Dp K H v (.str i)) : v = .str i := by cases h; rfl
theorem dpa_ints_inv {K : PySem.W.Frag} {H : Hp} : ∀ {vs : List V} {ns : List Int}, DpAll K H vs (ns.map PyData.int) → vs = ns.map V.int
  | [], [], _ => rfl
  | [], _ :: _, h => nomatch h
  | _ :: _, [], h => nomatch h
  | v :: vs, n :: ns, .cons h t => by rw [dp_int h, dpa_ints_inv t]; rfl
theorem dp_ints_l {K : PySem.W.Frag} {H : Hp} {v : V} {ns : List Int} (h : Dp K H v (.list (ns.map .int))) : ∃ a, v = .ref a ∧ SqL K H a (ns.map V.int) := by
  cases h with
  | lst hs ha => rw [dpa_ints_inv ha] at hs; exact ⟨_, rfl, hs⟩
theorem dp_ints_t {K : PySem.W.Frag} {H : Hp} {v : V} {ns : List Int} (h : Dp K H v (.tuple (ns.map .int))) : ∃ a, v = .ref a ∧ SqT K H a (ns.map V.int) := by
  cases h with
  | tup hs ha => rw [dpa_ints_inv ha] at hs; exact ⟨_, rfl, hs⟩

/-! ### what an expression evaluates to, whatever else stands in the heap -/
def EvD (K : PySem.W.Frag) (te : TE) (σ : L2.St) (G : Hp) (d : PyData) : Prop := ∀ H, Same G H → ∀ Q : VK, (∀ v G' H', Nx G H G' H' → Dp K G' v d → Q v H') → te σ H Q
def EvA (K : PySem.W.Frag) (ta : TA) (σ : L2.St) (G : Hp) (ds : List PyData) : Prop := ∀ H, Same G H → ∀ Q : List V → Hp → Prop, (∀ vs G' H', Nx G H G' H' → DpAll K G' vs ds → Q vs H') → ta σ H Q
def EvB (K : PySem.W.Frag) (tt : TT) (σ : L2.St) (G : Hp) (b : Bool) : Prop := ∀ H, Same G H → ∀ Q : Bool → Hp → Prop, (∀ G' H', Nx G H G' H' → Q b H') → tt σ H Q
def RtD (K : PySem.W.Frag) (ts : TS) (σ : L2.St) (G : Hp) (d : PyData) : Prop := ∀ H, Same G H → ∀ D : Ends, (∀ v G' H', Nx G H G' H' → Dp K G' v d → D.rt v H') → ts D σ H
/-- a greater view over the same heap -/
theorem Nx.over {G G1 H G' H' : Hp} (g : Same G G1) (h : Same G1 H) (n : Nx G H G' H') : ∃ G2, Nx G1 H G2 H' ∧ Same G' G2 := by
  refine ⟨fun a => match H a with | none => G' a | some _ => G1 a, ⟨fun a o e => ?_, fun a o e => ?_, n.hh, fun a e => ?_⟩, fun a o e => ?_⟩
  · have : H a = some o := h a o e
    simp only [this]; exact e
  · cases q : H a with
    | none => simp only [q] at e; exact n.gh a o e
    | some u =>
      simp only [q] at e
      exact n.hh a o (h a o e)
  · cases q : H a with
    | none => exact absurd q e
    | some u => rfl
  · cases q : H a with
    | none => simp only [q]; exact e
    | some u =>
      simp only [q]
      rw [n.fr a (ne_none q)] at e
      exact g a o e
section
variable {K : PySem.W.Frag} {σ : L2.St} {G G1 : Hp} {te ta tb : TE} {tt tu : TT} {tA tR : TA} {d e x y z : PyData} {ds es : List PyData} {t u : TS}
theorem EvD.mono (h : EvD K te σ G d) (g : Same G G1) : EvD K te σ G1 d := fun H s Q q => h H (g.trans s) Q fun v G' H' n hd => by
  obtain ⟨G2, n2, s2⟩ := n.over g s
  exact q v G2 H' n2 (dp_mono s2 d hd)
theorem EvA.mono (h : EvA K tA σ G ds) (g : Same G G1) : EvA K tA σ G1 ds := fun H s Q q => h H (g.trans s) Q fun v G' H' n hd => by
  obtain ⟨G2, n2, s2⟩ := n.over g s
  exact q v G2 H' n2 (dpa_mono s2 ds hd)
theorem EvB.mono {b : Bool} (h : EvB K tt σ G b) (g : Same G G1) : EvB K tt σ G1 b := fun H s Q q => h H (g.trans s) Q fun G' H' n => by
  obtain ⟨G2, n2, s2⟩ := n.over g s
  exact q G2 H' n2
theorem RtD.mono (h : RtD K t σ G d) (g : Same G G1) : RtD K t σ G1 d := fun H s D q => h H (g.trans s) D fun v G' H' n hd => by
  obtain ⟨G2, n2, s2⟩ := n.over g s
  exact q v G2 H' n2 (dp_mono s2 d hd)
theorem EvD.cast (h : EvD K te σ G d) (e : d = z) : EvD K te σ G z := e ▸ h
theorem EvB.cast {b c : Bool} (h : EvB K tt σ G b) (e : b = c) : EvB K tt σ G c := e ▸ h
theorem RtD.cast (h : RtD K t σ G d) (e : d = z) : RtD K t σ G z := e ▸ h

theorem ed_var {i : Nat} {v : V} (h : σ[i]? = some (some v)) (hd : Dp K G v d) : EvD K (tVar i) σ G d := fun H s _ q => ⟨v, h, q v G H (Nx.refl s) hd⟩
theorem ed_c {v : V} (hd : Dp K G v d) : EvD K (tC v) σ G d := fun H s _ q => q v G H (Nx.refl s) hd
theorem ed_int {i : Int} : EvD K (tC (.int i)) σ G (.int i) := ed_c (.int i)
theorem ed_bl {i : Bool} : EvD K (tC (.bl i)) σ G (.bool i) := ed_c (.bl i)
theorem ed_str {i : Str} : EvD K (tC (.str i)) σ G (.str i) := ed_c (.str i)
theorem ed_non : EvD K (tC .non) σ G .none := ed_c .non

/-- an operation on two data -/
def ROp (K : PySem.W.Frag) (r : R2) (x y z : PyData) : Prop := ∀ G H, Same G H → ∀ vx vy, Dp K G vx x → Dp K G vy y → ∀ Q : VK, (∀ v G' H', Nx G H G' H' → Dp K G' v z → Q v H') → r vx vy H Q
theorem ed_op {r : R2} (ha : EvD K ta σ G x) (hb : EvD K tb σ G y) (hr : ROp K r x y z) : EvD K (tOp r ta tb) σ G z := fun H s Q q =>
  ha H s _ fun vx G1 H1 n1 hx => (hb.mono n1.gg) H1 n1.gh _ fun vy G2 H2 n2 hy => hr G2 H2 n2.gh vx vy (dp_mono n2.gg x hx) hy Q fun v G3 H3 n3 hd => q v G3 H3 ((n1.trans n2).trans n3) hd
theorem ro_I0 {g : Int → Int → V} {i j : Int} (hz : ∀ G, Dp K G (g i j) z) : ROp K (rI0 g) (.int i) (.int j) z := fun G H s vx vy hx hy Q q => by
  rw [dp_int hx, dp_int hy]
  exact ⟨i, j, rfl, rfl, q _ G H (Nx.refl s) (hz G)⟩
theorem ro_I {C : Int → Int → Prop} {g : Int → Int → V} {i j : Int} (hc : C i j) (hz : ∀ G, Dp K G (g i j) z) : ROp K (rI C g) (.int i) (.int j) z := fun G H s vx vy hx hy Q q => by
  rw [dp_int hx, dp_int hy]
  exact ⟨i, j, rfl, rfl, hc, q _ G H (Nx.refl s) (hz G)⟩
theorem ro_i {f : Int → Int → Int} {i j : Int} : ROp K (rI0 fun i j => .int (f i j)) (.int i) (.int j) (.int (f i j)) := ro_I0 fun _ => .int _
theorem ro_b {f : Int → Int → Bool} {i j : Int} : ROp K (rI0 fun i j => .bl (f i j)) (.int i) (.int j) (.bool (f i j)) := ro_I0 fun _ => .bl _
theorem ro_ic {C : Int → Int → Prop} {f : Int → Int → Int} {i j : Int} (hc : C i j) : ROp K (rI C fun i j => .int (f i j)) (.int i) (.int j) (.int (f i j)) := ro_I hc fun _ => .int _
theorem ro_eqI {i j : Int} : ROp K rEq (.int i) (.int j) (.bool (decide (i = j))) := fun G H s vx vy hx hy Q q => by
  rw [dp_int hx, dp_int hy]
  refine ⟨rfl, ?_⟩
  have e : decide (V.int i = V.int j) = decide (i = j) := by simp
  rw [e]
  exact q _ G H (Nx.refl s) (.bl _)
theorem ro_neI {i j : Int} : ROp K rNe (.int i) (.int j) (.bool (!decide (i = j))) := fun G H s vx vy hx hy Q q => by
  rw [dp_int hx, dp_int hy]
  refine ⟨rfl, ?_⟩
  have e : decide (V.int i = V.int j) = decide (i = j) := by simp
  rw [e]
  exact q _ G H (Nx.refl s) (.bl _)
theorem ro_eqD (hx : SeqAt.shaped x = true) (hy : SeqAt.shaped y = true) : ROp K (rEqD K) x y (.bool (PyData.eqv x y)) := fun G H s vx vy dx dy Q q =>
  ⟨x, y, dp_mono s x dx, dp_mono s y dy, hx, hy, q _ G H (Nx.refl s) (.bl _)⟩
theorem ro_neD (hx : SeqAt.shaped x = true) (hy : SeqAt.shaped y = true) : ROp K (rNeD K) x y (.bool (!PyData.eqv x y)) := fun G H s vx vy dx dy Q q =>
  ⟨x, y, dp_mono s x dx, dp_mono s y dy, hx, hy, q _ G H (Nx.refl s) (.bl _)⟩
/-- s[i] -/
theorem ro_ixL {i : Int} {k : Nat} (hi : i = (k : Int)) (hk : ds[k]? = some z) : ROp K (rIxL K) (.list ds) (.int i) z := fun G H s vx vy dx dy Q q => by
  cases dx with
  | lst hs ha =>
    obtain ⟨v, h1, h2⟩ := dpa_at ha hk
    rw [dp_int dy]
    exact ⟨_, _, i, v, rfl, rfl, s.seq hs, by rw [hi]; exact atI_nat h1, q v G H (Nx.refl s) h2⟩
theorem ro_ixT {i : Int} {k : Nat} (hi : i = (k : Int)) (hk : ds[k]? = some z) : ROp K (rIxT K) (.tuple ds) (.int i) z := fun G H s vx vy dx dy Q q => by
  cases dx with
  | tup hs ha =>
    obtain ⟨v, h1, h2⟩ := dpa_at ha hk
    rw [dp_int dy]
    exact ⟨_, _, i, v, rfl, rfl, same_tup s hs, by rw [hi]; exact atI_nat h1, q v G H (Nx.refl s) h2⟩
/-- t + u -/
theorem ro_cat (hz : ds.length + es.length ≤ sizeLine) : ROp K (rCatA K) (.tuple ds) (.tuple es) (.tuple (ds ++ es)) := fun G H s vx vy dx dy Q q => by
  cases dx with
  | @tup a xs _ hs ha =>
    cases dy with
    | @tup b ys _ hs' hb =>
      have l1 := dpa_length ha
      have l2 := dpa_length hb
      refine ⟨a, b, xs, ys, rfl, rfl, same_tup s hs, same_tup s hs', by omega, fun e => ?_, fun _ e => ?_, fun _ _ p hp => ?_⟩
      · subst e; cases ha; exact q _ G H (Nx.refl s) (.tup hs' hb)
      · subst e; cases hb; rw [List.append_nil] at q; exact q _ G H (Nx.refl s) (.tup hs ha)
      · have n := Nx.new (o := .tup (xs ++ ys)) s hp
        exact q _ _ _ n (.tup (SqT.of upd_same) (dpa_append (dpa_mono n.gg _ ha) (dpa_mono n.gg _ hb)))

/-! ### arguments, displays -/
theorem ea_nil : EvA K tNil σ G [] := fun H s _ q => q [] G H (Nx.refl s) .nil
theorem ea_cons (h : EvD K te σ G d) (hr : EvA K tR σ G ds) : EvA K (tCons te tR) σ G (d :: ds) := fun H s Q q =>
  h H s _ fun v G1 H1 n1 hv => (hr.mono n1.gg) H1 n1.gh _ fun vs G2 H2 n2 hvs => q (v :: vs) G2 H2 (n1.trans n2) (.cons (dp_mono n2.gg d hv) hvs)
theorem ed_tup (h : EvA K tA σ G ds) (hz : ds.length ≤ sizeLine) : EvD K (tTup tA) σ G (.tuple ds) := fun H s Q q =>
  h H s _ fun vs G1 H1 n1 hv => ⟨by rw [dpa_length hv]; exact hz, fun p hp => by
    have n := Nx.new (o := .tup vs) n1.gh hp
    exact q _ _ _ (n1.trans n) (.tup (SqT.of upd_same) (dpa_mono n.gg _ hv))⟩
theorem ed_lst (h : EvA K tA σ G ds) (hz : ds.length ≤ sizeLine) : EvD K (tLst tA) σ G (.list ds) := fun H s Q q =>
  h H s _ fun vs G1 H1 n1 hv => ⟨by rw [dpa_length hv]; exact hz, fun p hp => by
    have n := Nx.new (o := .lst vs) n1.gh hp
    exact q _ _ _ (n1.trans n) (.lst (SqL.of upd_same) (dpa_mono n.gg _ hv))⟩

/-! ### calls of built-ins and of defs -/
def RCl (K : PySem.W.Frag) (r : List V → Hp → VK → Prop) (ds : List PyData) (z : PyData) : Prop := ∀ G H, Same G H → ∀ vs, DpAll K G vs ds → ∀ Q : VK, (∀ v G' H', Nx G H G' H' → Dp K G' v z → Q v H') → r vs H Q
theorem ed_cb {r : List V → Hp → VK → Prop} (ha : EvA K tA σ G ds) (hr : RCl K r ds z) : EvD K (tCB r tA) σ G z := fun H s Q q =>
  ha H s _ fun vs G1 H1 n1 hv => hr G1 H1 n1.gh vs hv Q fun v G2 H2 n2 hd => q v G2 H2 (n1.trans n2) hd
/-- a def's promise by data: R says of which arguments it hands back what -/
def SpD (K : PySem.W.Frag) (R : List PyData → PyData → Prop) : Sp := fun vs H Q _ => ∃ G ds d, Same G H ∧ DpAll K G vs ds ∧ R ds d ∧ ∀ v G' H', Nx G H G' H' → Dp K G' v d → Q v H'
theorem ed_call {R : List PyData → PyData → Prop} {E : XK} (ha : EvA K tA σ G ds) (hr : R ds z) : EvD K (tCall (SpD K R) [] E tA) σ G z := fun H s Q q =>
  ha H s _ fun vs G1 H1 n1 hv => ⟨G1, ds, z, n1.gh, by rw [List.append_nil]; exact hv, hr, fun v G2 H2 n2 hd => q v G2 H2 (n1.trans n2) hd⟩
/-- by keywords: the values in the order of the call, put in that of the parameters -/
theorem ed_callK {R : List PyData → PyData → Prop} {E : XK} {tk : TA} {gV : List V → List V → List V} {gd : List PyData} (ha : EvA K tA σ G ds) (hk : EvA K tk σ G es)
    (hg : ∀ G' vs zs, DpAll K G' vs ds → DpAll K G' zs es → DpAll K G' (gV vs zs) gd) (hr : R gd z) : EvD K (tCallK (SpD K R) gV E tA tk) σ G z := fun H s Q q =>
  ha H s _ fun vs G1 H1 n1 hv => (hk.mono n1.gg) H1 n1.gh _ fun zs G2 H2 n2 hz => ⟨G2, gd, z, n2.gh, hg G2 vs zs (dpa_mono n2.gg _ hv) hz, hr, fun v G3 H3 n3 hd => q v G3 H3 ((n1.trans n2).trans n3) hd⟩

/-! ### tests -/
theorem eb_test {b : Bool} (h : EvD K te σ G (.bool b)) : EvB K (tTest te) σ G b := fun H s Q q => h H s _ fun v G1 H1 n1 hv => ⟨b, dp_bl hv, q G1 H1 n1⟩
theorem eb_B {b : Bool} (h : EvD K te σ G (.bool b)) : EvB K (tB te) σ G b := fun H s Q q => h H s _ fun v G1 H1 n1 hv => ⟨b, dp_bl hv, q G1 H1 n1⟩
theorem eb_not {b : Bool} (h : EvB K tt σ G b) : EvB K (tNot tt) σ G (!b) := fun H s Q q => h H s _ fun G1 H1 n1 => q G1 H1 n1
theorem eb_and {a b : Bool} (h1 : EvB K tt σ G a) (h2 : a = true → EvB K tu σ G b) : EvB K (tAnd tt tu) σ G (a && b) := fun H s Q q => h1 H s _ fun G1 H1 n1 => by
  cases a with
  | true => exact (show tu σ H1 Q from ((h2 rfl).mono n1.gg) H1 n1.gh Q fun G2 H2 n2 => q G2 H2 (n1.trans n2))
  | false => exact (show Q false H1 from q G1 H1 n1)
theorem eb_or {a b : Bool} (h1 : EvB K tt σ G a) (h2 : a = false → EvB K tu σ G b) : EvB K (tOr tt tu) σ G (a || b) := fun H s Q q => h1 H s _ fun G1 H1 n1 => by
  cases a with
  | true => exact (show Q true H1 from q G1 H1 n1)
  | false => exact (show tu σ H1 Q from ((h2 rfl).mono n1.gg) H1 n1.gh Q fun G2 H2 n2 => q G2 H2 (n1.trans n2))
theorem ed_and {a b : Bool} (h1 : EvD K ta σ G (.bool a)) (h2 : a = true → EvD K tb σ G (.bool b)) : EvD K (tAndV ta tb) σ G (.bool (a && b)) := fun H s Q q => h1 H s _ fun v G1 H1 n1 hv => ⟨a, dp_bl hv, by
  cases a with
  | true => exact (show tb σ H1 Q from ((h2 rfl).mono n1.gg) H1 n1.gh Q fun v2 G2 H2 n2 hd => q v2 G2 H2 (n1.trans n2) hd)
  | false => exact (show Q (.bl false) H1 from q _ G1 H1 n1 (.bl _))⟩
theorem ed_or {a b : Bool} (h1 : EvD K ta σ G (.bool a)) (h2 : a = false → EvD K tb σ G (.bool b)) : EvD K (tOrV ta tb) σ G (.bool (a || b)) := fun H s Q q => h1 H s _ fun v G1 H1 n1 hv => ⟨a, dp_bl hv, by
  cases a with
  | true => exact (show Q (.bl true) H1 from q _ G1 H1 n1 (.bl _))
  | false => exact (show tb σ H1 Q from ((h2 rfl).mono n1.gg) H1 n1.gh Q fun v2 G2 H2 n2 hd => q v2 G2 H2 (n1.trans n2) hd)⟩
theorem ed_not {a : Bool} (h1 : EvD K ta σ G (.bool a)) : EvD K (tNotV ta) σ G (.bool (!a)) := fun H s Q q => h1 H s _ fun v G1 H1 n1 hv => ⟨a, dp_bl hv, q _ G1 H1 n1 (.bl _)⟩
theorem ed_if {b : Bool} (h : EvB K tt σ G b) (h1 : b = true → EvD K ta σ G d) (h2 : b = false → EvD K tb σ G d) : EvD K (tIf tt ta tb) σ G d := fun H s Q q => h H s _ fun G1 H1 n1 => by
  cases b with
  | true => exact (show ta σ H1 Q from ((h1 rfl).mono n1.gg) H1 n1.gh Q fun v2 G2 H2 n2 hd => q v2 G2 H2 (n1.trans n2) hd)
  | false => exact (show tb σ H1 Q from ((h2 rfl).mono n1.gg) H1 n1.gh Q fun v2 G2 H2 n2 hd => q v2 G2 H2 (n1.trans n2) hd)
/-- a < b < c, of ints -/
theorem ed_chain {r r' : R2} {tc : TE} {b c : Bool} (ha : EvD K ta σ G x) (hb : EvD K tb σ G y) (hr : ROp K r x y (.bool b)) (hc : b = true → EvD K tc σ G z) (hr' : b = true → ROp K r' y z (.bool c)) : EvD K (tChain r r' ta tb tc) σ G (.bool (b && c)) := fun H s Q q =>
  ha H s _ fun vx G1 H1 n1 hx => (hb.mono n1.gg) H1 n1.gh _ fun vy G2 H2 n2 hy => hr G2 H2 n2.gh vx vy (dp_mono n2.gg x hx) hy _ fun v G3 H3 n3 hd => ⟨b, dp_bl hd, by
    have n13 := (n1.trans n2).trans n3
    cases b with
    | true => exact (show tc σ H3 _ from ((hc rfl).mono n13.gg) H3 n13.gh _ fun vz G4 H4 n4 hz => (hr' rfl) G4 H4 n4.gh vy vz (dp_mono (n3.gg.trans n4.gg) y hy) hz Q fun v5 G5 H5 n5 hd5 => q v5 G5 H5 ((n13.trans n4).trans n5) hd5)
    | false => exact (show Q (.bl false) H3 from q _ G3 H3 n13 (.bl _))⟩

/-! ### statements that hand back -/
theorem rd_ret (h : EvD K te σ G d) : RtD K (tRet te) σ G d := fun H s D q => h H s _ fun v G1 H1 n hd => q v G1 H1 n hd
theorem rd_if {b : Bool} (h : EvB K tt σ G b) (h1 : b = true → RtD K t σ G d) (h2 : b = false → RtD K u σ G d) : RtD K (tIfS tt t u) σ G d := fun H s D q => h H s _ fun G1 H1 n1 => by
  cases b with
  | true => exact (show t D σ H1 from ((h1 rfl).mono n1.gg) H1 n1.gh D fun v2 G2 H2 n2 hd => q v2 G2 H2 (n1.trans n2) hd)
  | false => exact (show u D σ H1 from ((h2 rfl).mono n1.gg) H1 n1.gh D fun v2 G2 H2 n2 hd => q v2 G2 H2 (n1.trans n2) hd)
theorem rd_seqIf {b : Bool} (h : EvB K tt σ G b) (h1 : b = true → RtD K t σ G d) (h2 : b = false → RtD K u σ G d) : RtD K (tSeq (tIfS tt t tNext) u) σ G d := fun H s D q => h H s _ fun G1 H1 n1 => by
  cases b with
  | true => exact (show t { D with nx := u D } σ H1 from ((h1 rfl).mono n1.gg) H1 n1.gh { D with nx := u D } fun v2 G2 H2 n2 hd => q v2 G2 H2 (n1.trans n2) hd)
  | false => exact (show u D σ H1 from ((h2 rfl).mono n1.gg) H1 n1.gh D fun v2 G2 H2 n2 hd => q v2 G2 H2 (n1.trans n2) hd)
theorem rd_set {i : Nat} (h : EvD K te σ G e) (h1 : ∀ v G', Same G G' → Dp K G' v e → RtD K u (σ.set i (some v)) G' d) : RtD K (tSeq (tAsg te (gName i)) u) σ G d := fun H s D q => h H s _ fun v G1 H1 n1 hv =>
  h1 v G1 n1.gg hv H1 n1.gh D fun v2 G2 H2 n2 hd => q v2 G2 H2 (n1.trans n2) hd
theorem rd_drop (h : EvD K te σ G e) (h1 : RtD K u σ G d) : RtD K (tSeq (tDrop te) u) σ G d := fun H s D q => h H s _ fun v G1 H1 n1 hv =>
  (h1.mono n1.gg) H1 n1.gh D fun v2 G2 H2 n2 hd => q v2 G2 H2 (n1.trans n2) hd
/-- nothing behind the last statement: None -/
theorem rd_never (h : False) : RtD K t σ G d := h.elim
end
/-- a def whose body hands back by data -/
theorem okD {P : Program} {w : World} {K : PySem.W.Frag} {mg : Str → Option Value} {base : Heap} {x qual : Str} {st : Stmt} {f : Addr} {fd : FuncData} {N ps : List Str} {k : Nat} {R : List PyData → PyData → Prop}
    (F : Fun K x qual st f fd) (S : FnScope N ps (defScope st)) (len : ∀ ds d, R ds d → ds.length = ps.length)
    (hbody : ∀ (cdv : Value) (A : Around) (outer : List Env) (s : Shared) (H : Hp), Room k (A.deeper (envOfC qual (defScope st) s.heap.objs.size f cdv)) →
      ∃ t, PSs (cxOf CX0 P w K mg base N qual (defScope st) f cdv A outer s H E0).nox (defBody st) t ∧ ∀ G ds d vs, R ds d → DpAll K G vs ds → ∀ H, Same G H → ∀ D : Ends, (∀ v G' H', Nx G H G' H' → Dp K G' v d → D.rt v H') → (∀ σ G' H', Nx G H G' H' → d = .none → D.nx σ H') → t D (start N vs) H) : FnOk P w K mg base CX0 (k + 1) f fd ps (SpD K R) := by
  refine F.ok S (fun vs H Q E h => ?_) (fun cdv A outer s H vs Q E hr h => ?_)
  · obtain ⟨G, ds, d, _, ha, hr, _⟩ := h
    rw [dpa_length ha]; exact len ds d hr
  · obtain ⟨G, ds, d, hs, ha, hR, q⟩ := h
    obtain ⟨t, ht, hq⟩ := hbody cdv A outer s H hr
    exact ⟨t, ht, hq G ds d vs hR ha H hs _ (fun v G' H' n hd => q v G' H' n hd) (fun _ G' H' n e => q .non G' H' n (by rw [e]; exact .non))⟩
end Gw
namespace Gw
open PySem PySem.Spec PyProof.Rows L2

/-! ### kinds -/
def tyOf : PyData → String
  | .none => "NoneType" | .bool _ => "bool" | .int _ => "int" | .str _ => "str" | .list _ => "list" | .tuple _ => "tuple" | .dict _ => "dict"
theorem dp_ty {K : PySem.W.Frag} {G H : Hp} (s : Same G H) : ∀ {d : PyData} {v : V}, Dp K G v d → TyX K H v (.type (tyOf d))
  | _, _, .non => .base .non
  | _, _, .bl b => .base (.bl b)
  | _, _, .int i => .base (.int i)
  | _, _, .str x => .base (.str x)
  | _, _, .lst hs _ => by
    rcases hs with (h | ⟨o, h⟩) | ⟨o, its, n, h, c, _⟩
    · exact .base (.lst (s _ _ h))
    · exact .base (.frz (s _ _ h))
    · exact .kList h c
  | _, _, .tup hs _ => by
    rcases hs with (h | ⟨o, h⟩) | ⟨o, its, n, h, c, _⟩
    · exact .base (.tup (s _ _ h))
    · exact .fTuple (s _ _ h)
    · exact .kTuple h c
section
variable {K : PySem.W.Frag} {σ : L2.St} {G G1 : Hp} {te ta tb tl : TE} {tt tu : TT} {tA tR : TA} {d e x y z : PyData} {ds es : List PyData} {t u : TS}
theorem ed_isi {n : String} {b : Bool} (h : EvD K te σ G d) (hk : kitB (tyOf d) n = some b) : EvD K (tCB (rIsi K) (tCons te (tCons (tC (.ty n)) tNil))) σ G (.bool b) := fun H s Q q =>
  h H s _ fun v G1 H1 n1 hv => ⟨v, .ty n, .type (tyOf d), .type n, b, rfl, .ty n, dp_ty n1.gh hv, kit_ty hk, q _ G1 H1 n1 (.bl b)⟩
theorem rcl_len {K : PySem.W.Frag} {ds : List PyData} : RCl K (fun xs H Q => ∃ p ys, xs = [.ref p] ∧ (SqL K H p ys ∨ SqT K H p ys) ∧ Q (.int ys.length) H) [.tuple ds] (.int ds.length) := fun G H s vs hv Q q => by
  cases hv with
  | cons h t =>
    cases t
    cases h with
    | tup hs ha =>
      refine ⟨_, _, rfl, .inr (same_tup s hs), ?_⟩
      rw [dpa_length ha]
      exact q _ G H (Nx.refl s) (.int _)
theorem rcl_lenL {K : PySem.W.Frag} {ds : List PyData} : RCl K (fun xs H Q => ∃ p ys, xs = [.ref p] ∧ (SqL K H p ys ∨ SqT K H p ys) ∧ Q (.int ys.length) H) [.list ds] (.int ds.length) := fun G H s vs hv Q q => by
  cases hv with
  | cons h t =>
    cases t
    cases h with
    | lst hs ha =>
      refine ⟨_, _, rfl, .inl (s.seq hs), ?_⟩
      rw [dpa_length ha]
      exact q _ G H (Nx.refl s) (.int _)
theorem dpa_bools {K : PySem.W.Frag} {H : Hp} : ∀ {vs : List V} {bs : List Bool}, DpAll K H vs (bs.map PyData.bool) → vs = bs.map V.bl
  | [], [], _ => rfl
  | [], _ :: _, h => nomatch h
  | _ :: _, [], h => nomatch h
  | v :: vs, n :: ns, .cons h t => by rw [dp_bl h, dpa_bools t]; rfl
theorem rcl_all {bs : List Bool} : RCl K (rAll K) [.list (bs.map .bool)] (.bool (bs.all id)) := fun G H s vs hv Q q => by
  cases hv with
  | cons h t =>
    cases t
    cases h with
    | lst hs ha =>
      rw [dpa_bools ha] at hs
      exact ⟨_, bs, rfl, s.seq hs, q _ G H (Nx.refl s) (.bl _)⟩
theorem rcl_tupleL : RCl K (fun xs H Q => ∃ p ys, xs = [.ref p] ∧ ((SqL K H p ys ∧ ∀ l, H l = none → Q (.ref l) (upd H l (.tup ys))) ∨ (SqT K H p ys ∧ Q (.ref p) H))) [.list ds] (.tuple ds) := fun G H s vs hv Q q => by
  cases hv with
  | cons h t =>
    cases t
    cases h with
    | @lst a xs _ hs ha =>
      refine ⟨_, _, rfl, .inl ⟨s.seq hs, fun l hl => ?_⟩⟩
      have n := Nx.new (o := .tup xs) s hl
      exact q _ _ _ n (.tup (SqT.of upd_same) (dpa_mono n.gg _ ha))
theorem rcl_listL : RCl K (fun xs H Q => ∃ p ys, xs = [.ref p] ∧ (SqL K H p ys ∨ SqT K H p ys) ∧ ∀ l, H l = none → Q (.ref l) (upd H l (.lst ys))) [.list ds] (.list ds) := fun G H s vs hv Q q => by
  cases hv with
  | cons h t =>
    cases t
    cases h with
    | @lst a xs _ hs ha =>
      refine ⟨_, _, rfl, .inl (s.seq hs), fun l hl => ?_⟩
      have n := Nx.new (o := .lst xs) s hl
      exact q _ _ _ n (.lst (SqL.of upd_same) (dpa_mono n.gg _ ha))

/-! ### slices -/
def EvO (K : PySem.W.Frag) (to : TO) (σ : L2.St) (G : Hp) (o : Option Int) : Prop := ∀ H, Same G H → ∀ Q : Option Int → Hp → Prop, (∀ G' H', Nx G H G' H' → Q o H') → to σ H Q
theorem eo_none : EvO K tNoPart σ G none := fun H s _ q => q G H (Nx.refl s)
theorem eo_some {i : Int} (h : EvD K te σ G (.int i)) : EvO K (tPart te) σ G (some i) := fun H s _ q => h H s _ fun v G1 H1 n hv => ⟨i, dp_int hv, q G1 H1 n⟩
theorem EvO.mono {to : TO} {o : Option Int} (h : EvO K to σ G o) (g : Same G G1) : EvO K to σ G1 o := fun H s Q q => h H (g.trans s) Q fun G' H' n => by
  obtain ⟨G2, n2, s2⟩ := n.over g s
  exact q G2 H' n2
def cutD (xs : List PyData) (lo hi : Option Int) : List PyData := (xs.drop (HT.sIx xs.length 0 lo)).take (HT.sIx xs.length xs.length hi - HT.sIx xs.length 0 lo)
theorem dpa_cut {H : Hp} {vs : List V} (lo hi : Option Int) (h : DpAll K H vs ds) : DpAll K H (cutV vs lo hi) (cutD ds lo hi) := by
  unfold cutV cutD
  rw [dpa_length h]
  exact dpa_take _ (dpa_drop _ h)
theorem cutD_whole {lo hi : Option Int} (h : HT.sIx ds.length 0 lo = 0 ∧ HT.sIx ds.length ds.length hi = ds.length) : cutD ds lo hi = ds := by
  unfold cutD
  rw [h.1, h.2, List.drop_zero, Nat.sub_zero, List.take_length]
theorem cutD_to {k : Nat} : cutD ds none (some (k : Int)) = ds.take k := by
  unfold cutD
  rw [HT.sIx_none, HT.sIx_nat, List.drop_zero, Nat.sub_zero]
  by_cases h : k ≤ ds.length
  · rw [Nat.min_eq_left h]
  · rw [Nat.min_eq_right (by omega), List.take_length, List.take_of_length_le (by omega)]
theorem cutD_from {k : Nat} : cutD ds (some (k : Int)) none = ds.drop k := by
  unfold cutD
  rw [HT.sIx_none, HT.sIx_nat]
  by_cases h : k ≤ ds.length
  · rw [Nat.min_eq_left h, List.take_of_length_le (by rw [List.length_drop]; omega)]
  · rw [Nat.min_eq_right (by omega), Nat.sub_self, List.take_zero, List.drop_eq_nil_of_le (by omega)]
theorem cutD_mid {k j : Nat} (hkj : k ≤ j) (hj : j ≤ ds.length) : cutD ds (some (k : Int)) (some (j : Int)) = (ds.take j).drop k := by
  unfold cutD
  have hk : min k ds.length = k := Nat.min_eq_left (by omega)
  have hj' : min j ds.length = j := Nat.min_eq_left hj
  rw [HT.sIx_nat, HT.sIx_nat, hk, hj', List.drop_take]
theorem ed_slT {tl th : TO} {lo hi : Option Int} (h : EvD K te σ G (.tuple ds)) (h1 : EvO K tl σ G lo) (h2 : EvO K th σ G hi) : EvD K (tSl (rSlA K) te tl th) σ G (.tuple (cutD ds lo hi)) := fun H s Q q =>
  h H s _ fun v G1 H1 n1 hv => (h1.mono n1.gg) H1 n1.gh _ fun G2 H2 n2 => (h2.mono (n1.gg.trans n2.gg)) H2 n2.gh _ fun G3 H3 n3 => by
    have n := (n1.trans n2).trans n3
    cases hv with
    | @tup a xs _ hs ha =>
      have g3 := n2.gg.trans n3.gg
      refine ⟨_, _, rfl, same_tup (g3.trans n3.gh) hs, fun hw => ?_, fun _ p hp => ?_⟩
      · rw [dpa_length ha] at hw
        rw [cutD_whole hw] at q
        exact q _ G3 H3 n (.tup (same_tup g3 hs) (dpa_mono g3 _ ha))
      · have m := Nx.new (o := .tup (cutV xs lo hi)) n3.gh hp
        exact q _ _ _ (n.trans m) (.tup (SqT.of upd_same) (dpa_mono (g3.trans m.gg) _ (dpa_cut lo hi ha)))
theorem ed_slL {tl th : TO} {lo hi : Option Int} (h : EvD K te σ G (.list ds)) (h1 : EvO K tl σ G lo) (h2 : EvO K th σ G hi) : EvD K (tSl (rSlL K) te tl th) σ G (.list (cutD ds lo hi)) := fun H s Q q =>
  h H s _ fun v G1 H1 n1 hv => (h1.mono n1.gg) H1 n1.gh _ fun G2 H2 n2 => (h2.mono (n1.gg.trans n2.gg)) H2 n2.gh _ fun G3 H3 n3 => by
    have n := (n1.trans n2).trans n3
    cases hv with
    | @lst a xs _ hs ha =>
      have g3 := n2.gg.trans n3.gg
      refine ⟨_, _, rfl, (g3.trans n3.gh).seq hs, fun p hp => ?_⟩
      have m := Nx.new (o := .lst (cutV xs lo hi)) n3.gh hp
      exact q _ _ _ (n.trans m) (.lst (SqL.of upd_same) (dpa_mono (g3.trans m.gg) _ (dpa_cut lo hi ha)))

/-! ### comprehensions: the list stands at D, apart from the view -/
structure LcI (K : PySem.W.Frag) (G1 H1 : Hp) (D : Addr) (ds : List PyData) (Hc : Hp) : Prop where
  ex : ∃ Gi acc, Nx G1 H1 Gi Hc ∧ Gi D = none ∧ Hc D = some (.lst acc) ∧ DpAll K Gi acc ds
theorem LcI.start {H1 : Hp} {D : Addr} (s : Same G1 H1) (hD : H1 D = none) : LcI K G1 H1 D [] (upd H1 D (.lst [])) :=
  ⟨G1, [], Nx.lay s hD, s.free hD, upd_same, .nil⟩
theorem LcI.fin {H1 Hc : Hp} {D : Addr} (hD : H1 D = none) (h : LcI K G1 H1 D ds Hc) : ∃ G', Nx G1 H1 G' Hc ∧ Dp K G' (.ref D) (.list ds) := by
  obtain ⟨Gi, acc, n, g, e, ha⟩ := h.ex
  have gi : Same Gi (upd Gi D (.lst acc)) := fun b u q => by rw [upd_ne (ne_of_none q g)]; exact q
  refine ⟨upd Gi D (.lst acc), ⟨n.gg.trans gi, fun b u q => ?_, n.hh, fun b hb => ?_⟩, .lst (SqL.of upd_same) (dpa_mono gi _ ha)⟩
  · by_cases hq : b = D
    · subst hq; rw [upd_same] at q; rw [e]; exact q
    · rw [upd_ne hq] at q; exact n.gh b u q
  · by_cases hq : b = D
    · subst hq; exact absurd hD hb
    · rw [upd_ne hq]; exact n.fr b hb
/-- a new list, apart from the view -/
def EvN (K : PySem.W.Frag) (te : TE) (σ : L2.St) (G : Hp) (ds : List PyData) : Prop := ∀ H, Same G H → ∀ Q : VK, (∀ p vs G' H', Nx G H G' H' → H p = none → G' p = none → H' p = some (.lst vs) → DpAll K G' vs ds → Q (.ref p) H') → te σ H Q
theorem Nx.tell {H G' H' : Hp} {p : Addr} {o : HO} (n : Nx G H G' H') (hp : H p = none) (gp : G' p = none) (e : H' p = some o) : Nx G H (upd G' p o) H' ∧ Same G' (upd G' p o) := by
  have gi : Same G' (upd G' p o) := fun b u q => by rw [upd_ne (ne_of_none q gp)]; exact q
  refine ⟨⟨n.gg.trans gi, fun b u q => ?_, n.hh, fun b hb => ?_⟩, gi⟩
  · by_cases hq : b = p
    · subst hq; rw [upd_same] at q; rw [e]; exact q
    · rw [upd_ne hq] at q; exact n.gh b u q
  · by_cases hq : b = p
    · subst hq; exact absurd hp hb
    · rw [upd_ne hq]; exact n.fr b hb
theorem EvN.toD (h : EvN K te σ G ds) : EvD K te σ G (.list ds) := fun H s Q q => h H s Q fun p vs G' H' n hp gp e ha => by
  obtain ⟨m, gi⟩ := n.tell hp gp e
  exact q _ _ _ m (.lst (SqL.of upd_same) (dpa_mono gi _ ha))
theorem EvN.mono (h : EvN K te σ G ds) (g : Same G G1) : EvN K te σ G1 ds := fun H s Q q => h H (g.trans s) Q fun p vs G' H' n hp gp e ha => by
  have hG1 : G1 p = none := s.free hp
  refine q p vs (fun a => match H a with | none => G' a | some _ => G1 a) H' ⟨fun a o ea => ?_, fun a o ea => ?_, n.hh, fun a ea => ?_⟩ hp (by simp only [hp]; exact gp) e (dpa_mono (fun a o ea => ?_) _ ha)
  · have := s a o ea
    simp only [this]; exact ea
  · cases q2 : H a with
    | none => simp only [q2] at ea; exact n.gh a o ea
    | some u =>
      simp only [q2] at ea
      exact n.hh a o (s a o ea)
  · cases q2 : H a with
    | none => exact absurd q2 ea
    | some u => rfl
  · cases q2 : H a with
    | none => simp only [q2]; exact ea
    | some u =>
      simp only [q2]
      rw [n.fr a (ne_none q2)] at ea
      exact g a o ea
theorem EvN.cast (h : EvN K te σ G ds) (e : ds = es) : EvN K te σ G es := e ▸ h
theorem en_lst (h : EvA K tA σ G ds) (hz : ds.length ≤ sizeLine) : EvN K (tLst tA) σ G ds := fun H s Q q =>
  h H s _ fun vs G1 H1 n1 hv => ⟨by rw [dpa_length hv]; exact hz, fun p hp => by
    have hp0 : H p = none := n1.hh.free hp
    refine q p vs G1 _ (n1.trans (Nx.lay n1.gh hp)) hp0 (n1.gh.free hp) upd_same hv⟩
theorem LcI.finN {H H1 Hc : Hp} {D : Addr} {Q : VK} (n1 : Nx G H G1 H1) (hD : H1 D = none) (h : LcI K G1 H1 D ds Hc) (q : ∀ p vs G' H', Nx G H G' H' → H p = none → G' p = none → H' p = some (.lst vs) → DpAll K G' vs ds → Q (.ref p) H') : Q (.ref D) Hc := by
  obtain ⟨Gi, acc, n, g, e, ha⟩ := h.ex
  exact q D acc Gi Hc (n1.trans n) (n1.hh.free hD) g e ha
/-- one turn: b the test's answer, then the element -/
theorem LcI.turn {H1 Hc : Hp} {D : Addr} {σ2 : L2.St} {b : Bool} {e : PyData} {Nxt : Hp → Prop} (hD : H1 D = none) (h : LcI K G1 H1 D ds Hc) (hz : ds.length < sizeLine)
    (ht : ∀ Gi, Same G1 Gi → EvB K tt σ2 Gi b) (he : b = true → ∀ Gi, Same G1 Gi → EvD K te σ2 Gi e)
    (hn : ∀ H', LcI K G1 H1 D (if b = true then ds ++ [e] else ds) H' → Nxt H') :
    tt σ2 Hc fun b H3 => if b = true then te σ2 H3 fun y H4 => ∃ acc, H4 D = some (.lst acc) ∧ acc.length < sizeLine ∧ Nxt (upd H4 D (.lst (acc ++ [y]))) else Nxt H3 := by
  obtain ⟨Gi, acc, n, g, e0, ha⟩ := h.ex
  refine ht Gi n.gg Hc n.gh _ fun G3 H3 n3 => ?_
  have hDc : Hc D ≠ none := ne_none e0
  have g3 : G3 D = none := (n3.fr D hDc).trans g
  have e3 : H3 D = some (.lst acc) := n3.hh D _ e0
  cases b with
  | false =>
    refine (show Nxt H3 from hn H3 ?_)
    exact ⟨G3, acc, n.trans n3, g3, e3, dpa_mono n3.gg _ ha⟩
  | true =>
    refine (show te σ2 H3 _ from he rfl G3 (n.gg.trans n3.gg) H3 n3.gh _ fun y G4 H4 n4 hy => ?_)
    have g4 : G4 D = none := (n4.fr D (ne_none e3)).trans g3
    refine ⟨acc, n4.hh D _ e3, by rw [dpa_length ha]; exact hz, hn _ ?_⟩
    have n14 := (n.trans n3).trans n4
    refine ⟨G4, acc ++ [y], ⟨n14.gg, fun b u q => ?_, fun b u q => ?_, n14.fr⟩, g4, upd_same, dpa_append (dpa_mono (n3.gg.trans n4.gg) _ ha) (.cons hy .nil)⟩
    · rw [upd_ne (ne_of_none q g4)]; exact n4.gh b u q
    · rw [upd_ne (ne_of_none q hD)]; exact n14.hh b u q
theorem fm_take {α β : Type} (f : α → Option β) (l : List α) (i : Nat) (a : α) (h : l[i]? = some a) : (l.take (i + 1)).filterMap f = (l.take i).filterMap f ++ (f a).toList := by
  have hi := (List.getElem?_eq_some_iff.mp h)
  obtain ⟨h1, h2⟩ := hi
  rw [List.take_succ, h, List.filterMap_append]
  cases hf : f a <;> simp [List.filterMap_cons, hf]
theorem en_lcT {i : Nat} {vs : List Nat} (f : PyData → Option PyData) (h : EvD K tl σ G (.tuple ds)) (hw : ∀ v, wipe ((wipe σ vs).set i (some v)) vs = wipe σ vs) (hz : ds.length ≤ sizeLine)
    (ht : ∀ d v Gi, d ∈ ds → Same G Gi → Dp K Gi v d → EvB K tt ((wipe σ vs).set i (some v)) Gi (f d).isSome)
    (he : ∀ d v e Gi, d ∈ ds → f d = some e → Same G Gi → Dp K Gi v d → EvD K te ((wipe σ vs).set i (some v)) Gi e) : EvN K (tLc (iTup K tl) (gName i) tt te vs) σ G (ds.filterMap f) := fun H s Q q =>
  h H s _ fun v G1 H1 n1 hv => by
    cases hv with
    | @tup a xs _ hs ha =>
      refine ⟨a, rfl, ⟨xs, same_tup n1.gh hs⟩, fun D hD => ?_⟩
      refine lc_tup (K := K) (a := a) (xs := xs) (fun k Hc => LcI K G1 H1 D ((ds.take k).filterMap f) Hc) (LcI.start n1.gh hD) (fun k Hc _ p => ?_) (fun k x Hc hk p => ?_) fun Hc p => ?_
      · obtain ⟨Gi, acc, n, _⟩ := p.ex
        exact same_tup (n1.gh.trans n.hh) hs
      · obtain ⟨dk, hdk, hdx⟩ := dpa_get ha hk
        have hm : dk ∈ ds := List.mem_of_getElem? hdk
        refine ⟨hw x, ?_⟩
        refine LcI.turn (b := (f dk).isSome) (e := (f dk).getD .none) hD p (Nat.lt_of_le_of_lt (List.length_filterMap_le _ _) ?_) (fun Gi g => ht dk x Gi hm (n1.gg.trans g) (dp_mono g _ hdx)) (fun hb Gi g => ?_) fun H' p' => ?_
        · have := (List.getElem?_eq_some_iff.mp hdk).1
          rw [List.length_take]; omega
        · obtain ⟨e, hee⟩ := Option.isSome_iff_exists.mp hb
          rw [hee]
          exact he dk x e Gi hm hee (n1.gg.trans g) (dp_mono g _ hdx)
        · rw [fm_take f ds k dk hdk]
          cases hf : f dk with
          | none => rw [hf] at p'; simpa using p'
          | some e => rw [hf] at p'; simpa using p'
      · rw [dpa_length ha, List.take_length] at p
        exact p.finN n1 hD q
theorem en_lcL {i : Nat} {vs : List Nat} (f : PyData → Option PyData) (h : EvD K tl σ G (.list ds)) (hw : ∀ v, wipe ((wipe σ vs).set i (some v)) vs = wipe σ vs) (hz : ds.length ≤ sizeLine)
    (ht : ∀ d v Gi, d ∈ ds → Same G Gi → Dp K Gi v d → EvB K tt ((wipe σ vs).set i (some v)) Gi (f d).isSome)
    (he : ∀ d v e Gi, d ∈ ds → f d = some e → Same G Gi → Dp K Gi v d → EvD K te ((wipe σ vs).set i (some v)) Gi e) : EvN K (tLc (iList K tl) (gName i) tt te vs) σ G (ds.filterMap f) := fun H s Q q =>
  h H s _ fun v G1 H1 n1 hv => by
    cases hv with
    | @lst a xs _ hs ha =>
      refine ⟨a, rfl, ⟨xs, n1.gh.seq hs⟩, fun D hD => ?_⟩
      refine lc_list (K := K) (a := a) (xs := xs) (fun k Hc => LcI K G1 H1 D ((ds.take k).filterMap f) Hc) (LcI.start n1.gh hD) (fun k Hc _ p => ?_) (fun k x Hc hk p => ?_) fun Hc p => ?_
      · obtain ⟨Gi, acc, n, _⟩ := p.ex
        exact (n1.gh.trans n.hh).seq hs
      · obtain ⟨dk, hdk, hdx⟩ := dpa_get ha hk
        have hm : dk ∈ ds := List.mem_of_getElem? hdk
        refine ⟨hw x, ?_⟩
        refine LcI.turn (b := (f dk).isSome) (e := (f dk).getD .none) hD p (Nat.lt_of_le_of_lt (List.length_filterMap_le _ _) ?_) (fun Gi g => ht dk x Gi hm (n1.gg.trans g) (dp_mono g _ hdx)) (fun hb Gi g => ?_) fun H' p' => ?_
        · have := (List.getElem?_eq_some_iff.mp hdk).1
          rw [List.length_take]; omega
        · obtain ⟨e, hee⟩ := Option.isSome_iff_exists.mp hb
          rw [hee]
          exact he dk x e Gi hm hee (n1.gg.trans g) (dp_mono g _ hdx)
        · rw [fm_take f ds k dk hdk]
          cases hf : f dk with
          | none => rw [hf] at p'; simpa using p'
          | some e => rw [hf] at p'; simpa using p'
      · rw [dpa_length ha, List.take_length] at p
        exact p.finN n1 hD q
theorem en_lcR {i : Nat} {vs : List Nat} {m : Int} (f : Nat → Option PyData) (h : EvD K tl σ G (.int m)) (hw : ∀ v, wipe ((wipe σ vs).set i (some v)) vs = wipe σ vs) (hm0 : -(2 ^ 62) ≤ m) (hz : m.toNat ≤ sizeLine)
    (ht : ∀ k Gi, k < m.toNat → Same G Gi → EvB K tt ((wipe σ vs).set i (some (.int k))) Gi (f k).isSome)
    (he : ∀ k e Gi, k < m.toNat → f k = some e → Same G Gi → EvD K te ((wipe σ vs).set i (some (.int k))) Gi e) : EvN K (tLc (iRng1 (tCons tl tNil)) (gName i) tt te vs) σ G ((List.range m.toNat).filterMap f) := fun H s Q q =>
  h H s _ fun v G1 H1 n1 hv => by
    rw [dp_int hv]
    refine ⟨m, rfl, hm0, ?_, fun D hD => ?_⟩
    · have : sizeLine ≤ 2 ^ 61 := by decide
      omega
    refine lc_range (lo := 0) (n := m.toNat) (fun k Hc => LcI K G1 H1 D ((List.range k).filterMap f) Hc) (LcI.start n1.gh hD) (fun k Hc hk p => ?_) fun Hc p => ?_
    · have e0 : (0 : Int) + (k : Int) = (k : Int) := by omega
      rw [e0]
      refine ⟨hw _, ?_⟩
      refine LcI.turn (b := (f k).isSome) (e := (f k).getD .none) hD p (Nat.lt_of_le_of_lt (List.length_filterMap_le _ _) (by rw [List.length_range]; omega)) (fun Gi g => ht k Gi hk (n1.gg.trans g)) (fun hb Gi g => ?_) fun H' p' => ?_
      · obtain ⟨e, hee⟩ := Option.isSome_iff_exists.mp hb
        rw [hee]
        exact he k e Gi hk hee (n1.gg.trans g)
      · rw [List.range_succ, List.filterMap_append]
        cases hf : f k with
        | none => rw [hf] at p'; simpa [List.filterMap_cons, hf] using p'
        | some e => rw [hf] at p'; simpa [List.filterMap_cons, hf] using p'
    · exact p.finN n1 hD q
theorem eb_yes : EvB K tYes σ G true := fun H s _ q => q G H (Nx.refl s)
/-- no test -/
theorem en_lcT1 {i : Nat} {vs : List Nat} (f : PyData → PyData) (h : EvD K tl σ G (.tuple ds)) (hw : ∀ v, wipe ((wipe σ vs).set i (some v)) vs = wipe σ vs) (hz : ds.length ≤ sizeLine)
    (he : ∀ d v Gi, d ∈ ds → Same G Gi → Dp K Gi v d → EvD K te ((wipe σ vs).set i (some v)) Gi (f d)) : EvN K (tLc (iTup K tl) (gName i) tYes te vs) σ G (ds.map f) :=
  (en_lcT (fun d => some (f d)) h hw hz (fun d v Gi _ _ _ => eb_yes) (fun d v e Gi hm e1 g hd => by cases e1; exact he d v Gi hm g hd)).cast (by rw [List.filterMap_eq_map'])
theorem en_lcL1 {i : Nat} {vs : List Nat} (f : PyData → PyData) (h : EvD K tl σ G (.list ds)) (hw : ∀ v, wipe ((wipe σ vs).set i (some v)) vs = wipe σ vs) (hz : ds.length ≤ sizeLine)
    (he : ∀ d v Gi, d ∈ ds → Same G Gi → Dp K Gi v d → EvD K te ((wipe σ vs).set i (some v)) Gi (f d)) : EvN K (tLc (iList K tl) (gName i) tYes te vs) σ G (ds.map f) :=
  (en_lcL (fun d => some (f d)) h hw hz (fun d v Gi _ _ _ => eb_yes) (fun d v e Gi hm e1 g hd => by cases e1; exact he d v Gi hm g hd)).cast (by rw [List.filterMap_eq_map'])
theorem en_lcR1 {i : Nat} {vs : List Nat} {m : Int} (f : Nat → PyData) (h : EvD K tl σ G (.int m)) (hw : ∀ v, wipe ((wipe σ vs).set i (some v)) vs = wipe σ vs) (hm0 : -(2 ^ 62) ≤ m) (hz : m.toNat ≤ sizeLine)
    (he : ∀ k Gi, k < m.toNat → Same G Gi → EvD K te ((wipe σ vs).set i (some (.int k))) Gi (f k)) : EvN K (tLc (iRng1 (tCons tl tNil)) (gName i) tYes te vs) σ G ((List.range m.toNat).map f) :=
  (en_lcR (fun d => some (f d)) h hw hm0 hz (fun k Gi _ _ => eb_yes) (fun k e Gi hk e1 g => by cases e1; exact he k Gi hk g)).cast (by rw [List.filterMap_eq_map'])
end
end Gw
namespace Gw
open PySem PySem.Spec PyProof.Rows L2

/-! ### a def as it stands, and its promise -/
structure DefAt (K : PySem.W.Frag) (mg : Str → Option Value) (x : Str) (st : Stmt) (ps : List Str) (f : Addr) (fd : FuncData) : Prop where
  F : Fun K x x st f fd
  m : mg x = some (.ref f)
  b : Binds K fd ps []
def Ok (P : Program) (w : World) (K : PySem.W.Frag) (mg : Str → Option Value) (base : Heap) (x : Str) (ps : List Str) (k : Nat) (sp : Sp) : Prop :=
  ∃ (f : Addr) (fd : FuncData), mg x = some (.ref f) ∧ PySem.W.keepIn K (.ref f) = true ∧ Binds K fd ps [] ∧ FnOk P w K mg base CX0 k f fd ps sp
theorem DefAt.ok {P : Program} {w : World} {K : PySem.W.Frag} {mg : Str → Option Value} {base : Heap} {x : Str} {st : Stmt} {ps : List Str} {f : Addr} {fd : FuncData} {k : Nat} {sp : Sp}
    (D : DefAt K mg x st ps f fd) (h : FnOk P w K mg base CX0 k f fd ps sp) : Ok P w K mg base x ps k sp := ⟨f, fd, D.m, D.F.kp, D.b, h⟩
theorem Ok.imp {P : Program} {w : World} {K : PySem.W.Frag} {mg : Str → Option Value} {base : Heap} {x : Str} {ps : List Str} {k : Nat} {sp sp' : Sp} (h : Ok P w K mg base x ps k sp)
    (i : ∀ vs H Q E, sp' vs H Q E → sp vs H Q E) : Ok P w K mg base x ps k sp' := by
  obtain ⟨f, fd, a, b, c, d⟩ := h
  exact ⟨f, fd, a, b, c, d.imp i⟩
/-- names of built-ins that the text leaves alone -/
structure Bt (mg : Str → Option Value) : Prop where
  len : mg "len" = none
  int : mg "int" = none
  bool : mg "bool" = none
  str : mg "str" = none
  list : mg "list" = none
  tuple : mg "tuple" = none
  dict : mg "dict" = none
  isinstance : mg "isinstance" = none
  all : mg "all" = none
  any : mg "any" = none
  abs : mg "abs" = none
  min : mg "min" = none
  max : mg "max" = none
  range : mg "range" = none
  enumerate : mg "enumerate" = none
  repr : mg "repr" = none
  sorted : mg "sorted" = none
section
variable {X : Cx} {x : Str} {ps ks : List Str} {k : Nat} {sp : Sp} {p pos : Pos} {e : Expr} {es : List Expr} {kws : List Keyword} {t tk : TA}
theorem pe_ok (h : Ok X.prog X.w X.K X.mg X.base x ps k sp) (hr : Room k X.A) (hg : Gl X x) (ha : PA X (e :: es) t) (hdb : (x == ("__debug__" : Str)) = false := by decide)
    (he : starEach (e :: es) X.env = (false, eval e X.env) :: starEach es X.env := by rfl) (hpl : (backTo pos (starEach es X.env)).any (·.1) = false := by rfl) :
    PE X (.Call (.Name x p) (e :: es) [] pos) (tCall sp [] E0 t) := by
  obtain ⟨f, fd, hm, hk, hb, F⟩ := h
  exact pe_call F hr hg hm hk hb .nil pass0 ha hdb he hpl
theorem pe_ok0 (h : Ok X.prog X.w X.K X.mg X.base x ps k sp) (hr : Room k X.A) (hg : Gl X x) (hdb : (x == ("__debug__" : Str)) = false := by decide) :
    PE X (.Call (.Name x p) [] [] pos) (tCall sp [] E0 tNil) := by
  obtain ⟨f, fd, hm, hk, hb, F⟩ := h
  exact pe_call0 F hr hg hm hk hb .nil pass0 hdb
end
end Gw
namespace Gw
open PySem PySem.Spec PyProof.Rows L2
open PySem.AutoSeq1 (wpAny_loadPart')
/-! ### enumerate(a tuple) -/
abbrev tupItO (l : Addr) : Obj := { cls := .type "tuple_iterator", data := .fields #[.ref l, .int 0 0] }
abbrev enO (i : Addr) : Obj := { cls := .type "enumerate", data := .fields #[.none, .bool false, .ref i, rawInt 0, .none, .none] }
set_option maxHeartbeats 1000000 in
theorem en_meets (l : Addr) (its : Array Value) (n : Nat) (dd : Option Addr) (sl : Array (Option Value)) :
    Meets (Builtin.«enumerate.__new__» ⟨[.type "enumerate", .ref l], []⟩)
      (fun _ R s => s.heap.get? l = some { cls := .type "tuple", dict := dd, data := .seq its n, slots := sl } ∧ R (.ok (.ret (.ref (s.heap.push (tupItO l)).objs.size))) { s with heap := (s.heap.push (tupItO l)).push (enO s.heap.objs.size) }) :=
  .of_wp fun pr w A R s hyp => by
    obtain ⟨hp, g, d, tk, os⟩ := s; obtain ⟨hl, hq⟩ := hyp
    have hsub := PySem.sub_enumerate
    have hT : Heap.IsTuple (Shared.heap ⟨hp, g, d, tk, os⟩) l its := ⟨_, hl, rfl, n, rfl⟩
    wp_walk using wpAny_loadPart' hl
    refine wpAny_stack_any fun st => wpAny_pure ?_
    split
    · rename_i c _ _ _ _ _
      cases (c == Value.type "enumerate") <;> (wp_walk using wpAny_loadPart' hl, wpAny_pyIter_tuple hT; exact ⟨_, rfl, hq⟩)
    · wp_walk using wpAny_loadPart' hl, wpAny_pyIter_tuple hT
      exact ⟨_, rfl, hq⟩
theorem call_enT {prog : Program} {w : World} {A : Around} {E : Value → Shared → Prop} {s : Shared} {l : Addr} {its : Array Value} {Q : Value → Shared → Prop} (hT : s.heap.IsTuple l its)
    (h : ∀ h', IsEnum h' (s.heap.objs.size + 1) s.heap.objs.size 0 .none → h'.IsTupleIter s.heap.objs.size l 0 → (∀ b o, s.heap.get? b = some o → h'.get? b = some o) → Q (.ref (s.heap.objs.size + 1)) { s with heap := h' }) :
    wpAny (model prog w) A (call (.type "enumerate") [.ref l]) Q E s := by
  obtain ⟨⟨c, dd, dt, sl⟩, hl, hc, n, hd⟩ := hT
  have hc : c = .type "tuple" := hc
  have hd : dt = .seq its n := hd
  subst hc hd
  refine callType_new F.called_enumerate (by decide) (F.typeCall_enumerate_1 _) (F.newCall_enumerate_1 _) (fun obj => F.args_object_init_2 obj _) F.entry_enumerate_new (en_meets l its n dd sl) ⟨hl, ?_⟩
  have hz : (s.heap.push (tupItO l)).objs.size = s.heap.objs.size + 1 := Heap.size_push ..
  show _ ∧ _
  rw [hz]
  have he : IsEnum ((s.heap.push (tupItO l)).push (enO s.heap.objs.size)) (s.heap.objs.size + 1) s.heap.objs.size 0 .none := by
    have q := Heap.get?_push_size (s.heap.push (tupItO l)) (o := enO s.heap.objs.size) rfl
    rw [hz] at q
    exact q
  exact ⟨⟨_, he, rfl⟩, h _ he ⟨_, Heap.get?_push_of_some _ (Heap.get?_push_size _ rfl), rfl, rfl⟩ fun b o z => Heap.get?_push_of_some _ (Heap.get?_push_of_some _ z)⟩
def IteT (K : PySem.W.Frag) (a : Addr) : It :=
  ⟨fun i H => ∃ (xs : List V) (x : V), SqT K H a xs ∧ xs[i]? = some x,
   fun i H v H' => ∃ T x, v = .ref T ∧ H T = none ∧ H' = upd H T (.tup [.int (i : Nat), x]) ∧ ∀ xs, SqT K H a xs → xs[i]? = some x,
   fun i H => ∃ xs : List V, SqT K H a xs ∧ xs.length = i⟩
theorem turn_enT {P : Program} {w : World} {K : PySem.W.Frag} {elts : List Expr} {kk : Nat} {tpos : Pos} (a e it : Addr) :
    Turn P w K (.Tuple elts kk tpos) (IteT K a) [e, it] e (fun i h => (∃ old, IsEnum h e it ((i : Nat) : Int) old) ∧ h.IsTupleIter it a i ∧ e ≠ it) where
  mem := List.mem_cons_self
  obj := fun i h st b hb => by
    obtain ⟨⟨old, he⟩, ⟨o, ho, hc, hd⟩, _⟩ := st
    rcases List.mem_cons.mp hb with z | hb
    · rw [z]; exact ⟨_, he, fun v q => by cases q⟩
    · rw [List.mem_singleton.mp hb]
      exact ⟨o, ho, fun v q => by rw [hd] at q; cases q⟩
  keep := fun i h h' st k => let ⟨⟨old, he⟩, hi, hne⟩ := st; ⟨⟨old, k e List.mem_cons_self _ he⟩, hi.at fun o q => k it (by simp) o q, hne⟩
  item := by
    intro X hP hw hK hc i pn s τ H Ex I hf st hg
    subst hP hw hK
    obtain ⟨⟨old, he⟩, hit, hne⟩ := st
    obtain ⟨xs, x, hq, hx⟩ := hg
    obtain ⟨its, rv, p, hz⟩ := I.tuple hq
    obtain ⟨u, hu, ru⟩ := rv.get hx
    have hT : s.heap.IsTuple a its.toArray := p
    have hel : e < s.heap.objs.size := Heap.lt_size he
    have hil : it < s.heap.objs.size := by obtain ⟨_, q, _⟩ := hit; exact Heap.lt_size q
    have hta : a ≠ it := fun z => by
      obtain ⟨o1, h1, h2, _⟩ := p
      obtain ⟨o2, h3, h4, _⟩ := hit
      rw [z, h3] at h1
      cases h1
      rw [h4] at h2
      exact absurd (Value.type.inj h2) (by decide)
    have hea : e ≠ a := fun z => by
      obtain ⟨o1, h1, h2, _⟩ := p
      rw [← z, show s.heap.get? e = _ from he] at h1
      cases h1
      exact absurd (Value.type.inj h2) (by decide)
    have hlt : i < its.toArray.size := by
      have := (List.getElem?_eq_some_iff.mp hu).1
      rw [List.size_toArray]; exact this
    refine wpAny_pyNext_enum_itemD (Draws.tuple (A := X.A.in1) (I.ok.hd hc) it a hta its.toArray) he ⟨hit, hT⟩ hlt hne (by simp; exact ⟨hne, hea⟩) fun y h' tk hy ho hst' hTn hsz hk => ?_
    have ey : y = u := by
      have : its.toArray[i]? = some u := by simpa using hu
      rw [this] at hy
      exact (Option.some.inj hy).symm
    subst ey
    refine ⟨_, rfl, wpAny_letOwnedTupleGo_enum (s := { s with heap := h', toks := tk + 1 }) ho fun h'' he' sb => ?_⟩
    have hT2 : h''.get? s.heap.objs.size = some { cls := .type "tuple", data := .seq #[.int i tk, y] } := (sb.2 _ (Nat.ne_of_gt hel)).trans hTn
    have fresh : ObjOk X.prog X.w (upd H s.heap.objs.size (.tup [.int (i : Nat), x])) h'' s.heap.objs.size (.tup [.int (i : Nat), x]) :=
      ⟨by show 2 ≤ sizeLine; decide, [.int i tk, y], .cons ⟨_, rfl⟩ (.cons ru .nil), ⟨_, hT2, rfl, _, rfl⟩⟩
    have I1 : Inv X pn τ (upd H s.heap.objs.size (.tup [.int (i : Nat), x])) { s with heap := h'', toks := tk + 1 } :=
      I.turnedNew (ch := [e, it]) (fun b ob hb q => (sb.2 b (fun z => hb (z ▸ List.mem_cons_self))).trans (hk b ob (fun z => hb (z ▸ List.mem_cons_self)) (fun z => hb (by simp [z])) q)) hf (Nat.le_refl _) fresh
    refine ⟨.ref s.heap.objs.size, _, I1, rfl, ⟨_, x, rfl, I.hok.fresh (Nat.le_refl _), rfl, fun ys hy => by rw [I.tuple_inj hy hq]; exact hx⟩, ⟨⟨y, ?_⟩, hst'.1.at fun o q => (sb.2 it (Ne.symm hne)).trans q, hne⟩, fun b hb => ?_⟩
    · have e1 : ((i + 1 : Nat) : Int) = (i : Int) + 1 := by omega
      rw [e1]
      exact he'
    · have hb' : b < s.heap.objs.size := by
        rcases List.mem_cons.mp hb with z | hb
        · exact z ▸ hel
        · exact (List.mem_singleton.mp hb) ▸ hil
      rw [upd_ne (Nat.ne_of_lt hb')]
      exact (hf b hb).1
  done := by
    intro X hP hw hK hc i pn s τ H Ex I hf st hg
    subst hP hw hK
    obtain ⟨⟨old, he⟩, hit, hne⟩ := st
    obtain ⟨xs, hq, hx⟩ := hg
    obtain ⟨its, rv, p, hz⟩ := I.tuple hq
    have hl := rv.length
    have hta : a ≠ it := fun z => by
      obtain ⟨o1, h1, h2, _⟩ := p
      obtain ⟨o2, h3, h4, _⟩ := hit
      rw [z, h3] at h1
      cases h1
      rw [h4] at h2
      exact absurd (Value.type.inj h2) (by decide)
    have hn : its.toArray.size = i := by rw [List.size_toArray]; omega
    obtain ⟨f0, f1, f2, f3, f4, f5⟩ := hf it (by simp)
    exact wpAny_pyNext_enum_endD (Draws.tuple (A := X.A.in1) (I.ok.hd hc) it a hta its.toArray) he ⟨by rw [hn]; exact hit, p⟩ fun h' eb => ⟨rfl, I.turned (t' := s.toks) (fun b o hb q => eb b o hb q) f0 f1 f3 f4 f5⟩
  self := fun A i s Q E st h => let ⟨⟨_, he⟩, _⟩ := st; wpAny_pyIter_enum he h
def iEnT (K : PySem.W.Frag) (ta : TA) : TI := fun σ H R => ta σ H fun vs H1 => ∃ a xs, vs = [.ref a] ∧ SqT K H1 a xs ∧ R (IteT K a) H1
theorem pi_enumT {X : Cx} {e : Expr} {ta : TA} {p pos tpos : Pos} {elts : List Expr} {kk : Nat} (hg : Gl X "enumerate") (hm : X.mg "enumerate" = none) (ha : PA X [e] ta) (hs : starEach [e] X.env = [(false, eval e X.env)] := by rfl) :
    PI X (.Tuple elts kk tpos) (.Call (.Name "enumerate" p) [e] [] pos) (iEnT X.K ta) := by
  refine ⟨fun pn s τ H R I hyp => ?_⟩
  refine Call_ (ld_blt I hg hm boot_enumerate (PyProof.Rows.callWith_type1 (thn (ha.run pos pn s τ H _ I hyp) fun us s1 ⟨vs, H1, I1, r1, q1⟩ => ?_) hs rfl))
  obtain ⟨a, xs, ex, hq, q⟩ := q1
  subst ex
  obtain _ | ⟨r, _ | _⟩ := r1
  cases r
  obtain ⟨its, rv, p', hz⟩ := I1.tuple hq
  refine call_enT (its := its.toArray) p' fun h' he hit hk => wpAny_pyIter_enum he ?_
  have I2 : Inv X pn τ H1 { s1 with heap := h' } := I1.kept (t' := s1.toks) hk
  refine ⟨s1.heap.objs.size + 1, [s1.heap.objs.size + 1, s1.heap.objs.size], _, _, H1, rfl, I2, turn_enT a (s1.heap.objs.size + 1) s1.heap.objs.size, ⟨⟨.none, he⟩, hit, Nat.succ_ne_self _⟩, fun b hb => ?_, q⟩
  have hle : s1.heap.objs.size ≤ b := by
    rcases List.mem_cons.mp hb with z | hb
    · exact z ▸ Nat.le_add_right _ _
    · exact (List.mem_singleton.mp hb) ▸ Nat.le_refl _
  exact I1.fpOk hle (I1.hok.fresh hle)
theorem walk_enT {K : PySem.W.Frag} {a : Addr} {xs : List V} : Walk (IteT K a) xs.length (fun H => SqT K H a xs) (YPair (fun i => some (.int (i : Nat))) (fun i => xs[i]?)) := by
  refine ⟨fun i _ hi q => ⟨xs, xs[i], q, by simp [hi]⟩, fun _ q => ⟨xs, q, rfl⟩, fun i H v H' _ q y => ?_⟩
  obtain ⟨T, x, h1, h2, h3, h4⟩ := y
  exact ⟨T, .int (i : Nat), x, h1, h2, h3, rfl, h4 xs q⟩
end Gw
namespace Gw
open PySem PySem.Spec PyProof.Rows L2
/-! ### t[::-1] of a tuple -/
section
variable {prog : Program} {w : World} {A : Around} {E : Value → Shared → Prop} {s : Shared}
theorem adj_rev (n : Nat) : Builtin.Slice.sliceAdjust none none (-1) (n : Int) = ((n : Int) - 1, -1) := by
  unfold Builtin.Slice.sliceAdjust
  have h1 : ((-1 : Int) < 0) := by omega
  simp only [h1, if_true]
theorem places_rev (n : Nat) : Builtin.Slice.slicePlaces ((n : Int) - 1) (-1) (-1) = n := by
  unfold Builtin.Slice.slicePlaces
  have h1 : ¬ ((-1 : Int) > 0) := by omega
  simp only [h1, if_false]
  have h2 : ∀ z : Int, z / (- -1) = z := fun z => by rw [show (- -1 : Int) = 1 from rfl, Int.ediv_one]
  split
  · rw [h2]; omega
  · omega
theorem fm_congr {α β : Type} {f g : α → Option β} : ∀ (l : List α), (∀ a ∈ l, f a = g a) → l.filterMap f = l.filterMap g
  | [], _ => rfl
  | a :: l, h => by
    rw [List.filterMap_cons, List.filterMap_cons, h a List.mem_cons_self, fm_congr l fun b hb => h b (List.mem_cons_of_mem _ hb)]
theorem applied_rev {sl : Addr} {t : Tok} {n : Nat} {Q : Int × Int × Nat → Shared → Prop} (hs : s.heap.IsSliceOf sl .none .none (.int (-1) t)) (h : Q ((n : Int) - 1, -1, n) s) :
    wpAny (model prog w) A (Builtin.Slice.sliceApplied (.ref sl) (pure (n : Int))) Q E s := by
  obtain ⟨os, ho, hc, hd⟩ := id hs
  unfold Builtin.Slice.sliceApplied Builtin.Slice.sliceFields
  refine wpAny_bind (wpAny_bind (wpAny_field ho hd (x := .none) rfl (wpAny_bind (wpAny_field ho hd (x := .none) rfl (wpAny_bind (wpAny_field ho hd (x := .int (-1) t) rfl (wpAny_pure ?_)))))))
  refine wpAny_bind (HT.slicePart_ (.int (-1) t) ?_)
  show wpAny _ _ (if ((-1 : Int) == 0) = true then _ else _) _ _ s
  rw [if_neg (by decide)]
  refine wpAny_bind (HT.slicePart_ .none (wpAny_bind (HT.slicePart_ .none (wpAny_bind (wpAny_pure ?_)))))
  show wpAny _ _ (match Builtin.Slice.sliceAdjust none none (-1) (n : Int) with | (lo, hi) => pure (lo, (-1 : Int), Builtin.Slice.slicePlaces lo hi (-1))) _ _ s
  rw [adj_rev n]
  show wpAny _ _ (pure ((n : Int) - 1, (-1 : Int), Builtin.Slice.slicePlaces ((n : Int) - 1) (-1) (-1))) _ _ s
  rw [places_rev]
  exact wpAny_pure h
theorem pick_rev (xs : Array Value) : ((List.range xs.size).filterMap fun (k : Nat) => xs[(((xs.size : Nat) : Int) - 1 + (k : Int) * (-1)).toNat]?).toArray = xs.toList.reverse.toArray := by
  congr 1
  apply List.ext_getElem?
  intro i
  have e : (List.range xs.size).filterMap (fun (k : Nat) => xs[(((xs.size : Nat) : Int) - 1 + (k : Int) * (-1)).toNat]?) = (List.range xs.size).map (fun k => xs.getD (xs.size - 1 - k) .none) := by
    rw [← List.filterMap_eq_map']
    refine fm_congr _ fun k hk => ?_
    have hk := List.mem_range.mp hk
    have e2 : (((xs.size : Nat) : Int) - 1 + (k : Int) * (-1)).toNat = xs.size - 1 - k := by omega
    rw [e2]
    have h3 : xs.size - 1 - k < xs.size := by omega
    rw [Array.getElem?_eq_getElem h3]
    simp [Array.getD, h3]
  rw [e]
  by_cases hi : i < xs.size
  · have h3 : xs.size - 1 - i < xs.size := by omega
    rw [List.getElem?_map, List.getElem?_range hi, List.getElem?_reverse (by simpa using hi)]
    simp [Array.getD, h3]
  · rw [List.getElem?_eq_none (by simp; omega), List.getElem?_eq_none (by simp; omega)]
theorem getItem_tup_rev {t sl : Addr} {items : Array Value} {u : Tok} {Q : Value → Shared → Prop} (ht : IsTup s.heap t items) (hs : s.heap.IsSliceOf sl .none .none (.int (-1) u))
    (h : Q (.ref s.heap.objs.size) { s with heap := s.heap.push { cls := .type "tuple", data := .seq items.toList.reverse.toArray } }) (hsz : items.size ≤ sizeLine) :
    wpAny (model prog w) A (getItem (.ref t) (.ref sl)) Q E s := by
  have hz : sizeOk (.seq items.toList.reverse.toArray) := by
    show items.toList.reverse.toArray.size ≤ sizeLine
    rw [List.size_toArray, List.length_reverse, Array.length_toList]
    exact hsz
  obtain ⟨os, ho, hc, hd⟩ := id hs
  have hTs : s.TypeIs (.ref sl) "slice" := ⟨os, ho, hc⟩
  unfold getItem
  try with_reducible refine wpAny_holding ?_
  first | refine wpAny_bind (wpAny_pure ?_) | skip
  refine wpAny_bind (wpAny_sequenceKey ht.typeIs (by decide) ?_)
  refine wpAny_bind (wpAny_callSpecial?_slot (name := Str.ofString "__getitem__") ht.typeIs PyProof.Rows.slot_tuple_getitem (wpAny_call_entry PyProof.Rows.slot_tuple_getitem ht.typeIs entry_tuple_getitem ?_ (args_tuple_getitem _ _)))
  show wpAny _ _ (Builtin.Tuple.tupleItemsOf (.ref t) >>= _) _ _ s
  refine wpAny_bind (tupleItemsOf_ ht ?_)
  refine wpAny_bind (wpAny_typeOf hTs ?_)
  rw [if_pos (by decide)]
  refine wpAny_bind (applied_rev hs ?_)
  have hno : ¬ ((((items.size : Nat) : Int) - 1 == 0 && (-1 : Int) == 1 && items.size == items.size) = true) := by
    intro q
    rw [Bool.and_eq_true, Bool.and_eq_true] at q
    exact absurd q.1.2 (by decide)
  show wpAny _ _ (if (((items.size : Nat) : Int) - 1 == 0 && (-1 : Int) == 1 && items.size == items.size) = true then _ else _) _ _ s
  rw [if_neg hno, pick_rev]
  first
    | exact wpAny_bind (m := Builtin.Tuple.tupleExact _) (wpAny_newObj_type (wpAny_pure ⟨_, rfl, wpAny_pure h⟩) hz)
    | exact wpAny_bind (m := Builtin.Tuple.tupleExact _) (wpAny_newObj_type (wpAny_bind (wpAny_pure (wpAny_pure ⟨_, rfl, wpAny_pure h⟩))) hz)
    | exact wpAny_bind (wpAny_bind (m := Builtin.Tuple.tupleExact _) (wpAny_newObj_type (wpAny_pure (wpAny_pure ⟨_, rfl, wpAny_pure h⟩)) hz))
    | exact wpAny_bind (wpAny_bind (m := Builtin.Tuple.tupleExact _) (wpAny_newObj_type (wpAny_pure ⟨_, rfl, wpAny_pure h⟩) hz))
end
def tRevT (K : PySem.W.Frag) (te : TE) : TE := fun σ H Q => te σ H fun x H1 => ∃ a xs, x = .ref a ∧ SqT K H1 a xs ∧ ∀ p, H1 p = none → Q (.ref p) (upd H1 p (.tup xs.reverse))
theorem vals_rev : ∀ {xs : List V} {us : List Value}, Vals xs us → Vals xs.reverse us.reverse
  | _, _, .nil => .nil
  | _, _, .cons r t => by rw [List.reverse_cons, List.reverse_cons]; exact (vals_rev t).append (.cons r .nil)
theorem pe_revT {X : Cx} {e : Expr} {te : TE} {k : Nat} {p1 p2 p3 pos : Pos} (he : PE X e te) : PE X (.Subscript e (.Slice none none (some (.UnaryOp .USub (.Constant (.int 1) k p1) p2)) p3) pos) (tRevT X.K te) := by
  refine ⟨fun pn s τ H Q I hyp => ?_⟩
  refine Subscript_ (thn (he.run pn s τ H _ I hyp) fun v s1 ⟨x, H1, I1, r1, q1⟩ => ?_)
  obtain ⟨a, xs, ex, hx, q⟩ := q1
  subst ex
  cases r1
  have hst : PO X (some (.UnaryOp .USub (.Constant (.int 1) k p1) p2)) (tPart (tUn (rU fun i => .int (-i)) (tC (.int 1)))) := po_some (pe_un un_neg pe_int)
  refine wpAny_Slice (thn (po_none.run pn s1 τ H1 (fun o H2 => o = none ∧ H2 = H1) I1 ⟨rfl, rfl⟩) fun vl s2 ⟨l, H2, I2, pl, el, e2⟩ => ?_)
  subst el e2
  refine thn (po_none.run pn s2 τ H2 (fun o H3 => o = none ∧ H3 = H2) I2 ⟨rfl, rfl⟩) fun vu s3 ⟨u, H3, I3, pu, eu, e3⟩ => ?_
  subst eu e3
  refine thn (hst.run pn s3 τ H3 (fun o H4 => o = some (-1) ∧ H4 = H3) I3 ⟨1, rfl, -1, rfl, rfl, rfl⟩) fun vs s4 ⟨o, H4, I4, ps, eo, e4⟩ => ?_
  subst eo e4
  cases pl
  cases pu
  obtain _ | ⟨_, tk⟩ := ps
  have I5 : Inv X pn τ H4 { s4 with heap := s4.heap.push { cls := .type "slice", data := .fields #[.none, .none, .int (-1) tk] } } := I4.kept (t' := s4.toks) fun b ob z => Heap.get?_push_of_some _ z
  obtain ⟨its, r, ht, hz⟩ := I5.tuple hx
  have hlen := r.length
  show wpAny (model X.prog X.w) X.A (subscriptTail e (.Slice none none (some (.UnaryOp .USub (.Constant (.int 1) k p1) p2)) p3) (.ref a) (.ref s4.heap.objs.size)) (EP X pn τ Q) X.xe { s4 with heap := s4.heap.push { cls := .type "slice", data := .fields #[.none, .none, .int (-1) tk] } }
  refine tail_any (ops := [.ref a, .ref s4.heap.objs.size]) ht.typeIs PyProof.Rows.slot_tuple_getitem.lookup ?_ (by with_unfolding_all rfl)
  refine getItem_tup_rev ht (Heap.IsSliceOf.new _ .none .none (.int (-1) tk)) ?_ (by rw [List.size_toArray]; omega)
  have er : its.toArray.toList.reverse.toArray = its.reverse.toArray := by simp
  rw [er]
  refine ⟨.ref _, _, I5.laid (t' := s4.toks) (o := .tup xs.reverse) (fun b ob z => Heap.get?_push_of_some _ z) (Nat.le_refl _) ?_, rfl, q _ (I5.hok.fresh (Nat.le_refl _))⟩
  exact ⟨by rw [List.length_reverse]; exact hz, its.reverse, vals_rev r, ⟨_, Heap.get?_push_size _ rfl, rfl, _, rfl⟩⟩
section
variable {K : PySem.W.Frag} {σ : L2.St} {G : Hp} {te : TE} {ds : List PyData}
theorem ed_revT (h : EvD K te σ G (.tuple ds)) : EvD K (tRevT K te) σ G (.tuple ds.reverse) := fun H s Q q => h H s _ fun v G1 H1 n1 hv => by
  cases hv with
  | @tup a xs _ hs ha =>
    refine ⟨a, xs, rfl, same_tup n1.gh hs, fun p hp => ?_⟩
    have m := Nx.new (o := .tup xs.reverse) n1.gh hp
    exact q _ _ _ (n1.trans m) (.tup (SqT.of upd_same) (dpa_mono m.gg _ (dpa_reverse ha)))
end
/-! ### [.. for i, x in enumerate(t)] -/
section
variable {K : PySem.W.Frag} {σ : L2.St} {G G1 : Hp} {te tl : TE} {ds es : List PyData}
theorem LcI.lay {H1 Hc : Hp} {D T : Addr} {o : HO} (h : LcI K G1 H1 D ds Hc) (hT : Hc T = none) : LcI K G1 H1 D ds (upd Hc T o) := by
  obtain ⟨Gi, acc, n, g, e0, ha⟩ := h.ex
  have hne : D ≠ T := ne_of_none e0 hT
  exact ⟨Gi, acc, n.trans (Nx.lay n.gh hT), g, by rw [upd_ne hne]; exact e0, ha⟩
theorem en_lcEn {i j : Nat} {vs : List Nat} (f : Nat → PyData → PyData) (h : EvD K tl σ G (.tuple ds)) (hw : ∀ v u, wipe (((wipe σ vs).set i (some v)).set j (some u)) vs = wipe σ vs) (hz : ds.length ≤ sizeLine)
    (he : ∀ k d v Gi, ds[k]? = some d → Same G Gi → Dp K Gi v d → EvD K te (((wipe σ vs).set i (some (.int (k : Nat)))).set j (some v)) Gi (f k d)) :
    EvN K (tLc (iEnT K (tCons tl tNil)) (gTup K 2 (gCons (gName i) (gCons (gName j) gNil))) tYes te vs) σ G (ds.mapIdx f) := fun H s Q q =>
  h H s _ fun v G1 H1 n1 hv => by
    cases hv with
    | @tup a xs _ hs ha =>
      refine ⟨a, xs, rfl, same_tup n1.gh hs, fun D hD => ?_⟩
      refine lc_it (walk_enT (K := K) (a := a) (xs := xs)) (fun k Hc => LcI K G1 H1 D ((ds.mapIdx f).take k) Hc) (LcI.start n1.gh hD) (fun k Hc _ p => ?_) (fun k x Hc H' hk p hy => ?_) fun Hc p => ?_
      · obtain ⟨Gi, acc, n, _⟩ := p.ex
        exact same_tup (n1.gh.trans n.hh) hs
      · obtain ⟨T, x1, x2, rfl, hT, rfl, e1, e2⟩ := hy
        cases e1
        obtain ⟨dk, hdk, hdx⟩ := dpa_get ha e2
        have p' := p.lay (o := .tup [.int (k : Nat), x2]) hT
        refine ⟨T, _, rfl, SqT.of upd_same, rfl, _, _, rfl, _, _, rfl, rfl, ?_⟩
        refine ⟨hw _ _, ?_⟩
        have hlt := (List.getElem?_eq_some_iff.mp hdk).1
        refine LcI.turn (b := true) (e := f k dk) hD p' (by rw [List.length_take, List.length_mapIdx]; omega) (fun Gi g => eb_yes) (fun _ Gi g => he k dk x2 Gi hdk (n1.gg.trans g) (dp_mono g _ hdx)) fun H' pq => ?_
        have e3 : (ds.mapIdx f)[k]? = some (f k dk) := by rw [List.getElem?_mapIdx, hdk]; rfl
        rw [List.take_succ, e3]
        exact pq
      · rw [dpa_length ha, List.take_of_length_le (by rw [List.length_mapIdx]; exact Nat.le_refl _)] at p
        exact p.finN n1 hD q
end
end Gw
namespace Gw
open PySem PySem.Spec PyProof.Rows L2
/-! ### repr of data, where no repr is under way -/
def rRepr (K : PySem.W.Frag) : List V → Hp → VK → Prop := fun xs H Q => ∃ v d, xs = [v] ∧ Dp K H v d ∧ d.showable = true ∧ d.hasDict = false ∧ d.shown.length ≤ sizeLine ∧ d.depth ≤ 60 ∧ Q (.str d.shown) H
theorem cr_repr {X : Cx} (hG : X.A.guards = some []) (hu : X.A.units + 64 < cLine) : CallR X (.builtin "repr") (rRepr X.K) := by
  intro pn s τ H xs us Q I r hyp
  obtain ⟨v, d, rfl, hd, h1, h2, h3, h4, q⟩ := hyp
  obtain ⟨u, rfl, rv⟩ : ∃ u, us = [u] ∧ RelV v u := by obtain _ | ⟨r1, _ | _⟩ := r; exact ⟨_, rfl, r1⟩
  have hr := Dp.reads I d v u hd rv
  have go : ∀ (h' : Heap) (t tk : Tok), (∀ b o, s.heap.get? b = some o → h'.get? b = some o) → EP X pn τ Q (.str d.shown t) { s with heap := h', toks := tk } := fun h' t tk k => ⟨.str d.shown, H, I.kept (t' := tk) k, ⟨_, rfl⟩, q⟩
  cases hd with
  | non => cases rv; exact PySem.P.repr_of_none (go s.heap _ _ fun _ _ e => e)
  | bl b => cases rv; exact PySem.P.repr_of_bool (go s.heap _ _ fun _ _ e => e)
  | int i =>
    obtain ⟨t, rfl⟩ := rv
    exact PySem.P.repr_of_int (of_decide_eq_true h1) (go s.heap _ _ fun _ _ e => e)
  | str x =>
    obtain ⟨t, rfl⟩ := rv
    exact PySem.P.repr_of_str (go s.heap _ _ fun _ _ e => e) h3
  | lst hs ha =>
    cases rv
    obtain ⟨as, hr⟩ := hr
    exact PySem.repr_of_reads' hr h1 (fun e => by rw [h2] at e; cases e) hG (by omega) (fun _ _ e => e) (fun h' t tk k => go h' t tk k) h3
  | tup hs ha =>
    cases rv
    obtain ⟨as, hr⟩ := hr
    exact PySem.repr_of_reads' hr h1 (fun e => by rw [h2] at e; cases e) hG (by omega) (fun _ _ e => e) (fun h' t tk k => go h' t tk k) h3
/-- data that may be shown -/
structure Showy (d : PyData) : Prop where
  s : d.showable = true
  n : d.hasDict = false
  z : d.shown.length ≤ sizeLine
  p : d.depth ≤ 60
section
variable {K : PySem.W.Frag} {σ : L2.St} {G : Hp} {te : TE} {d : PyData}
theorem ed_repr (h : EvD K te σ G d) (hd : Showy d) : EvD K (tCB (rRepr K) (tCons te tNil)) σ G (.str d.shown) := fun H s Q q => h H s _ fun v G1 H1 n1 hv =>
  ⟨v, d, rfl, dp_mono n1.gh _ hv, hd.s, hd.n, hd.z, hd.p, q _ G1 H1 n1 (.str _)⟩
end
theorem ro_eqS {K : PySem.W.Frag} {i j : Str} : ROp K rEq (.str i) (.str j) (.bool (decide (i = j))) := fun G H s vx vy hx hy Q q => by
  rw [dp_str hx, dp_str hy]
  refine ⟨rfl, ?_⟩
  have e : decide (V.str i = V.str j) = decide (i = j) := by simp
  rw [e]
  exact q _ G H (Nx.refl s) (.bl _)
theorem ro_neS {K : PySem.W.Frag} {i j : Str} : ROp K rNe (.str i) (.str j) (.bool (!decide (i = j))) := fun G H s vx vy hx hy Q q => by
  rw [dp_str hx, dp_str hy]
  refine ⟨rfl, ?_⟩
  have e : decide (V.str i = V.str j) = decide (i = j) := by simp
  rw [e]
  exact q _ G H (Nx.refl s) (.bl _)

/-! ### the law's own call: told where it is made, so that what runs around is known -/
/-- the law's def, at the place where it is called: its body's reading, the script at a -/
def LawAt (P : Program) (w : World) (K : PySem.W.Frag) (mg : Str → Option Value) (x : Str) (st : Stmt) (N : List Str) (k : Nat) (f : Addr) (fd : FuncData) : Prop :=
  ∃ (S : FnScope N ["script"] (defScope st)), Fun K x x st f fd ∧ Binds K fd ["script"] [] ∧
    ∀ (base : Heap), K.In base → base.Ns mainGlobals mg → ∀ (cdv : Value) (s : Shared) (H : Hp) (a : Addr) (ns : List Int), Room k (callerA.deeper (envOfC x (defScope st) s.heap.objs.size f cdv)) → Only H → SqL K H a (ns.map V.int) → ns.length ≤ 63 →
      ∃ t, PSs (cxOf CX0 P w K mg base N x (defScope st) f cdv callerA [] s H E0).nox (defBody st) t ∧ t { nx := fun _ _ => V.non = V.bl true, rt := fun v _ => v = .bl true } (start N [.ref a]) H
/-- only the script's address may be told of in H -/
def ScriptHp (H : Hp) (a : Addr) (o : Obj) (ns : List Int) : Prop := ∀ b u, H b = some u → b = a ∧ u = .frz o (.lst (ns.map V.int))
theorem law_at {P : Program} {w : World} {K : PySem.W.Frag} {mg mb : Str → Option Value} {x : Str} {st : Stmt} {N : List Str} {k : Nat} {f a : Addr} {fd : FuncData} {s1 : Shared} {vs : List Value} {ns : List Int}
    (KX : K.In s1.heap) (hns : s1.heap.Ns mainGlobals mg) (hb : s1.heap.Ns builtinsNs mb) (hbb : ∀ y : Str, y ≠ "__name__" → mb y = bootBuiltins y) (hlim : s1.heap.NoLimit) (hgen : s1.gens = #[])
    (ha : s1.heap.get? a = some { cls := .type "list", data := .seq vs.toArray }) (hi : IntsAre vs ns) (h63 : ns.length ≤ 63) (hr : Room (k + 1) callerA) (L : LawAt P w K mg x st N k f fd) :
    codeAny (model P w) callerA (.call (.ref f) ⟨[.ref a], []⟩) (fun r s' => r = .ok (.ret (.bool true)) ∧ OldK s1.heap s'.heap ∧ s'.os = s1.os ∧ AllBare s'.gens) s1 := by
  obtain ⟨S, F, B, body⟩ := L
  have rv := vals_ints hi
  have lv := hi.length
  have hz : (ns.map V.int).length ≤ sizeLine := by rw [List.length_map]; exact Nat.le_trans h63 (by decide)
  have main : ∀ H : Hp, ScriptHp H a { cls := .type "list", data := .seq vs.toArray } ns → SqL K H a (ns.map V.int) → (H a ≠ none → K.lookup a = none) →
      codeAny (model P w) callerA (.call (.ref f) ⟨[.ref a], []⟩) (fun r s' => r = .ok (.ret (.bool true)) ∧ OldK s1.heap s'.heap ∧ s'.os = s1.os ∧ AllBare s'.gens) s1 := by
    intro H hH hS hK
    have only : Only H := fun b => by
      cases q : H b with
      | none => exact .inl rfl
      | some u => obtain ⟨_, rfl⟩ := hH b u q; exact .inr ⟨_, _, rfl⟩
    have ok : HOk P w H s1.heap := fun b u q => by
      obtain ⟨rfl, rfl⟩ := hH b u q
      exact ⟨ha, hz, vs, 0, rv, ha⟩
    have out : ∀ {b : Addr} {o : Obj}, s1.heap.get? b = some o → (b = a → H a = none) → (hidT s1.heap H).get? b = some o := fun {b o} e n => hidT_get e (by
      cases q : H b with
      | none => rfl
      | some u =>
        have e2 := (hH b u q).1
        rw [e2, n e2] at q
        cases q)
    have kin : K.In (hidT s1.heap H) := fun b o e => out (KX b o e) fun z => by
      cases q : H a with
      | none => rfl
      | some u =>
        have z2 := hK (by rw [q]; exact fun z => nomatch z)
        rw [z, z2] at e
        cases e
    have nsp : ∀ {b : Addr} {m : Str → Option Value}, s1.heap.Ns b m → (hidT s1.heap H).Ns b m := fun {b m} ⟨o, es, ep, e, d, r⟩ => ⟨o, es, ep, out e (fun z => by
      rw [z, ha] at e
      cases e
      cases d), d, r⟩
    have mod : Mod K mg (hidT s1.heap H) := ⟨kin, nsp hns, ⟨mb, nsp hb, hbb⟩, let ⟨mc, h1, h2⟩ := hlim; ⟨mc, nsp h1, h2⟩⟩
    have e0 : Env0 P w K mg (hidT s1.heap H) callerA [] s1 H := ⟨rfl, mod, fun _ _ e => of_hidT e, Nat.le_of_eq (hidT_size _ _), trivial, fun b z => absurd (show b ∈ ([] : List Addr) from z) List.not_mem_nil, ok, .of_eq hgen⟩
    obtain ⟨oc, od, kV, doc, pm, an, cdv, ct, osl, rfl, lk, hcd⟩ := F.ex
    have bt := B s1 [.ref a] KX rfl
    refine codeAny_mono (LamX.run_ofS (CX := CX0) (Q := fun v _ => v = .bl true) (E := E0) lk hcd S hr e0 bt (.cons rfl .nil : Vals [.ref a] [.ref a]) rfl fun hr2 => ?_) fun r s' hq => ?_
    · obtain ⟨t, h1, h2⟩ := body _ kin (nsp hns) cdv s1 H a ns hr2 only hS h63
      exact ⟨t, h1.nox, h2⟩
    · cases r with
      | error e => exact (show False from hq).elim
      | ok fl =>
        cases fl with
        | next => exact (show False from hq).elim
        | brk => exact (show False from hq).elim
        | cont => exact (show False from hq).elim
        | ret u =>
          obtain ⟨v, H2, hos, bare, un, ok2, ru, e⟩ := hq
          have e : v = .bl true := e
          subst e
          cases ru
          refine ⟨rfl, OldK.of_keep fun b o eb => ?_, hos, bare⟩
          cases q : H b with
          | none => exact un.keep b o eb q (fun z => nomatch z) (fun z => nomatch z)
          | some u =>
            obtain ⟨rfl, rfl⟩ := hH b u q
            obtain ⟨g1, _⟩ := ok _ _ q
            obtain ⟨g2, _⟩ := ok2 _ _ (un.frzs _ _ _ q)
            rw [eb] at g1
            cases g1
            exact g2
  cases hk : K.lookup a with
  | some o =>
    have e := KX a o hk
    rw [ha] at e
    cases e
    exact main (fun _ => none) (fun _ _ z => nomatch z) (.inr ⟨_, vs.toArray, _, hk, rfl, rfl, rfl, by rw [List.size_toArray, lv]; exact Nat.le_trans h63 (by decide), by simpa using rv⟩) (fun z => absurd rfl z)
  | none =>
    refine main (fun b => if b = a then some (.frz { cls := .type "list", data := .seq vs.toArray } (.lst (ns.map V.int))) else none) (fun b u q => ?_) (.inl (.inr ⟨_, if_pos rfl⟩)) fun _ => hk
    have q : (if b = a then some (HO.frz { cls := .type "list", data := .seq vs.toArray } (.lst (ns.map V.int))) else none) = some u := q
    by_cases hba : b = a
    · rw [if_pos hba] at q
      cases q
      exact ⟨hba, rfl⟩
    · rw [if_neg hba] at q
      cases q
end Gw
namespace Gw
open PySem PySem.Spec PyProof.Rows L2
/-- the goal that the head leaves -/
theorem walk_at {l : PySem.W.OpenLaw} {k : Nat} {q : Program} {loose : List Str} {XP : (Str → Option Value) → Heap → Prop} {YP : World → Heap → Prop} {d : DefRec} {K : Params → PySem.W.Frag} {st : Stmt} {N : List Str} (hn : l.most = some 63) (hdf : d.params.defaults = []) (hr : Room (k + 1) callerA)
    (hY : ∀ (w : World) (h : Heap), YP w h → (K w.params).In h)
    (F : ∀ (w : World) (mg : Str → Option Value) (fa : Addr) (h : Heap), (K w.params).In h → h.Ns mainGlobals mg → mg d.name = some (.ref fa) → ∃ fd : FuncData, LawAt l.prog w (K w.params) mg d.name st N k fa fd) :
    PySem.W.WalkO q loose XP YP l.row.toRowW d [] (fun f vs => PySem.call f vs) := by
  refine Att.attach_call hn hdf fun w s0 s1 mg mb fa o pm cd doc a vs ns G Y ho hd hcd hmg hobj hints hlen hg => ?_
  have KX := hY w _ Y
  obtain ⟨fd, L⟩ := F w mg fa _ KX G.T.g hmg
  exact law_at KX G.T.g G.T.b G.T.builtins G.T.nolimit hg hobj hints hlen hr L
end Gw
namespace Gw
open PySem PySem.Spec PyProof.Rows L2
/-! ### the rules with the written part named, so that they stand within a comprehension -/
def rLenQ (K : PySem.W.Frag) : List V → Hp → VK → Prop := fun xs H Q => ∃ p ys, xs = [.ref p] ∧ (SqL K H p ys ∨ SqT K H p ys) ∧ Q (.int ys.length) H
def rListQ (K : PySem.W.Frag) : List V → Hp → VK → Prop := fun xs H Q => ∃ p ys, xs = [.ref p] ∧ (SqL K H p ys ∨ SqT K H p ys) ∧ ∀ l, H l = none → Q (.ref l) (upd H l (.lst ys))
def rTupQ (K : PySem.W.Frag) : List V → Hp → VK → Prop := fun xs H Q => ∃ p ys, xs = [.ref p] ∧ ((SqL K H p ys ∧ ∀ l, H l = none → Q (.ref l) (upd H l (.tup ys))) ∨ (SqT K H p ys ∧ Q (.ref p) H))
section
variable (K : PySem.W.Frag) {X : Cx}
theorem q_len (e : X.K = K) : CallR X (.builtin "len") (rLenQ K) := by subst e; exact call_len_seq
theorem q_list (e : X.K = K) : CallR X (.type "list") (rListQ K) := by subst e; exact call_list_of
theorem q_tuple (e : X.K = K) : CallR X (.type "tuple") (rTupQ K) := by subst e; exact call_tuple_of
theorem q_isi (e : X.K = K) : CallR X (.builtin "isinstance") (rIsi K) := by subst e; exact call_isi
theorem q_all (e : X.K = K) (hc : X.calm = true) : CallR X (.builtin "all") (rAll K) := by subst e; exact cr_all hc
theorem q_any (e : X.K = K) (hc : X.calm = true) : CallR X (.builtin "any") (rAny K) := by subst e; exact cr_any hc
theorem q_min (e : X.K = K) (hc : X.calm = true) : CallR X (.builtin "min") (rMin K) := by subst e; exact cr_min hc
theorem q_repr (e : X.K = K) (hG : X.A.guards = some []) (hu : X.A.units + 64 < cLine) : CallR X (.builtin "repr") (rRepr K) := by subst e; exact cr_repr hG hu
theorem q_ixT (e : X.K = K) : IxR X (rIxT K) := by subst e; exact ix_tup
theorem q_ixL (e : X.K = K) : IxR X (rIxL K) := by subst e; exact ix_list
theorem q_slT (e : X.K = K) : SlR X (rSlA K) := by subst e; exact sl_tupA
theorem q_slL (e : X.K = K) : SlR X (rSlL K) := by subst e; exact sl_list
theorem q_catT (e : X.K = K) : OpR X (binaryOp .Add) (rCatA K) := by subst e; exact op_catA
theorem q_eqD (e : X.K = K) (hu : X.A.units + 64 < cLine) : OpR X (compareOp .Eq) (rEqD K) := by subst e; exact op_eqD hu
theorem q_neD (e : X.K = K) (hu : X.A.units + 64 < cLine) : OpR X (compareOp .NotEq) (rNeD K) := by subst e; exact op_neD hu
theorem q_in (e : X.K = K) : OpR X (compareOp .In) (rIn K false) := by subst e; exact op_in_seq
theorem q_notin (e : X.K = K) : OpR X (compareOp .NotIn) (rIn K true) := by subst e; exact op_notIn_seq
theorem q_gT {es : List Expr} {k : Nat} {pos : Pos} {t : TGs} (n : Nat) (e : X.K = K) (hc : X.calm = true) (h : PGs X es t) (hn : (assignEach es X.env).length = n := by rfl) (hst : (assignEach es X.env).findIdx? (·.1) = none := by rfl) :
    PG X (.Tuple es k pos) (gTup K n t) := by subst e; exact pg_tup hc h hn hst
theorem q_iL {tg l : Expr} {tl : TE} (e : X.K = K) (h : PE X l tl) : PI X tg l (iList K tl) := by subst e; exact pi_list h
theorem q_iT {tg l : Expr} {tl : TE} (e : X.K = K) (h : PE X l tl) : PI X tg l (iTup K tl) := by subst e; exact pi_tup h
theorem q_revT {e : Expr} {te : TE} {k : Nat} {p1 p2 p3 pos : Pos} (ek : X.K = K) (he : PE X e te) : PE X (.Subscript e (.Slice none none (some (.UnaryOp .USub (.Constant (.int 1) k p1) p2)) p3) pos) (tRevT K te) := by subst ek; exact pe_revT he
theorem q_revL {e : Expr} {te : TE} {k : Nat} {p1 p2 p3 pos : Pos} (ek : X.K = K) (he : PE X e te) : PE X (.Subscript e (.Slice none none (some (.UnaryOp .USub (.Constant (.int 1) k p1) p2)) p3) pos) (tRevL K te) := by subst ek; exact pe_revL he
theorem q_iEnT {e : Expr} {ta : TA} {p pos tpos : Pos} {elts : List Expr} {kk : Nat} (ek : X.K = K) (hg : Gl X "enumerate") (hm : X.mg "enumerate" = none) (ha : PA X [e] ta) (hs : starEach [e] X.env = [(false, eval e X.env)] := by rfl) :
    PI X (.Tuple elts kk tpos) (.Call (.Name "enumerate" p) [e] [] pos) (iEnT K ta) := by subst ek; exact pi_enumT hg hm ha hs
theorem q_iEnL {e : Expr} {ta : TA} {p pos tpos : Pos} {elts : List Expr} {kk : Nat} (ek : X.K = K) (hg : Gl X "enumerate") (hm : X.mg "enumerate" = none) (ha : PA X [e] ta) (hs : starEach [e] X.env = [(false, eval e X.env)] := by rfl) :
    PI X (.Tuple elts kk tpos) (.Call (.Name "enumerate" p) [e] [] pos) (iEnum K ta) := by subst ek; exact pi_enum hg hm ha hs
end
end Gw
namespace Gw
open PySem PySem.Spec PyProof.Rows L2
/-! ### the law's draw: a dict of a list, a number, a list, a number -/
def kvD (l c : Addr) (r t : Int) : List (Key × V) := [(.inr "large", .ref l), (.inr "rest", .int r), (.inr "cells", .ref c), (.inr "turn", .int t)]
theorem k_lr : ¬ (Sum.inr "large" : Key) = .inr "rest" := by decide +kernel
theorem k_lc : ¬ (Sum.inr "large" : Key) = .inr "cells" := by decide +kernel
theorem k_lt : ¬ (Sum.inr "large" : Key) = .inr "turn" := by decide +kernel
theorem k_rc : ¬ (Sum.inr "rest" : Key) = .inr "cells" := by decide +kernel
theorem k_rt : ¬ (Sum.inr "rest" : Key) = .inr "turn" := by decide +kernel
theorem k_ct : ¬ (Sum.inr "cells" : Key) = .inr "turn" := by decide +kernel
section
variable {H : Hp} {d l c : Addr} {r t : Int}
theorem vD_large : valV (kvD l c r t) (.inr "large") = some (.ref l) := valV_pos rfl
theorem vD_rest : valV (kvD l c r t) (.inr "rest") = some (.int r) := (valV_neg k_lr).trans (valV_pos rfl)
theorem vD_cells : valV (kvD l c r t) (.inr "cells") = some (.ref c) := (valV_neg k_lc).trans ((valV_neg k_rc).trans (valV_pos rfl))
theorem vD_turn : valV (kvD l c r t) (.inr "turn") = some (.int t) := (valV_neg k_lt).trans ((valV_neg k_rt).trans ((valV_neg k_ct).trans (valV_pos rfl)))
theorem put_some {kvs : List (Key × V)} {k : Key} {v w : V} (h : valV kvs k = some v) : putK kvs k w = kvs.map fun kv => if kv.1 = k then (kv.1, w) else kv := by
  have e := valV_any k kvs
  rw [h] at e
  unfold putK
  rw [e]
  rfl
theorem pD_rest {r' : Int} : putK (kvD l c r t) (.inr "rest") (.int r') = kvD l c r' t := by
  rw [put_some vD_rest]
  simp only [kvD, List.map_cons, List.map_nil, if_neg k_lr, if_neg (fun e => k_rc (Eq.symm e) : ¬ (Sum.inr "cells" : Key) = .inr "rest"), if_neg (fun e => k_rt (Eq.symm e) : ¬ (Sum.inr "turn" : Key) = .inr "rest"), if_true]
theorem pD_turn {t' : Int} : putK (kvD l c r t) (.inr "turn") (.int t') = kvD l c r t' := by
  rw [put_some vD_turn]
  simp only [kvD, List.map_cons, List.map_nil, if_neg k_lt, if_neg k_rt, if_neg k_ct, if_true]
theorem gD_large (h : H d = some (.dK (kvD l c r t))) : DGet H d (.str "large") (some (.ref l)) := by have g := DGet.k (k := .inr "large") h; rw [vD_large] at g; exact g
theorem gD_rest (h : H d = some (.dK (kvD l c r t))) : DGet H d (.str "rest") (some (.int r)) := by have g := DGet.k (k := .inr "rest") h; rw [vD_rest] at g; exact g
theorem gD_cells (h : H d = some (.dK (kvD l c r t))) : DGet H d (.str "cells") (some (.ref c)) := by have g := DGet.k (k := .inr "cells") h; rw [vD_cells] at g; exact g
theorem gD_turn (h : H d = some (.dK (kvD l c r t))) : DGet H d (.str "turn") (some (.int t)) := by have g := DGet.k (k := .inr "turn") h; rw [vD_turn] at g; exact g
theorem uD_rest {r' : Int} (h : H d = some (.dK (kvD l c r t))) : DPut H d (.str "rest") (.int r') (upd H d (.dK (kvD l c r' t))) := by
  have g := DPut.k (k := .inr "rest") (v := .int r') h (by show 4 < sizeLine; decide)
  rw [pD_rest] at g
  exact g
theorem uD_turn {t' : Int} (h : H d = some (.dK (kvD l c r t))) : DPut H d (.str "turn") (.int t') (upd H d (.dK (kvD l c r t'))) := by
  have g := DPut.k (k := .inr "turn") (v := .int t') h (by show 4 < sizeLine; decide)
  rw [pD_turn] at g
  exact g
end
/-- a draw stands at d, its large numbers at l, its cells at c -/
structure Drw (H : Hp) (d l c : Addr) : Prop where
  ne : l ≠ c
  at' : ∃ (r t : Int) (ls cs : List Int), H d = some (.dK (kvD l c r t)) ∧ H l = some (.lst (ls.map V.int)) ∧ H c = some (.lst (cs.map V.int)) ∧ ls.length ≤ 63 ∧ cs.length ≤ 63
/-- what a draw's deed leaves: all but d and l stand as they stood -/
structure Nd (d l : Addr) (H H' : Hp) : Prop where
  hh : ∀ a o, a ≠ d → a ≠ l → H a = some o → H' a = some o
theorem Nd.refl {d l : Addr} {H : Hp} : Nd d l H H := ⟨fun _ _ _ _ h => h⟩
theorem Nd.trans {d l : Addr} {H H1 H2 : Hp} (a : Nd d l H H1) (b : Nd d l H1 H2) : Nd d l H H2 := ⟨fun x o h1 h2 h => b.hh x o h1 h2 (a.hh x o h1 h2 h)⟩
theorem Nd.of {d l : Addr} {H H' : Hp} (s : Same H H') : Nd d l H H' := ⟨fun a o _ _ h => s a o h⟩
theorem Nd.updD {d l : Addr} {H : Hp} {o : HO} : Nd d l H (upd H d o) := ⟨fun a u h1 _ h => by rw [upd_ne h1]; exact h⟩
theorem Nd.updL {d l : Addr} {H : Hp} {o : HO} : Nd d l H (upd H l o) := ⟨fun a u _ h2 h => by rw [upd_ne h2]; exact h⟩
theorem Drw.same {H H' : Hp} {d l c : Addr} (D : Drw H d l c) (s : Same H H') : Drw H' d l c := by
  obtain ⟨r, t, ls, cs, h1, h2, h3, h4, h5⟩ := D.at'
  exact ⟨D.ne, r, t, ls, cs, s _ _ h1, s _ _ h2, s _ _ h3, h4, h5⟩
theorem Drw.dl {H : Hp} {d l c : Addr} (D : Drw H d l c) : d ≠ l ∧ d ≠ c := by
  obtain ⟨r, t, ls, cs, h1, h2, h3, h4, h5⟩ := D.at'
  exact ⟨ne_of h1 h2 (fun z => nomatch z), ne_of h1 h3 (fun z => nomatch z)⟩
/-- the view beside a draw -/
structure Vw (G H : Hp) (d l c : Addr) : Prop where
  gh : Same G H
  gd : G d = none
  gl : G l = none
  gc : G c = none
  dr : Drw H d l c
/-- one deed or many: the view grows by what is new, the draw stands -/
structure Nw (d l c : Addr) (G H G' H' : Hp) : Prop where
  gg : Same G G'
  vw : Vw G' H' d l c
  nd : Nd d l H H'
  fr : ∀ a, H a ≠ none → G' a = G a
theorem Nw.refl {d l c : Addr} {G H : Hp} (v : Vw G H d l c) : Nw d l c G H G H := ⟨Same.refl G, v, Nd.refl, fun _ _ => rfl⟩
theorem Nw.keeps {d l c : Addr} {G H G' H' : Hp} (n : Nw d l c G H G' H') {a : Addr} (h : H a ≠ none) : H' a ≠ none := by
  cases q : H a with
  | none => exact absurd q h
  | some o =>
    by_cases h1 : a = d
    · obtain ⟨r, t, ls, cs, e, _⟩ := n.vw.dr.at'
      rw [h1, e]; exact fun z => nomatch z
    · by_cases h2 : a = l
      · obtain ⟨r, t, ls, cs, _, e, _⟩ := n.vw.dr.at'
        rw [h2, e]; exact fun z => nomatch z
      · rw [n.nd.hh a o h1 h2 q]; exact fun z => nomatch z
theorem Nw.trans {d l c : Addr} {G H G1 H1 G2 H2 : Hp} (a : Nw d l c G H G1 H1) (b : Nw d l c G1 H1 G2 H2) : Nw d l c G H G2 H2 :=
  ⟨a.gg.trans b.gg, b.vw, a.nd.trans b.nd, fun x h => (b.fr x (a.keeps h)).trans (a.fr x h)⟩
theorem Nw.of {d l c : Addr} {G H G' H' : Hp} (v : Vw G H d l c) (n : Nx G H G' H') : Nw d l c G H G' H' := by
  obtain ⟨r, t, ls, cs, h1, h2, h3, h4, h5⟩ := v.dr.at'
  exact ⟨n.gg, ⟨n.gh, (n.fr d (ne_none h1)).trans v.gd, (n.fr l (ne_none h2)).trans v.gl, (n.fr c (ne_none h3)).trans v.gc, v.dr.same n.hh⟩, Nd.of n.hh, n.fr⟩
/-- a deed upon the draw alone -/
theorem Nw.draw {d l c : Addr} {G H H' : Hp} (v : Vw G H d l c) (n : Nd d l H H') (D : Drw H' d l c) : Nw d l c G H G H' :=
  ⟨Same.refl G, ⟨fun a o e => n.hh a o (fun z => by rw [z, v.gd] at e; cases e) (fun z => by rw [z, v.gl] at e; cases e) (v.gh a o e), v.gd, v.gl, v.gc, D⟩, n, fun _ _ => rfl⟩
/-! ### the promises of the draw's defs -/
def spBegun (K : PySem.W.Frag) : Sp := fun vs H Q _ => ∃ (a : Addr) (ns : List Int), vs = [.ref a] ∧ SqL K H a (ns.map V.int) ∧ ns.length ≤ 63 ∧ ∀ d l c H', Same H H' → H d = none → H l = none → H c = none → Drw H' d l c → Q (.ref d) H'
def spMixed : Sp := fun vs H Q _ => ∃ d l c, vs = [.ref d] ∧ Drw H d l c ∧ ∀ i H', Nd d l H H' → Drw H' d l c → Q (.int i) H'
def spTake : Sp := fun vs H Q _ => ∃ d l c n, vs = [.ref d, .int n] ∧ Drw H d l c ∧ 0 < n ∧ n < 1000000000 ∧ ∀ (k : Int) H', 0 ≤ k → k < n → Nd d l H H' → Drw H' d l c → Q (.int k) H'
def spPick (K : PySem.W.Frag) : Sp := fun vs H Q _ => ∃ d l c a xs, vs = [.ref d, .ref a] ∧ Drw H d l c ∧ a ≠ l ∧ SqL K H a xs ∧ 0 < xs.length ∧ xs.length < 1000000 ∧ ∀ v H', v ∈ xs → Nd d l H H' → Drw H' d l c → Q v H'
/-- several ways that meet behind a statement -/
theorem seq_cut {t u : TS} {D : Ends} {σ : L2.St} {H : Hp} (P : L2.St → Hp → Prop) (hu : ∀ σ' H', P σ' H' → u D σ' H') (ht : (∀ σ' H', P σ' H' → u D σ' H') → t { D with nx := u D } σ H) : tSeq t u D σ H := ht hu
theorem seqIx {k n : Nat} (h : k < n) : seqIndex? (k : Int) n = some k := by
  unfold seqIndex?
  simp
  omega
theorem if_off {A B : Hp → Prop} {b : Bool} {H : Hp} (hb : b = false) (h : B H) : if b = true then A H else B H := by
  subst hb
  exact iteF h
theorem if_on {A B : Hp → Prop} {b : Bool} {H : Hp} (hb : b = true) (h : A H) : if b = true then A H else B H := by
  subst hb
  exact iteT h
theorem fmod_in {i j : Int} (h : 0 < j) : 0 ≤ i.fmod j ∧ i.fmod j < j := by
  rw [Int.fmod_eq_emod_of_nonneg _ (Int.le_of_lt h)]
  exact ⟨Int.emod_nonneg _ (by omega), Int.emod_lt_of_pos _ h⟩
theorem abs_if (i : Int) : (if i < 0 then -i else i) = ((i.natAbs : Nat) : Int) := by
  split <;> omega
end Gw
namespace Gw
open PySem PySem.Spec PyProof.Rows L2
theorem k_rl : ¬ (Sum.inr "rest" : Key) = .inr "large" := fun e => k_lr e.symm
theorem merge_kvD (l c : Addr) (r t : Int) : mergeK [] (kvD l c r t) = kvD l c r t := by
  unfold mergeK kvD
  simp only [List.foldl_cons, List.foldl_nil]
  rw [putK_new (kvs := []) _ valV_nil]
  rw [putK_new (kvs := [] ++ [_]) _ ((valV_neg (show ¬ (Sum.inr "large" : Key) = .inr "rest" from k_lr)).trans valV_nil)]
  rw [putK_new (kvs := [] ++ [_] ++ [_]) _ ((valV_neg k_lc).trans ((valV_neg k_rc).trans valV_nil))]
  rw [putK_new (kvs := [] ++ [_] ++ [_] ++ [_]) _ ((valV_neg k_lt).trans ((valV_neg k_rt).trans ((valV_neg k_ct).trans valV_nil)))]
  rfl
/-- ints told one by one -/
theorem ints_get {xs : List Int} {i : Nat} {v : V} (h : (xs.map V.int)[i]? = some v) : ∃ n, xs[i]? = some n ∧ v = .int n := by
  rw [List.getElem?_map] at h
  cases e : xs[i]? with
  | none => rw [e] at h; cases h
  | some n => rw [e] at h; exact ⟨n, rfl, (Option.some.inj h).symm⟩
theorem shaped_ints (zs : List Int) : SeqAt.shaped (.list (zs.map .int)) = true := by
  have e1 : ∀ zs : List Int, PyData.canLayAll0 (zs.map .int) = true := fun zs => by
    induction zs with
    | nil => rfl
    | cons z zs ih => rw [List.map_cons, PyData.canLayAll0, ih]; rfl
  have e2 : ∀ zs : List Int, PyData.depthAll (zs.map .int) = 0 := fun zs => by
    induction zs with
    | nil => rfl
    | cons z zs ih => rw [List.map_cons, PyData.depthAll, ih]; rfl
  unfold SeqAt.shaped
  rw [Bool.and_eq_true]
  refine ⟨?_, decide_eq_true ?_⟩
  · rw [PyData.canLay0]; exact e1 zs
  · rw [PyData.depth, e2 zs]; decide
theorem shaped_intsT (zs : List Int) : SeqAt.shaped (.tuple (zs.map .int)) = true := by
  have e1 : ∀ zs : List Int, PyData.canLayAll0 (zs.map .int) = true := fun zs => by
    induction zs with
    | nil => rfl
    | cons z zs ih => rw [List.map_cons, PyData.canLayAll0, ih]; rfl
  have e2 : ∀ zs : List Int, PyData.depthAll (zs.map .int) = 0 := fun zs => by
    induction zs with
    | nil => rfl
    | cons z zs ih => rw [List.map_cons, PyData.depthAll, ih]; rfl
  unfold SeqAt.shaped
  rw [Bool.and_eq_true]
  refine ⟨?_, decide_eq_true ?_⟩
  · rw [PyData.canLay0]; exact e1 zs
  · rw [PyData.depth, e2 zs]; decide
/-- left != [] -/
theorem ne_nil {K : PySem.W.Frag} {σ : L2.St} {H : Hp} {i : Nat} {p : Addr} {zs : List Int} {Q : V → Hp → Prop} (hσ : σ[i]? = some (some (.ref p))) (hp : H p = some (.lst (zs.map V.int)))
    (q : ∀ H', Same H H' → (∀ a, a ≠ p → H' a ≠ H a → H a = none) → Q (.bl (!zs.isEmpty)) H') : tOp (rNeD K) (tVar i) (tLst tNil) σ H Q := by
  refine ⟨_, hσ, Nat.zero_le _, fun x hx => ?_⟩
  have hpx : p ≠ x := ne_of_none hp hx
  have s : Same H (upd H x (.lst [])) := fun a o e => by rw [upd_ne (ne_of_none e hx)]; exact e
  refine ⟨.list (zs.map .int), .list [], .lst (SqL.of (s _ _ hp)) (dpa_ints zs), .lst (SqL.of upd_same) .nil, shaped_ints zs, by decide, ?_⟩
  have e : (!PyData.eqv (.list (zs.map .int)) (.list [])) = !zs.isEmpty := by
    cases zs with
    | nil => rfl
    | cons z zs => rfl
  rw [e]
  refine q _ s fun a h1 h2 => ?_
  by_cases hax : a = x
  · rw [hax]; exact hx
  · rw [upd_ne hax] at h2; exact absurd rfl h2
theorem seq_asg {te : TE} {i : Nat} {u : TS} {D : Ends} {σ : L2.St} {H : Hp} (h : te σ H fun x H1 => u D (σ.set i (some x)) H1) : tSeq (tAsg te (gName i)) u D σ H := h
theorem tp_c {k : V} {tv : TE} {trs : List (TE × TE)} {σ : L2.St} {H : Hp} {Q : List (V × V) → Hp → Prop} (h : tv σ H fun v H2 => tPairs trs σ H2 fun ps H3 => Q ((k, v) :: ps) H3) : tPairs ((tC k, tv) :: trs) σ H Q := h
theorem tp_cc {k v : V} {trs : List (TE × TE)} {σ : L2.St} {H : Hp} {Q : List (V × V) → Hp → Prop} (h : tPairs trs σ H fun ps H3 => Q ((k, v) :: ps) H3) : tPairs ((tC k, tC v) :: trs) σ H Q := h
theorem tyes {σ : L2.St} {H : Hp} {A B : Hp → Prop} (h : A H) : tYes σ H fun b H3 => if b = true then A H3 else B H3 := h
theorem map_eraseIdx {α β : Type} (f : α → β) : ∀ (l : List α) (j : Nat), (l.map f).eraseIdx j = (l.eraseIdx j).map f
  | [], _ => rfl
  | _ :: _, 0 => rfl
  | a :: l, j + 1 => by
    show f a :: (l.map f).eraseIdx j = f a :: (l.eraseIdx j).map f
    rw [map_eraseIdx f l j]
theorem erase_perm {α : Type} : ∀ (l : List α) (j : Nat) (h : j < l.length), (l[j] :: l.eraseIdx j).Perm l
  | a :: l, 0, _ => List.Perm.refl _
  | a :: l, j + 1, h => by
    have h' : j < l.length := by rw [List.length_cons] at h; omega
    show (l[j] :: a :: l.eraseIdx j).Perm (a :: l)
    exact (List.Perm.swap a l[j] _).trans ((erase_perm l j h').cons a)
/-! ### promises of the law's makers -/
def spShuf (K : PySem.W.Frag) : Sp := fun vs H Q _ => ∃ (d l c a : Addr) (ns : List Int), vs = [.ref d, .ref a] ∧ Drw H d l c ∧ SqL K H a (ns.map V.int) ∧ ns.length ≤ 63 ∧
  ∀ (p : Addr) (ms : List Int) (H' : Hp), ms.Perm ns → H p = none → H' p = some (.lst (ms.map V.int)) → Nd d l H H' → Drw H' d l c → Q (.ref p) H'
/-- letters and what undoes them -/
structure IsBk (bs : List Int) : Prop where
  two : 2 ≤ bs.length
  six : bs.length ≤ 12
  inv : ∀ k : Nat, k < bs.length → ∃ j : Nat, bs[k]? = some (j : Int) ∧ bs[j]? = some (k : Int)
def spBack : Sp := fun vs H Q _ => ∃ d l c, vs = [.ref d] ∧ Drw H d l c ∧ ∀ (p : Addr) (bs : List Int) (H' : Hp), IsBk bs → bs.length ≤ 6 → H p = none → H' p = some (.tup (bs.map V.int)) → Nd d l H H' → Drw H' d l c → Q (.ref p) H'
def Letters (n : Nat) (ws : List Int) : Prop := ∀ x ∈ ws, 0 ≤ x ∧ x < (n : Int)
def spWord (K : PySem.W.Frag) : Sp := fun vs H Q _ => ∃ (d l c b : Addr) (xs : List V) (m : Int), vs = [.ref d, .ref b, .int m] ∧ Drw H d l c ∧ SqT K H b xs ∧ 0 < xs.length ∧ xs.length < 1000 ∧ 0 ≤ m ∧ m < 100000 ∧
  ∀ (p : Addr) (ws : List Int) (H' : Hp), (ws.length : Int) ≤ m → Letters xs.length ws → H p = none → H' p = some (.tup (ws.map V.int)) → Nd d l H H' → Drw H' d l c → Q (.ref p) H'
theorem Nd.seqT {K : PySem.W.Frag} {d l c b : Addr} {H H' : Hp} {xs : List V} (n : Nd d l H H') (D : Drw H d l c) (h : SqT K H b xs) : SqT K H' b xs := by
  obtain ⟨r, t, ls, cs, h1, h2, h3, h4, h5⟩ := D.at'
  rcases h with (e | ⟨o, e⟩) | e
  · exact SqT.of (n.hh b _ (ne_of e h1 (fun z => nomatch z)) (ne_of e h2 (fun z => nomatch z)) e)
  · exact .inl (.inr ⟨o, n.hh b _ (ne_of e h1 (fun z => nomatch z)) (ne_of e h2 (fun z => nomatch z)) e⟩)
  · exact .inr e
theorem Drw.upd {d l c p : Addr} {H : Hp} {o : HO} (D : Drw H d l c) (h1 : p ≠ d) (h2 : p ≠ l) (h3 : p ≠ c) : Drw (L2.upd H p o) d l c := by
  obtain ⟨r, t, ls, cs, e1, e2, e3, h4, h5⟩ := D.at'
  exact ⟨D.ne, r, t, ls, cs, by rw [upd_ne (Ne.symm h1)]; exact e1, by rw [upd_ne (Ne.symm h2)]; exact e2, by rw [upd_ne (Ne.symm h3)]; exact e3, h4, h5⟩
/-- an address that is new is none of the draw's -/
theorem Drw.off {d l c p : Addr} {H : Hp} (D : Drw H d l c) (hp : H p = none) : p ≠ d ∧ p ≠ l ∧ p ≠ c := by
  obtain ⟨r, t, ls, cs, e1, e2, e3, h4, h5⟩ := D.at'
  exact ⟨Ne.symm (ne_of_none e1 hp), Ne.symm (ne_of_none e2 hp), Ne.symm (ne_of_none e3 hp)⟩
end Gw
namespace Gw
open PySem PySem.Spec PyProof.Rows L2
/-! ### letters that are paired off -/
abbrev vN (l : List Nat) : List V := l.map fun (k : Nat) => V.int (k : Int)
theorem vN_ints (l : List Nat) : vN l = (l.map fun (k : Nat) => (k : Int)).map V.int := by rw [List.map_map]; rfl
theorem vN_last (l : List Nat) (x : Nat) : (vN (l ++ [x]))[(vN (l ++ [x])).length - 1]? = some (V.int (x : Int)) := by
  have e : (vN (l ++ [x])).length - 1 = (vN l).length := by simp [vN]
  rw [e]
  simp [vN]
theorem vN_drop (l : List Nat) (x : Nat) : (vN (l ++ [x])).dropLast = vN l := by simp [vN]
theorem last_of {α : Type} (l : List α) (h : l ≠ []) : ∃ m x, l = m ++ [x] := ⟨l.dropLast, l.getLast h, (List.dropLast_concat_getLast h).symm⟩
structure Pr (n : Nat) (L : List Nat) (fnd : List Int) : Prop where
  nd : L.Nodup
  lt : ∀ x ∈ L, x < n
  len : fnd.length = n
  inv : ∀ k, k < n → k ∉ L → ∃ j, j < n ∧ j ∉ L ∧ fnd[k]? = some (j : Int) ∧ fnd[j]? = some (k : Int)
theorem Pr.pair {n : Nat} {L L' : List Nat} {fnd : List Int} {x y : Nat} (P : Pr n L fnd) (hx : x ∈ L) (hy : y ∈ L) (hn : L'.Nodup) (hm : ∀ z, z ∈ L' ↔ z ∈ L ∧ z ≠ x ∧ z ≠ y) : Pr n L' ((fnd.set x (y : Int)).set y (x : Int)) := by
  have xl := P.lt x hx
  have yl := P.lt y hy
  have atY : ((fnd.set x (y : Int)).set y (x : Int))[y]? = some (x : Int) := by
    rw [List.getElem?_set_self (by rw [List.length_set, P.len]; exact yl)]
  have atX : ((fnd.set x (y : Int)).set y (x : Int))[x]? = some (y : Int) := by
    by_cases e : x = y
    · subst e; exact atY
    · rw [List.getElem?_set_ne (Ne.symm e), List.getElem?_set_self (by rw [P.len]; exact xl)]
  have other : ∀ k, k ≠ x → k ≠ y → ((fnd.set x (y : Int)).set y (x : Int))[k]? = fnd[k]? := fun k h1 h2 => by
    rw [List.getElem?_set_ne (Ne.symm h2), List.getElem?_set_ne (Ne.symm h1)]
  refine ⟨hn, fun z hz => P.lt z ((hm z).mp hz).1, by rw [List.length_set, List.length_set, P.len], fun k hk hkL => ?_⟩
  have hxL : x ∉ L' := fun z => ((hm x).mp z).2.1 rfl
  have hyL : y ∉ L' := fun z => ((hm y).mp z).2.2 rfl
  by_cases h1 : k = x
  · subst h1; exact ⟨y, yl, hyL, atX, atY⟩
  by_cases h2 : k = y
  · subst h2; exact ⟨x, xl, hxL, atY, atX⟩
  have hkL2 : k ∉ L := fun z => hkL ((hm k).mpr ⟨z, h1, h2⟩)
  obtain ⟨j, j1, j2, j3, j4⟩ := P.inv k hk hkL2
  have n1 : j ≠ x := fun z => j2 (z ▸ hx)
  have n2 : j ≠ y := fun z => j2 (z ▸ hy)
  exact ⟨j, j1, fun z => j2 ((hm j).mp z).1, by rw [other k h1 h2]; exact j3, by rw [other j n1 n2]; exact j4⟩
theorem Pr.done {n : Nat} {fnd : List Int} (P : Pr n [] fnd) (h2 : 2 ≤ n) (h12 : n ≤ 12) : IsBk fnd :=
  ⟨by rw [P.len]; exact h2, by rw [P.len]; exact h12, fun k hk => by
    obtain ⟨j, _, _, j3, j4⟩ := P.inv k (by rw [← P.len]; exact hk) List.not_mem_nil
    exact ⟨j, j3, j4⟩⟩
theorem Pr.start {n : Nat} {L : List Nat} (p : L.Perm (List.range n)) : Pr n L (List.replicate n 0) :=
  ⟨p.nodup_iff.mpr List.nodup_range, fun x hx => List.mem_range.mp (p.mem_iff.mp hx), List.length_replicate, fun k hk hkL => absurd (p.mem_iff.mpr (List.mem_range.mpr hk)) hkL⟩
theorem perm_nats {n : Nat} {ms : List Int} (p : ms.Perm ((List.range n).map fun (k : Nat) => (k : Int))) : ∃ L : List Nat, ms = L.map (fun (k : Nat) => (k : Int)) ∧ L.Perm (List.range n) := by
  refine ⟨ms.map Int.toNat, ?_, ?_⟩
  · rw [List.map_map]
    refine (List.map_id ms).symm.trans (List.map_congr_left fun x hx => ?_)
    obtain ⟨k, _, e⟩ := List.mem_map.mp (p.mem_iff.mp hx)
    rw [← e]; rfl
  · refine (p.map Int.toNat).trans ?_
    rw [List.map_map]
    have : (List.range n).map (Int.toNat ∘ fun (k : Nat) => (k : Int)) = List.range n := (List.map_congr_left fun x _ => rfl).trans (List.map_id _)
    rw [this]
theorem ix_nat {n k : Nat} (h : k < n) : ixN n (k : Int) = some k := by
  unfold ixN
  rw [if_pos (by omega), if_pos (by omega), Int.toNat_natCast]
end Gw
namespace Gw
open PySem PySem.Spec PyProof.Rows L2
/-! ### letters, in plain words -/
def isIntK : PyData → Bool | .int _ => true | .bool _ => true | _ => false
def isBoolK : PyData → Bool | .bool _ => true | _ => false
def isTupK : PyData → Bool | .tuple _ => true | _ => false
def isNum : PyData → Bool | .int _ => true | _ => false
def inR (lo hi : Int) : PyData → Bool | .int i => decide (lo ≤ i) && decide (i ≤ hi) | _ => false
def isRow (n : Int) : PyData → Bool | .tuple ds => ds.all (inR 0 (n - 1)) | _ => false
def isShort (n m : Int) : PyData → Bool | .tuple ds => decide ((ds.length : Int) ≤ m) && ds.all (inR 0 (n - 1)) | _ => false
def toI : PyData → Int | .int i => i | _ => 0
theorem kit_int : ∀ x : PyData, kitB (tyOf x) "int" = some (isIntK x)
  | .none => (by decide +kernel : kitB "NoneType" "int" = some false)
  | .bool _ => (by decide +kernel : kitB "bool" "int" = some true)
  | .int _ => (by decide +kernel : kitB "int" "int" = some true)
  | .str _ => (by decide +kernel : kitB "str" "int" = some false)
  | .list _ => (by decide +kernel : kitB "list" "int" = some false)
  | .tuple _ => (by decide +kernel : kitB "tuple" "int" = some false)
  | .dict _ => (by decide +kernel : kitB "dict" "int" = some false)
theorem kit_bool : ∀ x : PyData, kitB (tyOf x) "bool" = some (isBoolK x)
  | .none => (by decide +kernel : kitB "NoneType" "bool" = some false)
  | .bool _ => (by decide +kernel : kitB "bool" "bool" = some true)
  | .int _ => (by decide +kernel : kitB "int" "bool" = some false)
  | .str _ => (by decide +kernel : kitB "str" "bool" = some false)
  | .list _ => (by decide +kernel : kitB "list" "bool" = some false)
  | .tuple _ => (by decide +kernel : kitB "tuple" "bool" = some false)
  | .dict _ => (by decide +kernel : kitB "dict" "bool" = some false)
theorem kit_tup : ∀ x : PyData, kitB (tyOf x) "tuple" = some (isTupK x)
  | .none => (by decide +kernel : kitB "NoneType" "tuple" = some false)
  | .bool _ => (by decide +kernel : kitB "bool" "tuple" = some false)
  | .int _ => (by decide +kernel : kitB "int" "tuple" = some false)
  | .str _ => (by decide +kernel : kitB "str" "tuple" = some false)
  | .list _ => (by decide +kernel : kitB "list" "tuple" = some false)
  | .tuple _ => (by decide +kernel : kitB "tuple" "tuple" = some true)
  | .dict _ => (by decide +kernel : kitB "dict" "tuple" = some false)
/-- a tuple that may stand in memory -/
def Sized : PyData → Prop | .tuple ds => ds.length ≤ sizeLine | _ => True
def bkAt (ds : List PyData) (k : Nat) (d : PyData) : Bool := PyData.eqv (ds.getD (toI d).toNat .none) (.int (k : Int))
def isBackD : PyData → Bool
  | .tuple ds => decide (2 ≤ ds.length) && decide (ds.length ≤ 12) && (ds.all (inR 0 ((ds.length : Int) - 1)) && (ds.mapIdx (bkAt ds)).all id)
  | _ => false
theorem not_t {b : Bool} (h : (!b) = true) : b = false := by cases b <;> first | rfl | cases h
theorem not_f {b : Bool} (h : (!b) = false) : b = true := by cases b <;> first | rfl | cases h
theorem shaped_int (i : Int) : SeqAt.shaped (.int i) = true := by simp [SeqAt.shaped, PyData.canLay0, PyData.depth]
theorem mapIdx_then {α β γ : Type} (f : Nat → α → β) (g : β → γ) (l : List α) : (l.mapIdx f).map g = l.mapIdx fun i a => g (f i a) := by
  refine List.ext_getElem? fun i => ?_
  rw [List.getElem?_map, List.getElem?_mapIdx, List.getElem?_mapIdx, Option.map_map]
  rfl
theorem inR_int {lo hi : Int} {d : PyData} (h : inR lo hi d = true) : ∃ i, d = .int i ∧ lo ≤ i ∧ i ≤ hi := by
  cases d with
  | int i =>
    have h : (decide (lo ≤ i) && decide (i ≤ hi)) = true := h
    rw [Bool.and_eq_true, decide_eq_true_eq, decide_eq_true_eq] at h
    exact ⟨i, rfl, h.1, h.2⟩
  | _ => cases h
theorem all_inR {n : Nat} {ws : List Int} (h : Letters n ws) : (ws.map PyData.int).all (inR 0 ((n : Int) - 1)) = true := by
  rw [List.all_eq_true]
  intro d hd
  obtain ⟨x, hx, rfl⟩ := List.mem_map.mp hd
  have := h x hx
  show (decide (0 ≤ x) && decide (x ≤ (n : Int) - 1)) = true
  rw [decide_eq_true this.1, decide_eq_true (by omega)]
  rfl
theorem IsBk.letters {bs : List Int} (B : IsBk bs) : Letters bs.length bs := by
  intro x hx
  obtain ⟨k, hk, e⟩ := List.mem_iff_getElem.mp hx
  obtain ⟨j, j1, j2⟩ := B.inv k hk
  rw [List.getElem?_eq_getElem hk, e] at j1
  have hj := (List.getElem?_eq_some_iff.mp j2).1
  have := Option.some.inj j1
  omega
theorem IsBk.is {bs : List Int} (B : IsBk bs) : isBackD (.tuple (bs.map .int)) = true := by
  show (decide (2 ≤ (bs.map PyData.int).length) && decide ((bs.map PyData.int).length ≤ 12) && ((bs.map PyData.int).all (inR 0 (((bs.map PyData.int).length : Int) - 1)) && ((bs.map PyData.int).mapIdx (bkAt (bs.map PyData.int))).all id)) = true
  rw [List.length_map, decide_eq_true B.two, decide_eq_true B.six, all_inR B.letters]
  simp only [Bool.true_and, List.all_eq_true]
  intro b hb
  obtain ⟨k, hk, e⟩ := List.mem_iff_getElem.mp hb
  rw [List.length_mapIdx, List.length_map] at hk
  rw [List.getElem_mapIdx, List.getElem_map] at e
  obtain ⟨j, j1, j2⟩ := B.inv k hk
  rw [List.getElem?_eq_getElem hk] at j1
  have e1 : bs[k] = (j : Int) := Option.some.inj j1
  rw [← e]
  show PyData.eqv ((bs.map PyData.int).getD (toI (.int bs[k])).toNat .none) (.int (k : Int)) = true
  rw [e1]
  show PyData.eqv ((bs.map PyData.int).getD j .none) (.int (k : Int)) = true
  rw [List.getD_eq_getElem?_getD, List.getElem?_map, j2]
  show ((k : Int) == (k : Int)) = true
  exact beq_self_eq_true _
/-! ### neighbours taken out -/
def frSt (bs : List Int) (left : List Int) (x : Int) : List Int := if left ≠ [] ∧ left.getLast? = bs[x.toNat]? then left.dropLast else left ++ [x]
def frI (bs ws : List Int) : List Int := ws.foldl (frSt bs) []
theorem frI_take {bs ws : List Int} {i : Nat} {x : Int} (h : ws[i]? = some x) : frI bs (ws.take (i + 1)) = frSt bs (frI bs (ws.take i)) x := by
  unfold frI
  rw [List.take_succ, h, List.foldl_append]
  rfl
theorem frSt_len {bs left : List Int} {x : Int} : (frSt bs left x).length ≤ left.length + 1 := by
  unfold frSt
  split
  · rw [List.length_dropLast]; omega
  · rw [List.length_append]; exact Nat.le_refl _
theorem frI_len (bs : List Int) : ∀ (ws left : List Int), (ws.foldl (frSt bs) left).length ≤ left.length + ws.length
  | [], _ => Nat.le_refl _
  | x :: ws, left => by
    rw [List.foldl_cons, List.length_cons]
    have h1 := frI_len bs ws (frSt bs left x)
    have h2 := frSt_len (bs := bs) (left := left) (x := x)
    omega
theorem frSt_let {bs left : List Int} {x : Int} {n : Nat} (h : Letters n left) (hx : 0 ≤ x ∧ x < (n : Int)) : Letters n (frSt bs left x) := by
  unfold frSt
  split
  · exact fun y hy => h y ((List.dropLast_sublist left).subset hy)
  · intro y hy
    rcases List.mem_append.mp hy with hy | hy
    · exact h y hy
    · rw [List.mem_singleton.mp hy]; exact hx
theorem frI_let {bs : List Int} {n : Nat} : ∀ (ws left : List Int), Letters n left → Letters n ws → Letters n (ws.foldl (frSt bs) left)
  | [], _, h, _ => h
  | x :: ws, left, h, hw => by
    rw [List.foldl_cons]
    exact frI_let ws _ (frSt_let h (hw x List.mem_cons_self)) fun y hy => hw y (List.mem_cons_of_mem _ hy)
end Gw
namespace Gw
open PySem PySem.Spec PyProof.Rows L2
/-! ### min by a key that is a def: its length and itself, of rows of ints -/
/-- the promise of the key -/
def spRank (K : PySem.W.Frag) : Sp := fun vs H Q _ => ∃ (a : Addr) (xs : List V), vs = [.ref a] ∧ SqT K H a xs ∧ ∀ p, H p = none → Q (.ref p) (upd H p (.tup [.int xs.length, .ref a]))
def keyD (r : List Int) : PyData := .tuple [.int r.length, .tuple (r.map .int)]
def btR (rows : Nat → List Int) (i j : Nat) : Bool := PySem.W.dataLt (keyD (rows i)) (keyD (rows j))
def only1 (H : Hp) (r : Addr) : Hp := fun b => if b = r then H b else none
theorem only1_ne {H : Hp} {r b : Addr} (h : b ≠ r) : only1 H r b = none := if_neg h
theorem only1_same {H : Hp} {r : Addr} : only1 H r r = H r := if_pos rfl
theorem only1_none {H : Hp} {r b : Addr} (h : H b = none) : only1 H r b = none := by
  unfold only1
  split
  · exact h
  · rfl
theorem only1_le {H : Hp} {r b : Addr} {o : HO} (h : only1 H r b = some o) : b = r ∧ H b = some o := by
  unfold only1 at h
  split at h
  · exact ⟨by assumption, h⟩
  · cases h
theorem only1_tup {K : PySem.W.Frag} {H : Hp} {r : Addr} {xs : List V} (h : SqT K H r xs) : SqT K (only1 H r) r xs := by
  unfold SqT Rd at h ⊢
  rw [only1_same]
  exact h
section
variable {X : Cx} {pins : List (Addr × Obj)} {σ : L2.St} {H : Hp} {s : Shared} {f : Addr} {fd : FuncData} {ps : List Str} {k : Nat}
theorem tup_obj (I : Inv X pins σ H s) {r : Addr} {xs : List V} {u : HO} (h : SqT X.K H r xs) (e : H r = some u) : u = .tup xs ∨ ∃ o, u = .frz o (.tup xs) := by
  rcases h with (h | ⟨o, h⟩) | ⟨o, its, n, hk, _⟩
  · rw [e] at h; exact .inl (Option.some.inj h)
  · rw [e] at h; exact .inr ⟨o, Option.some.inj h⟩
  · have := (I.bs r o (I.ok.mod.kin r o hk)).2
    rw [e] at this; cases this
theorem only1_hok (I : Inv X pins σ H s) {r : Addr} {xs : List V} (h : SqT X.K H r xs) : HOk X.prog X.w (only1 H r) s.heap := fun b u e => by
  obtain ⟨rfl, e1⟩ := only1_le e
  have ok := I.hok b u e1
  rcases tup_obj I h e1 with rfl | ⟨o, rfl⟩
  · exact ok
  · exact ok
/-- the key is asked of one item: all else stands -/
theorem key_turn (F : FnOk X.prog X.w X.K X.mg X.base CX0 k f fd ps (spRank X.K)) (hb : Binds X.K fd ps []) (hr : Room k X.A.in1) (I : Inv X pins σ H s) {r : Addr} {ns : List Int} (h : SqT X.K H r (ns.map V.int)) {Q E : Value → Shared → Prop}
    (q : ∀ (p : Addr) (t : Tok) (s' : Shared), Inv X pins σ H s' → s.heap.get? p = none → IsTup s'.heap p #[.int ns.length t, .ref r] → (∀ b o, b ≠ r → s.heap.get? b = some o → ∃ sl, s'.heap.get? b = some { o with slots := sl }) →
      (∀ b o, H b = none → s.heap.get? b = some o → ∃ sl, s'.heap.get? b = some { o with slots := sl }) → (∀ b o, H b = none → b ∉ frs X.stack → s.heap.get? b = some o → s'.heap.get? b = some o) → Q (.ref p) s') :
    wpAny (model X.prog X.w) X.A.in1 (call (.ref f) [.ref r]) Q E s := by
  have e0 := I.env0.in1
  have e1 : Env0 X.prog X.w X.K X.mg X.base X.A.in1 X.stack s (only1 H r) := ⟨e0.frames, e0.mod, fun b o e => ⟨(e0.bs b o e).1, only1_none (e0.bs b o e).2⟩, e0.bsz, e0.funs, fun b hb => only1_none (e0.frf b hb), only1_hok I h, e0.bare⟩
  let Qc : VK := fun v H' => ∃ p, v = .ref p ∧ only1 H r p = none ∧ H' = upd (only1 H r) p (.tup [.int (ns.map V.int).length, .ref r])
  have hs : spRank X.K [.ref r] (only1 H r) Qc (fun _ _ _ => False) := ⟨r, ns.map V.int, rfl, only1_tup h, fun p hp => ⟨p, rfl, hp, rfl⟩⟩
  have hl : ([Value.ref r] ++ []).length = ps.length := (F.len _ _ _ _ hs)
  have rr0 : Vals [V.ref r] ([Value.ref r] ++ []) := .cons rfl .nil
  refine wpAny_call (codeAny_mono (F.run X.A.in1 X.stack s (only1 H r) ⟨[.ref r], []⟩ ([Value.ref r] ++ []) [.ref r] Qc (fun _ _ _ => False) hr e1 (hb s [.ref r] I.kIn hl) rr0 hs) fun rr s' hq => ?_)
  cases rr with
  | error e => exact False.elim hq
  | ok fl =>
    cases fl with
    | next => exact False.elim hq
    | brk => exact False.elim hq
    | cont => exact False.elim hq
    | ret u =>
      obtain ⟨v', H', os, bare, un, hok, rv, p, rfl, hp, rfl⟩ := (show CE X.stack X.prog X.w (only1 H r) s Qc u s' from hq)
      cases rv
      have np : s.heap.get? p = none := by
        cases z : s.heap.get? p with
        | none => rfl
        | some o =>
          have := un.free p o z hp (by simp)
          rw [upd_same] at this; cases this
      have hHp : H p = none := I.hok.gone np
      have slots : ∀ b o, only1 H r b = none → s.heap.get? b = some o → ∃ sl, s'.heap.get? b = some { o with slots := sl } := fun b o n e => un.any e n (by simp)
      have keep : ∀ b o, only1 H r b = none → b ∉ frs X.stack → s.heap.get? b = some o → s'.heap.get? b = some o := fun b o n hf e => un.keep b o e n hf (by simp)
      have hok2 : HOk X.prog X.w H s'.heap := fun b u e => by
        by_cases hbr : b = r
        · subst hbr
          have e2 : only1 H b b = some u := only1_same.trans e
          have pb : b ≠ p := fun z => by rw [z] at e; rw [hHp] at e; cases e
          rcases tup_obj I h e with rfl | ⟨o, rfl⟩
          · exact hok b _ ((upd_ne pb).trans e2)
          · exact hok b _ ((upd_ne pb).trans e2)
        · refine (I.hok b u e).stay (fun c v hc z => keep c v ?_ ?_ z) (fun _ z => z) fun _ _ z => z
          · rcases hc with z | z
            · rw [z]; exact only1_ne hbr
            · refine only1_ne fun z2 => ?_
              subst z2
              rcases tup_obj I h z with z3 | ⟨o, z3⟩
              · cases z3
              · cases z3
          · intro z2
            have := I.stkFree c z2
            rcases hc with z | z
            · rw [z, e] at this; cases this
            · rw [z] at this; cases this
      have I2 : Inv X pins σ H s' := I.call' os ⟨fun b o e n hf hx => un.keep b o e (only1_none n) hf hx, fun b o e n hf hx => un.slot b o e (only1_none n) hf hx, fun b o e n _ => n, fun b o e hx => un.there b o e hx, fun _ _ z => z, fun _ _ _ z => z, fun _ ps' z => ⟨#[], by rw [z]; simp⟩⟩ hok2 bare (fun b z => absurd z (by simp))
      obtain ⟨_, its, rits, pt⟩ := hok p _ upd_same
      obtain ⟨u1, u2, rfl, ⟨t, rfl⟩, r2⟩ := vals2 rits
      cases r2
      rw [List.length_map] at pt
      exact q p t s' I2 np pt (fun b o hb e => slots b o (only1_ne hb) e) (fun b o hb e => slots b o (only1_none hb) e) fun b o hb hf e => keep b o (only1_none hb) hf e
theorem reads_row (I : Inv X pins σ H s) {r : Addr} {ns : List Int} (h : SqT X.K H r (ns.map V.int)) : ∃ as, Reads s.heap (.ref r) (.tuple (ns.map .int)) as :=
  Dp.reads I _ (.ref r) (.ref r) (.tup h (dpa_ints ns)) rfl
theorem reads_key (I : Inv X pins σ H s) {r p : Addr} {t : Tok} {ns : List Int} (h : SqT X.K H r (ns.map V.int)) (hp : IsTup s.heap p #[.int ns.length t, .ref r]) : ∃ as, Reads s.heap (.ref p) (keyD ns) as := by
  obtain ⟨as, hr⟩ := reads_row I h
  obtain ⟨o, e, c, n, d⟩ := hp
  exact ⟨_, .tuple e c d (.cons (.int _ _) (.cons hr .nil))⟩
theorem alike_ints : ∀ (a b : List Int), PySem.W.alikeAll (a.map PyData.int) (b.map PyData.int) = true
  | [], _ => by simp [PySem.W.alikeAll]
  | _ :: _, [] => by simp [PySem.W.alikeAll]
  | x :: a, y :: b => by
    show (PySem.W.alike (.int x) (.int y) && PySem.W.alikeAll (a.map PyData.int) (b.map PyData.int)) = true
    rw [alike_ints a b]
    simp [PySem.W.alike]
theorem alike_key (a b : List Int) : PySem.W.alike (keyD a) (keyD b) = true := by
  show (PySem.W.alike (.int a.length) (.int b.length) && (PySem.W.alike (.tuple (a.map .int)) (.tuple (b.map .int)) && PySem.W.alikeAll [] [])) = true
  have e : PySem.W.alike (.tuple (a.map .int)) (.tuple (b.map .int)) = PySem.W.alikeAll (a.map PyData.int) (b.map PyData.int) := by simp [PySem.W.alike]
  rw [e, alike_ints]
  simp [PySem.W.alike, PySem.W.alikeAll]
/-- what is walked: a list or a tuple of rows -/
structure Walked (X : Cx) (a it : Addr) (its : List Value) (St : Nat → Shared → Prop) : Prop where
  W : WalksS X.prog X.w X.A.in1 it [it, a] [it] (fun a b => b = a) its.toArray.size (fun i v => its.toArray[i]? = some v) St
  stay : ∀ i s s', St i s → (∀ b o, b ∈ [it, a] → s.heap.get? b = some o → ∃ sl, s'.heap.get? b = some { o with slots := sl }) → St i s'
  here : ∀ i s, St i s → ∃ o, s.heap.get? it = some o
theorem min_core (F : FnOk X.prog X.w X.K X.mg X.base CX0 k f fd ps (spRank X.K)) (hb : Binds X.K fd ps []) (hr : Room (k + 1) X.A) (I : Inv X pins σ H s) {a : Addr} {xs : List V} {its : List Value} {rows : Nat → List Int} (rv : Vals xs its)
    (hx : ∀ i x, xs[i]? = some x → ∃ r, x = .ref r ∧ SqT X.K H r ((rows i).map V.int)) (hn : 0 < xs.length) (hne : ∀ (i : Nat) (r : Addr), xs[i]? = some (V.ref r) → r ≠ a) {o : Obj} {St : Nat → Shared → Prop} (L : Walked X a s.heap.objs.size its St) {s₂ : Shared}
    (e2 : s₂ = { s with heap := s.heap.push o }) (st : St 0 s₂) (hfp : ∀ b ∈ [s.heap.objs.size, a], b < s₂.heap.objs.size) {Q : VK} (q : ∀ x, xs[argBest (btR rows) (xs.length - 1)]? = some x → Q x H) :
    ∃ I' fp wr G n P St' J V' bt, (.ref s.heap.objs.size : Value) = .ref I' ∧ WalksS X.prog X.w X.A.in1 I' fp wr G n P St' ∧ St' 0 s₂ ∧ (∀ b ∈ fp, b < s₂.heap.objs.size) ∧ 0 < n ∧
      KeyRun X.prog X.w X.A.in1 (.ref f) .Lt s₂.heap.objs.size wr G n P St' J V' bt ∧ J s₂ ∧ ∀ v s', P (argBest bt (n - 1)) v → J s' → EP X pins σ Q v s' := by
  have hsz : s₂.heap.objs.size = s.heap.objs.size + 1 := by rw [e2]; exact Heap.size_push _ _
  have I2 : Inv X pins σ H s₂ := by rw [e2]; exact I.kept (t' := s.toks) fun b u e => Heap.get?_push_of_some _ e
  have fI : FpOk X pins H s.heap.objs.size := I.fpOk (Nat.le_refl _) (I.hok.fresh (Nat.le_refl _))
  have fS : FpOk X pins H s₂.heap.objs.size := I.fpOk (by omega) (I.hok.fresh (by omega))
  have hlen : its.toArray.size = xs.length := by rw [List.size_toArray, rv.length]
  have moved : ∀ s1 s', Inv X pins σ H s1 → Moved (s₂.heap.objs.size :: [s.heap.objs.size]) (fun a b => b = a) s1 s' → Inv X pins σ H s' := fun s1 s' I1 m => by
    have z := I1.turnedL (h' := s'.heap) (t' := s'.toks) (ch := [s₂.heap.objs.size, s.heap.objs.size]) (fun b o hb e => m.heap b o hb e) (fun b hb => by
      rcases List.mem_cons.mp hb with rfl | hb
      · exact fS
      · rw [List.mem_singleton.mp hb]; exact fI)
    obtain ⟨h', g', d', t', o'⟩ := s'
    have g1 : g' = s1.gens := m.gens
    have g2 : d' = s1.drawn := m.drawn
    have g3 : o' = s1.os := m.os
    subst g1; subst g2; subst g3
    exact z
  refine ⟨_, _, _, _, _, _, St, fun s' => Inv X pins σ H s', fun i v s' => ∃ p r t, v = .ref p ∧ p ≠ s₂.heap.objs.size ∧ p ≠ s.heap.objs.size ∧ H p = none ∧ xs[i]? = some (.ref r) ∧ IsTup s'.heap p #[.int (rows i).length t, .ref r], btR rows, rfl, L.W, st, hfp, by omega, ⟨?_, ?_, ?_, ?_⟩, I2, ?_⟩
  · exact fun s1 s' J m => moved s1 s' J m
  · rintro i v s1 s' ⟨p, r, t, rfl, h1, h2, h3, h4, o, e, c, n, d⟩ m
    exact ⟨p, r, t, rfl, h1, h2, h3, h4, o, m.heap p o (by simp [h1, h2]) e, c, n, d⟩
  · intro i v s1 ob Q1 E1 hi hP J hst hS hq
    rw [hlen] at hi
    obtain ⟨x, hxi⟩ : ∃ x, xs[i]? = some x := ⟨_, List.getElem?_eq_getElem hi⟩
    obtain ⟨r, rfl, hrow⟩ := hx i x hxi
    obtain ⟨u, hu, ru⟩ := rv.get hxi
    cases ru
    have hv : v = .ref r := by
      have : its[i]? = some v := by simpa using hP
      rw [hu] at this; exact (Option.some.inj this).symm
    subst hv
    refine key_turn F hb hr.in1 J hrow fun p t s' J' np pt others slots lits => ?_
    have ra : r ≠ a := hne i r hxi
    have hit : ∃ o, s1.heap.get? s.heap.objs.size = some o := L.here _ _ hst
    refine hq _ _ J' (L.stay _ _ _ hst fun b o hb e => ?_) ?_ ⟨p, r, t, rfl, ?_, ?_, J.hok.gone np, hxi, pt⟩ ?_
    · rcases List.mem_cons.mp hb with rfl | hb
      · exact slots _ o fI.1 e
      · rw [List.mem_singleton.mp hb] at e ⊢
        exact others a o (Ne.symm ra) e
    · refine lits _ ob fS.1 (fun z => ?_) hS
      rcases List.mem_cons.mp (J.stkSub _ z) with e | e
      · exact fS.2.1 e
      · exact fS.2.2.1 e
    · rintro rfl
      rw [np] at hS; cases hS
    · rintro rfl
      obtain ⟨o, e⟩ := hit
      rw [np] at e; cases e
    · rintro j k' ⟨p', r', t', rfl, h1, h2, h3, h4, o, e, c, n, d⟩
      obtain ⟨sl, e'⟩ := slots p' o h3 e
      exact ⟨p', r', t', rfl, h1, h2, h3, h4, _, e', c, n, d⟩
  · rintro i j ki kj s1 Q1 E1 J ⟨p, r, t, rfl, _, _, _, hi, pt⟩ ⟨p', r', t', rfl, _, _, _, hj, pt'⟩ hq
    obtain ⟨r1, z1, row1⟩ := hx i _ hi
    obtain ⟨r2, z2, row2⟩ := hx j _ hj
    cases z1
    cases z2
    obtain ⟨as1, rd1⟩ := reads_key J row1 pt
    obtain ⟨as2, rd2⟩ := reads_key J row2 pt'
    refine PySem.W.rcLt_alike _ _ _ s1 _ _ _ _ rd1 rd2 (alike_key _ _) (fun z => nomatch z) ?_ X.prog X.w E1 Q1 hq
    have dp : ∀ ns : List Int, PyData.depthAll (ns.map PyData.int) = 0 := fun ns => by
      induction ns with
      | nil => rfl
      | cons n r ih => rw [List.map_cons, PyData.depthAll, ih]; rfl
    have dk : (keyD (rows i)).depth ≤ 4 := by
      unfold keyD
      simp [PyData.depth, PyData.depthAll, dp]
    have := Nat.min_le_left (keyD (rows i)).depth (keyD (rows j)).depth
    have hu := hr.in1.units
    omega
  · intro v s' hP J
    have hP' : its.toArray[argBest (btR rows) (its.toArray.size - 1)]? = some v := hP
    rw [hlen] at hP'
    have hv : its[argBest (btR rows) (xs.length - 1)]? = some v := by simpa using hP'
    obtain ⟨x, hx1, hx2⟩ : ∃ x, xs[argBest (btR rows) (xs.length - 1)]? = some x ∧ RelV x v := by
      have hl : argBest (btR rows) (xs.length - 1) < xs.length := by
        have z := (List.getElem?_eq_some_iff.mp hv).1
        have z2 := rv.length
        omega
      obtain ⟨u, hu, ru⟩ := rv.get (List.getElem?_eq_getElem hl)
      rw [hv] at hu
      cases hu
      exact ⟨_, List.getElem?_eq_getElem hl, ru⟩
    exact ⟨x, H, J, hx2, q x hx1⟩
def rMinKey (K : PySem.W.Frag) (f : Addr) : List V → List V → Hp → VK → Prop := fun vs zs H Q => ∃ (a : Addr) (xs : List V) (rows : Nat → List Int), vs = [V.ref a] ∧ zs = [V.ref f] ∧ (SqL K H a xs ∨ SqT K H a xs) ∧ 0 < xs.length ∧
  (∀ i x, xs[i]? = some x → ∃ r, x = .ref r ∧ SqT K H r ((rows i).map V.int)) ∧ ∀ x, xs[argBest (btR rows) (xs.length - 1)]? = some x → Q x H
theorem cr_minKey (F : FnOk X.prog X.w X.K X.mg X.base CX0 k f fd ps (spRank X.K)) (hb : Binds X.K fd ps []) (hr : Room (k + 1) X.A) : CallRK X (.builtin "min") [Str.ofString "key"] (rMinKey X.K f) := by
  intro pins s σ H vs zs us ws Q I rv rz h
  obtain ⟨a, xs, rows, rfl, rfl, hs, hn, hx, q⟩ := h
  obtain rfl := Vals.ref1 rv
  obtain ⟨w1, rfl, e1⟩ := vals1 rz
  obtain rfl : w1 = Value.ref f := e1
  show wpAny (model X.prog X.w) X.A (call (.builtin "min") [.ref a] [(Str.ofString "key", .ref f)]) _ _ s
  refine PySem.call_min_walkK ?_
  rcases hs with hs | hs
  · obtain ⟨its, r, pl, z⟩ := I.list hs
    have alt : a < s.heap.objs.size := by obtain ⟨o, _, e, _⟩ := pl; exact Heap.lt_size e
    refine PySem.W.iter_listW (A := X.A.in1) hr.hd pl.isList fun s₂ e W st hfp hw hk => ?_
    refine min_core F hb hr I r hx hn (fun i b hi z => ?_) ⟨W, ?_, ?_⟩ e st hfp q
    · subst z
      obtain ⟨_, h1, h2⟩ := hx i _ hi
      cases h1
      obtain ⟨_, _, ⟨o, e, c, _⟩, _⟩ := I.tuple h2
      obtain ⟨o', e', c', _⟩ := pl.isList
      rw [e] at e'
      cases e'
      rw [c] at c'
      exact absurd (Value.type.inj c') (by decide)
    · rintro i s1 s1' ⟨⟨o, e, c, d⟩, ⟨o2, e2, c2, n2, d2⟩⟩ hk
      obtain ⟨sl, e'⟩ := hk _ o (by simp) e
      obtain ⟨sl2, e2'⟩ := hk _ o2 (by simp) e2
      exact ⟨⟨_, e', c, d⟩, ⟨_, e2', c2, n2, d2⟩⟩
    · rintro i s1 ⟨⟨o, e, _⟩, _⟩
      exact ⟨o, e⟩
  · obtain ⟨its, r, pl, z⟩ := I.tuple hs
    have hl : s.heap.IsTuple a its.toArray := pl
    refine PySem.W.iter_tupleW (A := X.A.in1) hr.hd hl fun s₂ e W st hfp hw hk => ?_
    refine min_core F hb hr I r hx hn (fun i b hi z => ?_) ⟨W, ?_, ?_⟩ e st hfp q
    · subst z
      obtain ⟨_, h1, h2⟩ := hx i _ hi
      cases h1
      have := I.tuple_inj hs h2
      rw [this] at hi
      rw [List.getElem?_map] at hi
      cases z : (rows i)[i]? with
      | none => rw [z] at hi; cases hi
      | some v => rw [z] at hi; cases hi
    · rintro i s1 s1' ⟨⟨o, e, c, d⟩, ⟨o2, e2, c2, n2, d2⟩⟩ hk
      obtain ⟨sl, e'⟩ := hk _ o (by simp) e
      obtain ⟨sl2, e2'⟩ := hk _ o2 (by simp) e2
      exact ⟨⟨_, e', c, d⟩, ⟨_, e2', c2, n2, d2⟩⟩
    · rintro i s1 ⟨⟨o, e, _⟩, _⟩
      exact ⟨o, e⟩
end
end Gw
namespace PySem.W
open PySem PySem.Calls PyProof.Rows PySem.SeqAt
section
variable {prog : Program} {w : World} {A : Around} {s : Shared} {E : Value → Shared → Prop}
/-- () < () by the tuples' own comparison -/
theorem gw_lt_none {l b : Addr} (hl : s.heap.IsTuple l #[]) (hb : s.heap.IsTuple b #[]) {Q : Value → Shared → Prop} (h : Q (.bool false) s) : wpAny (model prog w) A (call (.builtin "tuple.__lt__") [.ref l, .ref b]) Q E s := by
  obtain ⟨⟨cls, dd, data, sl⟩, ho, hc, n, hd⟩ := id hl
  obtain ⟨⟨cls2, dd2, data2, sl2⟩, ho2, hc2, n2, hd2⟩ := id hb
  simp only at hc hd hc2 hd2
  subst hc hd hc2 hd2
  exact call_meets F.slot_tuple_lt ⟨_, ho, rfl⟩ F.entry_tuple_lt (F.args_tuple_lt_2 _ _) (tuple_ltAt l b #[] #[] n n2 dd dd2 sl sl2 (fun _ => true) fun _ => true) ⟨ho, ho2, fun j h1 => absurd h1 (Nat.not_lt_zero _), fun j h1 => absurd h1 (Nat.not_lt_zero _), h⟩
theorem gw_reads_none {h : Heap} {v : Value} {as : List Addr} (r : Reads h v (.tuple []) as) : ∃ a, v = .ref a ∧ h.IsTuple a #[] := by
  cases r with
  | @tuple a o xs n _ _ h1 h2 h3 h4 =>
    cases q : xs.toList with
    | nil =>
      have : xs = #[] := by
        apply Array.ext'
        simpa using q
      subst this
      exact ⟨a, rfl, o, h1, h2, n, h3⟩
    | cons f fr => rw [q] at h4; cases h4
/-- rows without items can be sorted -/
theorem gw_sorts_none {vs : List Value} {ds : List PyData} (e : EachIs (fun v d => ∃ as, Reads s.heap v d as) vs ds) (hd : ∀ d, d ∈ ds → d = .tuple []) (hu : A.units + 1 < cLine) : SortsAt prog w A s (dataKind s.heap ds) vs := by
  have hal : AllAlike ds := fun d h d' h' => by rw [hd d h, hd d' h']; simp [alike, alikeAll]
  have ht : ∀ v, v ∈ vs → ∃ a, v = .ref a ∧ s.heap.IsTuple a #[] := fun v hv => by
    obtain ⟨d, m, as, r⟩ := e.left v hv
    rw [hd d m] at r
    exact gw_reads_none r
  refine ⟨fun v hv => ?_, oneType', ?_, fun h2 E Q hq => ?_⟩
  · obtain ⟨d, m, as, r⟩ := e.left v hv
    exact ⟨_, dataKind_some hal m r⟩
  · intro E x y a b Q ha hb hq
    obtain ⟨d, as, m, ra, rfl⟩ := dataKind_inv ha
    obtain ⟨d', as', m', rb, rfl⟩ := dataKind_inv hb
    rw [hd d m] at ra hq
    rw [hd d' m'] at rb hq
    obtain ⟨p, rfl, hp⟩ := gw_reads_none ra
    obtain ⟨p', rfl, hp'⟩ := gw_reads_none rb
    have hq' : Q (dataLt (.tuple []) (.tuple [])) s := hq
    rw [show dataLt (.tuple []) (.tuple []) = false from lex_irrefl _] at hq'
    rw [keyLt'_oneType, oneLt'_eq]
    simp only [if_true]
    refine wpAny_bind (wpAny_cRoomFor (by omega) ?_)
    refine wpAny_bind (wpAny_callSpecialIfBound?_slot (T := "tuple") (by obtain ⟨o, h1, h2, _⟩ := hp; exact ⟨_, h1, h2⟩) F.slot_tuple_lt (gw_lt_none hp hp' ?_))
    exact wpAny_truthy_bool hq'
  · have hty : ∀ v ∈ vs, Looks (model prog w) s.heap (typeOf v) (Value.type "tuple") := fun v hv => by
      obtain ⟨a, rfl, o, h1, h2, _⟩ := ht v hv
      show Looks _ s.heap (typeOf (Value.ref _)) (Value.type "tuple")
      exact h2 ▸ (Looks.ld h1).andThen .now
    obtain ⟨v₁, v₂, rest, rfl⟩ : ∃ v₁ v₂ rest, vs = v₁ :: v₂ :: rest := by
      match vs, h2 with
      | [], h2 => simp at h2
      | [_], h2 => simp at h2
      | v₁ :: v₂ :: rest, _ => exact ⟨v₁, v₂, rest, rfl⟩
    rw [keyKind'_eq, List.mapM_toArray, map_eq_pure_bind]
    refine wpAny_bind (wpAny_bind (kas_mapM (r := none) _ (fun v hv Q' hq => ?_) (wpAny_pure ?_)))
    · rw [kas_first_eq]
      refine wpAny_bind ((hty v hv).here ?_)
      rw [if_neg (by decide)]
      obtain ⟨a, rfl, o, h1, h2, n, h3⟩ := ht v hv
      refine wpAny_bind (listItems_at h1 h3 (wpAny_pure ?_))
      exact hq
    · rw [if_neg (by simp), if_neg (by simp)]
      rw [oneTypeOnly'_eq, List.mapM_toArray, map_eq_pure_bind]
      refine wpAny_bind (wpAny_bind (wpAny_bind (kas_mapM (r := Value.type "tuple") _ (fun v hv Q' hq => (hty v hv).here hq) (wpAny_pure ?_))))
      have hall : ((List.map (fun _ => Value.type "tuple") (v₁ :: v₂ :: rest)).toArray.all fun x => x == Value.type "tuple") = true := by
        simp only [List.all_toArray, List.all_map, List.all_eq_true]
        intro _ _
        exact beq_self_eq_true _
      have h0 : (List.map (fun _ => Value.type "tuple") (v₁ :: v₂ :: rest)).toArray[0]? = some (Value.type "tuple") := by simp
      rw [h0]
      simp only [hall, if_true]
      exact wpAny_pure (wpAny_pure hq)
end
end PySem.W

namespace Gw
open PySem PySem.Spec PyProof.Rows L2 PySem.Calls
open PySem.W (EachIs sortingHeap sorting_copy_old copyHeap)
/-- sorted(l) of rows of ints of one length: the first one is the least -/
def rSortRows (K : PySem.W.Frag) : List V → Hp → VK → Prop := fun vs H Q => ∃ (a : Addr) (ys : List V) (rows : Nat → List Int) (L : Nat), vs = [V.ref a] ∧ SqL K H a ys ∧ (∀ i x, ys[i]? = some x → (rows i).length = L ∧ ∃ r, x = V.ref r ∧ SqT K H r ((rows i).map V.int)) ∧
  ∀ p zs, H p = none → zs.length = ys.length → (0 < ys.length → ∃ (j : Nat) (x : V), zs[0]? = some x ∧ ys[j]? = some x ∧ ∀ i, i < ys.length → ¬ rows i < rows j) → Q (.ref p) (upd H p (.lst zs))
section
variable {X : Cx} {pins : List (Addr × Obj)} {σ : L2.St} {H : Hp} {s : Shared}
theorem each_of {α β : Type} {R : α → β → Prop} : ∀ {as : List α} {bs : List β}, as.length = bs.length → (∀ (i : Nat) a b, as[i]? = some a → bs[i]? = some b → R a b) → EachIs R as bs
  | [], [], _, _ => .nil
  | a :: as, b :: bs, hl, h => .cons (h 0 a b rfl rfl) (each_of (by simpa using hl) fun i x y e1 e2 => h (i + 1) x y (by simpa using e1) (by simpa using e2))
  | [], _ :: _, hl, _ => by simp at hl
  | _ :: _, [], hl, _ => by simp at hl
theorem dataLe_rowsT (rows : Nat → List Int) : PySem.W.dataLe false (fun i => PyData.tuple ((rows i).map .int)) = fun p q => !decide (rows q < rows p) := by
  funext a b
  show (!PySem.W.dataLt (.tuple ((rows b).map .int)) (.tuple ((rows a).map .int))) = _
  rw [PySem.W.dataLt_tuple]
  exact congrArg (!·) (PySem.W.dataLt_ints (rows b) (rows a))
theorem sort_first (rows : Nat → List Int) {n : Nat} (hn : 0 < n) : ∃ j, ((List.range n).mergeSort (fun p q => !decide (rows q < rows p)))[0]? = some j ∧ j < n ∧ ∀ i, i < n → ¬ rows i < rows j := by
  have hs := List.pairwise_mergeSort (le := fun p q => !decide (rows q < rows p)) (fun a b c h1 h2 => by
      have h1 : ¬ rows b < rows a := by simpa using h1
      have h2 : ¬ rows c < rows b := by simpa using h2
      have := List.le_trans (show rows a ≤ rows b from h1) (show rows b ≤ rows c from h2)
      simpa using (show ¬ rows c < rows a from this)) (fun a b => by
      rcases List.le_total (rows a) (rows b) with h | h
      · have h : ¬ rows b < rows a := h
        simp [h]
      · have h : ¬ rows a < rows b := h
        simp [h]) (List.range n)
  have hp := List.mergeSort_perm (List.range n) (fun p q => !decide (rows q < rows p))
  generalize (List.range n).mergeSort (fun p q => !decide (rows q < rows p)) = l at hs hp
  cases l with
  | nil =>
    have := hp.length_eq
    simp at this
    omega
  | cons j l =>
    refine ⟨j, rfl, ?_, fun i hi => ?_⟩
    · have := hp.mem_iff.mp (List.mem_cons_self (a := j) (l := l))
      simpa using this
    · have hm : i ∈ j :: l := hp.mem_iff.mpr (by simpa using hi)
      rcases List.mem_cons.mp hm with rfl | hm
      · exact List.lt_irrefl _
      · have := (List.pairwise_cons.mp hs).1 i hm
        simpa using this
theorem cr_sortRows (hu : X.A.units + 64 < cLine) : CallR X (.builtin "sorted") (rSortRows X.K) := by
  intro pins s σ H vs us Q I rv h
  obtain ⟨a, ys, rows, L, rfl, hs, hx, q⟩ := h
  obtain rfl := Vals.ref1 rv
  obtain ⟨its, r, pl, z⟩ := I.list hs
  have hl : s.heap.IsList a its.toArray := pl.isList
  have n0 : its.length = ys.length := r.length.symm
  let enc : Nat → PyData := fun i => .tuple ((rows i).map .int)
  let R : Value → Nat → Prop := fun v i => ∃ x, ys[i]? = some x ∧ RelV x v
  have bl : (List.range ys.length).length = ys.length := by simp
  have item : ∀ (i : Nat) v b, its[i]? = some v → (List.range ys.length)[i]? = some b → b = i ∧ R v i ∧ ∃ as, Reads s.heap v (enc i) as := fun i v b h1 h2 => by
    have hi : i < ys.length := by rw [← n0]; exact (List.getElem?_eq_some_iff.mp h1).1
    have hb : b = i := by
      rw [List.getElem?_range hi] at h2
      exact (Option.some.inj h2).symm
    obtain ⟨u, hu, ru⟩ := r.get (List.getElem?_eq_getElem hi)
    rw [h1] at hu
    cases hu
    obtain ⟨_, p, e, hr⟩ := hx i _ (List.getElem?_eq_getElem hi)
    refine ⟨hb, ⟨_, List.getElem?_eq_getElem hi, ru⟩, ?_⟩
    rw [e] at ru
    cases ru
    exact reads_row I hr
  have e : EachIs R its (List.range ys.length) := each_of (by rw [bl, n0]) fun i v b h1 h2 => by
    obtain ⟨rfl, h3, _⟩ := item i v b h1 h2
    exact h3
  have er : EachIs (fun v b => ∃ as, Reads s.heap v (enc b) as) its (List.range ys.length) := each_of (by rw [bl, n0]) fun i v b h1 h2 => by
    obtain ⟨rfl, _, h3⟩ := item i v b h1 h2
    exact h3
  have dp : ∀ ns : List Int, PyData.depthAll (ns.map PyData.int) = 0 := fun ns => by
    induction ns with
    | nil => rfl
    | cons n r ih => rw [List.map_cons, PyData.depthAll, ih]; rfl
  have hlen : ∀ i, i < ys.length → (rows i).length = L := fun i hi => (hx i _ (List.getElem?_eq_getElem hi)).1
  have fin : ∀ out : List Value, out.length = ys.length → EachIs R out ((List.range ys.length).mergeSort (PySem.W.dataLe false enc)) → EP X pins σ Q (.ref (s.heap.objs.size + 1)) { s with heap := sortedAll s.heap its (List.toArray out) } := fun out ho he => by
    obtain ⟨zs, hz1, hz2⟩ : ∃ zs : List V, Vals zs out ∧ ∀ (i : Nat) (v : Value) (b : Nat), out[i]? = some v → ((List.range ys.length).mergeSort (PySem.W.dataLe false enc))[i]? = some b → ∃ x, zs[i]? = some x ∧ ys[b]? = some x := by
      clear ho
      generalize (List.range ys.length).mergeSort (PySem.W.dataLe false enc) = bs at he
      induction he with
      | nil => exact ⟨[], .nil, fun i v b h => by simp at h⟩
      | cons h t ih =>
        obtain ⟨zs, k1, k2⟩ := ih
        obtain ⟨x, h1, h2⟩ := h
        refine ⟨x :: zs, .cons h2 k1, fun i v b e1 e2 => ?_⟩
        cases i with
        | zero =>
          have : b = _ := (Option.some.inj e2).symm
          subst this
          exact ⟨x, rfl, h1⟩
        | succ i => exact k2 i v b (by simpa using e1) (by simpa using e2)
    obtain ⟨ep, he'⟩ := sortedAll_at s.heap its (List.toArray out)
    have zl : zs.length = ys.length := by rw [hz1.length, ho]
    refine ⟨.ref _, upd H (s.heap.objs.size + 1) (.lst zs), I.laid (t' := s.toks) (fun _ _ => sortedAll_old) (Nat.le_succ _) ⟨by omega, out, ep, hz1, he'⟩, rfl, q _ _ (I.hok.fresh (Nat.le_succ _)) zl fun hn => ?_⟩
    rw [dataLe_rowsT] at hz2
    obtain ⟨j, h1, h2, h3⟩ := sort_first rows hn
    obtain ⟨v, hv⟩ : ∃ v, out[0]? = some v := ⟨_, List.getElem?_eq_getElem (by omega)⟩
    obtain ⟨x, k1, k2⟩ := hz2 0 v j hv h1
    exact ⟨j, x, k1, k2, h3⟩
  have hal : PySem.W.AllAlike ((List.range ys.length).map enc) := fun d hd d' hd' => by
    obtain ⟨i, _, rfl⟩ := List.mem_map.mp hd
    obtain ⟨j, _, rfl⟩ := List.mem_map.mp hd'
    have e : PySem.W.alike (enc i) (enc j) = PySem.W.alikeAll ((rows i).map PyData.int) ((rows j).map PyData.int) := by simp [enc, PySem.W.alike]
    rw [e, alike_ints]
  have hdep : ∀ i, (enc i).depth ≤ 2 := fun i => by
    show (PyData.tuple ((rows i).map .int)).depth ≤ 2
    simp [PyData.depth, dp]
  rcases Nat.eq_zero_or_pos L with h0 | h0
  · subst h0
    have er' : EachIs (fun v b => ∃ as, Reads (sortingHeap (copyHeap s.heap its) (s.heap.objs.size + 1) its) v (enc b) as) its (List.range ys.length) := er.mono fun _ _ ⟨as, r⟩ => ⟨as, PyProof.Rows.Reads.keeps (fun _ _ => sorting_copy_old) r⟩
    refine PySem.W.sorted_vals (κ := PySem.W.dataKind (sortingHeap (copyHeap s.heap its) (s.heap.objs.size + 1) its) ((List.range ys.length).map enc)) hl (PySem.W.gw_sorts_none (s := { s with heap := sortingHeap (copyHeap s.heap its) (s.heap.objs.size + 1) its }) (PySem.W.each_map (R := fun v d => ∃ as, Reads (sortingHeap (copyHeap s.heap its) (s.heap.objs.size + 1) its) v d as) enc er') (fun d hd => ?_) ?_) (by omega) ?_
    · obtain ⟨i, hi, rfl⟩ := List.mem_map.mp hd
      have := hlen i (by simpa using hi)
      show PyData.tuple ((rows i).map .int) = _
      rw [List.eq_nil_of_length_eq_zero this]
      rfl
    · show X.A.units + 1 + 1 + 1 < cLine
      omega
    · exact fin _ (by rw [PySem.W.sortVals_length false rfl]; exact n0) (PySem.W.sortVals_data false e er' hal)
  · refine PySem.W.sorted_data (enc := enc) (R := R) hl e er hal (.inl fun d hd => ?_) (by rw [bl]; exact z) (fun b _ => ?_) fun out ho he => fin out (by rw [ho, bl]) he
    · obtain ⟨i, hi, rfl⟩ := List.mem_map.mp hd
      have := hlen i (by simpa using hi)
      cases hr : rows i with
      | nil => rw [hr] at this; simp at this; omega
      | cons y r => exact ⟨.int y, r.map .int, by show PyData.tuple ((rows i).map .int) = _; rw [hr]; rfl⟩
    · have := hdep b
      omega
end
end Gw
namespace Gw
open PySem PySem.Spec PyProof.Rows L2
/-! ### calls by keywords alone -/
def OkF (P : Program) (w : World) (K : PySem.W.Frag) (mg : Str → Option Value) (base : Heap) (x : Str) (st : Stmt) (ps : List Str) (k : Nat) (sp : Sp) : Prop :=
  ∃ (f : Addr) (fd : FuncData), DefAt K mg x st ps f fd ∧ FnOk P w K mg base CX0 k f fd ps sp
theorem OkF.ok {P : Program} {w : World} {K : PySem.W.Frag} {mg : Str → Option Value} {base : Heap} {x : Str} {st : Stmt} {ps : List Str} {k : Nat} {sp : Sp} (h : OkF P w K mg base x st ps k sp) : Ok P w K mg base x ps k sp := by
  obtain ⟨f, fd, D, F⟩ := h
  exact D.ok F
theorem DefAt.okF {P : Program} {w : World} {K : PySem.W.Frag} {mg : Str → Option Value} {base : Heap} {x : Str} {st : Stmt} {ps : List Str} {f : Addr} {fd : FuncData} {k : Nat} {sp : Sp}
    (D : DefAt K mg x st ps f fd) (h : FnOk P w K mg base CX0 k f fd ps sp) : OkF P w K mg base x st ps k sp := ⟨f, fd, D, h⟩
/-- how a def's parameters are bound by keywords -/
def KwOf (x : Str) (st : Stmt) (ps ks : List Str) (g : List Value → List Value → List Value) (gV : List V → List V → List V) : Prop := ∀ (K : PySem.W.Frag) (f : Addr) (fd : FuncData), Fun K x x st f fd → KBinds K fd ps ks g gV
def g21 {α : Type} : List α → List α → List α
  | [], [a, b] => [b, a]
  | _, _ => []
def g1 {α : Type} : List α → List α → List α
  | [], [a] => [a]
  | _, _ => []
theorem g21_rel {vs : List V} {us : List Value} {zs : List V} {ws : List Value} (h : Vals vs us) (h' : Vals zs ws) : Vals (g21 vs zs) (g21 us ws) := by
  cases h with
  | cons _ _ => exact .nil
  | nil =>
    cases h' with
    | nil => exact .nil
    | cons a t =>
      cases t with
      | nil => exact .nil
      | cons b t =>
        cases t with
        | nil => exact .cons b (.cons a .nil)
        | cons _ _ => exact .nil
theorem g1_rel {vs : List V} {us : List Value} {zs : List V} {ws : List Value} (h : Vals vs us) (h' : Vals zs ws) : Vals (g1 vs zs) (g1 us ws) := by
  cases h with
  | cons _ _ => exact .nil
  | nil =>
    cases h' with
    | nil => exact .nil
    | cons a t =>
      cases t with
      | nil => exact .cons a .nil
      | cons _ _ => exact .nil
theorem kw21 {x p1 p2 : Str} {st : Stmt} (h : ∀ (kV doc pm : Value) (an : Option Addr) (cdv ct a b : Value), bindArgs (PySem.W.fnOf x x (defArgs st) (defBody st) (defScope st) .none kV doc pm an cdv ct) ⟨[], [(p2, a), (p1, b)]⟩ = pure [(p1, b), (p2, a)]) :
    KwOf x st [p1, p2] [p2, p1] g21 g21 := fun K f fd F => by
  obtain ⟨oc, od, kV, doc, pm, an, cdv, ct, osl, rfl, lk, hcd⟩ := F.ex
  refine ⟨fun s us ws _ hl => ?_, fun r r' => g21_rel r r'⟩
  match us, ws, hl with
  | [], [a, b], _ => exact .of_eq (h kV doc pm an cdv ct a b)
theorem kw1 {x p1 : Str} {st : Stmt} (h : ∀ (kV doc pm : Value) (an : Option Addr) (cdv ct a : Value), bindArgs (PySem.W.fnOf x x (defArgs st) (defBody st) (defScope st) .none kV doc pm an cdv ct) ⟨[], [(p1, a)]⟩ = pure [(p1, a)]) :
    KwOf x st [p1] [p1] g1 g1 := fun K f fd F => by
  obtain ⟨oc, od, kV, doc, pm, an, cdv, ct, osl, rfl, lk, hcd⟩ := F.ex
  refine ⟨fun s us ws _ hl => ?_, fun r r' => g1_rel r r'⟩
  match us, ws, hl with
  | [], [a], _ => exact .of_eq (h kV doc pm an cdv ct a)
section
variable {X : Cx} {x : Str} {st : Stmt} {ps ks : List Str} {k : Nat} {sp : Sp} {p pos : Pos} {e : Expr} {es : List Expr} {kws : List Keyword} {t tk : TA} {g : List Value → List Value → List Value} {gV : List V → List V → List V}
theorem pe_okK0 (h : OkF X.prog X.w X.K X.mg X.base x st ps k sp) (hb : KwOf x st ps ks g gV) (hr : Room k X.A) (hg : Gl X x) (hkw : PK X kws tk) (hall : (backToKw pos (keywordEach kws X.env)).all (·.1.isSome) = true := by rfl)
    (hks : (backToKw pos (keywordEach kws X.env)).filterMap (·.1) = ks := by rfl) (hdb : (x == ("__debug__" : Str)) = false := by decide)
    (hpl : ((backTo pos (starEach [] X.env)).any (·.1) || (backToKw pos (keywordEach kws X.env)).any (·.1.isNone)) = false := by rfl) : PE X (.Call (.Name x p) [] kws pos) (tCallK sp gV E0 tNil tk) := by
  obtain ⟨f, fd, D, F⟩ := h
  refine ⟨fun pins s σ H Q I h => ?_⟩
  refine wpAny_Call_Name_kw (ld_glob I hg D.m ?_ hdb)
  refine PySem.W.callWith_KW0 (h₀ := X.base) I.ok.mod.kin D.F.kp hall (thn (hkw.run pos pins s σ H _ I h) fun ws s2 ⟨zs, H2, I2, rz, q2⟩ => ⟨I2.kIn, ?_⟩) hpl
  rw [hks]
  exact run_fnk F hr (hb _ _ _ D.F) pass0 I2 .nil rz q2
end
/-! ### a < b of data -/
def rLtD (K : PySem.W.Frag) : R2 := fun x y H Q => ∃ dx dy, Dp K H x dx ∧ Dp K H y dy ∧ PySem.W.alike dx dy = true ∧ dx ≠ .none ∧ dx.depth ≤ 16 ∧ Q (.bl (PySem.W.dataLt dx dy)) H
theorem op_ltD {X : Cx} (hu : X.A.units + 64 < cLine) : OpR X (compareOp .Lt) (rLtD X.K) := by
  intro pins s σ H x y v u Q I rx ry h
  obtain ⟨dx, dy, hx, hy, ha, hn, hd, q⟩ := h
  obtain ⟨as, ra⟩ := Dp.reads I dx x v hx rx
  obtain ⟨bs, rb⟩ := Dp.reads I dy y u hy ry
  refine PySem.W.lt_data ra rb ha hn ?_ ⟨.bl (PySem.W.dataLt dx dy), H, I, rfl, q⟩
  have := Nat.min_le_left dx.depth dy.depth
  omega
theorem q_ltD (K : PySem.W.Frag) {X : Cx} (e : X.K = K) (hu : X.A.units + 64 < cLine) : OpR X (compareOp .Lt) (rLtD K) := by subst e; exact op_ltD hu
theorem ro_ltD {K : PySem.W.Frag} {x y : PyData} (ha : PySem.W.alike x y = true) (hn : x ≠ .none) (hd : x.depth ≤ 16) : ROp K (rLtD K) x y (.bool (PySem.W.dataLt x y)) := fun G H s vx vy dx dy Q q =>
  ⟨x, y, dp_mono s x dx, dp_mono s y dy, ha, hn, hd, q _ G H (Nx.refl s) (.bl _)⟩
end Gw
namespace Gw
open PySem PySem.Spec PyProof.Rows L2
def top (i : Nat) : Stmt := PySem.Challenge.pw_gatewords_k02_whole_free_words.main.body.getD i (.Pass ⟨0, 0, 0, 0⟩)
abbrev s_is_number : Stmt := top 7
abbrev N_is_number : List Str := ["thing"]
abbrev P_is_number : List Str := ["thing"]
theorem sc_is_number : FnScope N_is_number P_is_number (defScope s_is_number) := ⟨rfl, rfl, rfl, by decide +kernel, rfl, by decide +kernel, by decide +kernel⟩
abbrev s_is_number_in : Stmt := top 8
abbrev N_is_number_in : List Str := ["thing", "least", "most"]
abbrev P_is_number_in : List Str := ["thing", "least", "most"]
theorem sc_is_number_in : FnScope N_is_number_in P_is_number_in (defScope s_is_number_in) := ⟨rfl, rfl, rfl, by decide +kernel, rfl, by decide +kernel, by decide +kernel⟩
abbrev s_is_row : Stmt := top 9
abbrev N_is_row : List Str := ["many", "thing", "x"]
abbrev P_is_row : List Str := ["many", "thing"]
theorem sc_is_row : FnScope N_is_row P_is_row (defScope s_is_row) := ⟨rfl, rfl, rfl, by decide +kernel, rfl, by decide +kernel, by decide +kernel⟩
abbrev s_is_short_row : Stmt := top 10
abbrev N_is_short_row : List Str := ["many", "thing", "most"]
abbrev P_is_short_row : List Str := ["many", "thing", "most"]
theorem sc_is_short_row : FnScope N_is_short_row P_is_short_row (defScope s_is_short_row) := ⟨rfl, rfl, rfl, by decide +kernel, rfl, by decide +kernel, by decide +kernel⟩
abbrev s_is_back : Stmt := top 11
abbrev N_is_back : List Str := ["thing", "letter", "back"]
abbrev P_is_back : List Str := ["thing"]
theorem sc_is_back : FnScope N_is_back P_is_back (defScope s_is_back) := ⟨rfl, rfl, rfl, by decide +kernel, rfl, by decide +kernel, by decide +kernel⟩
abbrev s_want_back : Stmt := top 12
abbrev N_want_back : List Str := ["back"]
abbrev P_want_back : List Str := ["back"]
theorem sc_want_back : FnScope N_want_back P_want_back (defScope s_want_back) := ⟨rfl, rfl, rfl, by decide +kernel, rfl, by decide +kernel, by decide +kernel⟩
abbrev s_want_word : Stmt := top 13
abbrev N_want_word : List Str := ["back", "word"]
abbrev P_want_word : List Str := ["back", "word"]
theorem sc_want_word : FnScope N_want_word P_want_word (defScope s_want_word) := ⟨rfl, rfl, rfl, by decide +kernel, rfl, by decide +kernel, by decide +kernel⟩
abbrev s_freed : Stmt := top 14
abbrev N_freed : List Str := ["back", "word", "left", "letter"]
abbrev P_freed : List Str := ["back", "word"]
theorem sc_freed : FnScope N_freed P_freed (defScope s_freed) := ⟨rfl, rfl, rfl, by decide +kernel, rfl, by decide +kernel, by decide +kernel⟩
abbrev s_free : Stmt := top 15
abbrev N_free : List Str := ["back", "word"]
abbrev P_free : List Str := ["back", "word"]
theorem sc_free : FnScope N_free P_free (defScope s_free) := ⟨rfl, rfl, rfl, by decide +kernel, rfl, by decide +kernel, by decide +kernel⟩
abbrev s_turned_back : Stmt := top 16
abbrev N_turned_back : List Str := ["back", "word", "letter"]
abbrev P_turned_back : List Str := ["back", "word"]
theorem sc_turned_back : FnScope N_turned_back P_turned_back (defScope s_turned_back) := ⟨rfl, rfl, rfl, by decide +kernel, rfl, by decide +kernel, by decide +kernel⟩
abbrev s_undone : Stmt := top 17
abbrev N_undone : List Str := ["back", "word"]
abbrev P_undone : List Str := ["back", "word"]
theorem sc_undone : FnScope N_undone P_undone (defScope s_undone) := ⟨rfl, rfl, rfl, by decide +kernel, rfl, by decide +kernel, by decide +kernel⟩
abbrev s_rank : Stmt := top 18
abbrev N_rank : List Str := ["row"]
abbrev P_rank : List Str := ["row"]
theorem sc_rank : FnScope N_rank P_rank (defScope s_rank) := ⟨rfl, rfl, rfl, by decide +kernel, rfl, by decide +kernel, by decide +kernel⟩
abbrev s_least_of : Stmt := top 19
abbrev N_least_of : List Str := ["words"]
abbrev P_least_of : List Str := ["words"]
theorem sc_least_of : FnScope N_least_of P_least_of (defScope s_least_of) := ⟨rfl, rfl, rfl, by decide +kernel, rfl, by decide +kernel, by decide +kernel⟩
abbrev s_law_begun : Stmt := top 21
abbrev N_law_begun : List Str := ["script", "large", "grain"]
abbrev P_law_begun : List Str := ["script"]
theorem sc_law_begun : FnScope N_law_begun P_law_begun (defScope s_law_begun) := ⟨rfl, rfl, rfl, by decide +kernel, rfl, by decide +kernel, by decide +kernel⟩
abbrev s_law_mixed : Stmt := top 22
abbrev N_law_mixed : List Str := ["draw", "turn", "found", "great", "blend", "grain"]
abbrev P_law_mixed : List Str := ["draw"]
theorem sc_law_mixed : FnScope N_law_mixed P_law_mixed (defScope s_law_mixed) := ⟨rfl, rfl, rfl, by decide +kernel, rfl, by decide +kernel, by decide +kernel⟩
abbrev s_law_take : Stmt := top 23
abbrev N_law_take : List Str := ["draw", "amount", "found"]
abbrev P_law_take : List Str := ["draw", "amount"]
theorem sc_law_take : FnScope N_law_take P_law_take (defScope s_law_take) := ⟨rfl, rfl, rfl, by decide +kernel, rfl, by decide +kernel, by decide +kernel⟩
abbrev s_law_pick : Stmt := top 24
abbrev N_law_pick : List Str := ["draw", "some"]
abbrev P_law_pick : List Str := ["draw", "some"]
theorem sc_law_pick : FnScope N_law_pick P_law_pick (defScope s_law_pick) := ⟨rfl, rfl, rfl, by decide +kernel, rfl, by decide +kernel, by decide +kernel⟩
abbrev s_law_shuffled : Stmt := top 25
abbrev N_law_shuffled : List Str := ["draw", "some", "left", "found"]
abbrev P_law_shuffled : List Str := ["draw", "some"]
theorem sc_law_shuffled : FnScope N_law_shuffled P_law_shuffled (defScope s_law_shuffled) := ⟨rfl, rfl, rfl, by decide +kernel, rfl, by decide +kernel, by decide +kernel⟩
abbrev s_law_back : Stmt := top 26
abbrev N_law_back : List Str := ["draw", "line", "many", "left_here", "found", "one", "other"]
abbrev P_law_back : List Str := ["draw"]
theorem sc_law_back : FnScope N_law_back P_law_back (defScope s_law_back) := ⟨rfl, rfl, rfl, by decide +kernel, rfl, by decide +kernel, by decide +kernel⟩
abbrev s_law_word : Stmt := top 27
abbrev N_law_word : List Str := ["draw", "back_here", "most", "k"]
abbrev P_law_word : List Str := ["draw", "back_here", "most"]
theorem sc_law_word : FnScope N_law_word P_law_word (defScope s_law_word) := ⟨rfl, rfl, rfl, by decide +kernel, rfl, by decide +kernel, by decide +kernel⟩
abbrev s_law : Stmt := top 28
abbrev N_law : List Str := ["script", "draw", "turn", "back_here", "word_here", "other", "mixed", "lap", "spot", "letter", "left_here", "some", "k", "due", "shortest", "one"]
abbrev P_law : List Str := ["script"]
theorem sc_law : FnScope N_law P_law (defScope s_law) := ⟨rfl, rfl, rfl, by decide +kernel, rfl, by decide +kernel, by decide +kernel⟩

section
variable {P : Program} {w : World} {K : PySem.W.Frag} {mg : Str → Option Value} {base : Heap} {f : Addr} {fd : FuncData}

def R_is_number : List PyData → PyData → Prop := fun ds d => ∃ x, ds = [x] ∧ d = .bool (isNum x)
theorem ok_is_number (D : DefAt K mg "is_number" s_is_number P_is_number f fd) (T : Bt mg) : Ok P w K mg base "is_number" P_is_number 1 (SpD K R_is_number) := by
  refine D.ok (okD D.F sc_is_number (fun ds d h => ?_) fun cdv A outer s H hr => ?_)
  · obtain ⟨x, rfl, _⟩ := h; rfl
  have S := sc_is_number
  refine ⟨_, (pss_one (ps_ret (pe_and (pe_callB (q_isi K rfl) (by rfl) T.isinstance (by decide +kernel) (pa_cons (pv 0) (pa_cons (pe_bltn (v := .ty "int") (by rfl) T.int (by decide +kernel) rfl) pa_nil))) (pe_one (pe_not (pe_callB (q_isi K rfl) (by rfl) T.isinstance (by decide +kernel) (pa_cons (pv 0) (pa_cons (pe_bltn (v := .ty "bool") (by rfl) T.bool (by decide +kernel) rfl) pa_nil)))))))), fun G ds d vs hR ha H0 hs D' q _ => ?_⟩
  obtain ⟨x, rfl, rfl⟩ := hR
  obtain _ | ⟨hv, _ | _⟩ := ha
  refine (RtD.cast (rd_ret (ed_and (ed_isi (ed_var (i := 0) rfl hv) (kit_int x)) fun hb => ed_not (ed_isi (ed_var (i := 0) rfl hv) (kit_bool x)))) ?_) H0 hs D' q
  cases x <;> rfl

def R_is_number_in : List PyData → PyData → Prop := fun ds d => ∃ x lo hi, ds = [x, .int lo, .int hi] ∧ d = .bool (inR lo hi x)
theorem ok_is_number_in (D : DefAt K mg "is_number_in" s_is_number_in P_is_number_in f fd) (T : Bt mg) (h_is_number : Ok P w K mg base "is_number" P_is_number 1 (SpD K R_is_number)) :
    Ok P w K mg base "is_number_in" P_is_number_in 2 (SpD K R_is_number_in) := by
  refine D.ok (okD D.F sc_is_number_in (fun ds d h => ?_) fun cdv A outer s H hr => ?_)
  · obtain ⟨x, lo, hi, rfl, _⟩ := h; rfl
  have S := sc_is_number_in
  refine ⟨_, (pss_one (ps_ret (pe_and (pe_ok h_is_number (hr.mono (by decide)) (by rfl) (pa_cons (pv 0) pa_nil)) (pe_one (pe_chain op_le op_le (pv 1) (pv 0) (pv 2)))))), fun G ds d vs hR ha H0 hs D' q _ => ?_⟩
  obtain ⟨x, lo, hi, rfl, rfl⟩ := hR
  obtain _ | ⟨hv, _ | ⟨hl, _ | ⟨hh, _ | _⟩⟩⟩ := ha
  cases x with
  | int i => exact (RtD.cast (rd_ret (ed_and (ed_call (R := R_is_number) (E := E0) (ea_cons (ed_var (i := 0) rfl hv) ea_nil) ⟨_, rfl, rfl⟩) fun _ => ed_chain (ed_var (i := 1) rfl hl) (ed_var (i := 0) rfl hv) ro_b (fun _ => ed_var (i := 2) rfl hh) (fun _ => ro_b))) (by rfl)) H0 hs D' q
  | _ => exact (RtD.cast (rd_ret (ed_and (b := false) (ed_call (R := R_is_number) (E := E0) (ea_cons (ed_var (i := 0) rfl hv) ea_nil) ⟨_, rfl, rfl⟩) fun z => nomatch z)) (by rfl)) H0 hs D' q

def R_is_row : List PyData → PyData → Prop := fun ds d => ∃ n x, ds = [.int n, x] ∧ Sized x ∧ d = .bool (isRow n x)
theorem ok_is_row (D : DefAt K mg "is_row" s_is_row P_is_row f fd) (T : Bt mg) (h_is_number_in : Ok P w K mg base "is_number_in" P_is_number_in 2 (SpD K R_is_number_in)) :
    Ok P w K mg base "is_row" P_is_row 3 (SpD K R_is_row) := by
  refine D.ok (okD D.F sc_is_row (fun ds d h => ?_) fun cdv A outer s H hr => ?_)
  · obtain ⟨n, x, rfl, _⟩ := h; rfl
  have S := sc_is_row
  refine ⟨_, (pss_one (ps_ret (pe_and (pe_callB (q_isi K rfl) (by rfl) T.isinstance (by decide +kernel) (pa_cons (pv 1) (pa_cons (pe_bltn (v := .ty "tuple") (by rfl) T.tuple (by decide +kernel) rfl) pa_nil))) (pe_one (pe_callB (q_all K rfl rfl) (by rfl) T.all (by decide +kernel) (pa_cons (pe_lc (own := [("x", 2)]) (g := gName 2) (by rfl) S.nd  (q_iT K rfl (pv 1)) (blkOk_by (N := N_is_row) (sc := defScope s_is_row) (by decide +kernel)) (fun _ _ _ _ _ => (pg_name (i := 2) S.nd rfl (by first | exact .inl rfl | exact .inr rfl))) (fun _ _ _ _ _ => pts_nil) (fun _ _ _ _ _ => (pe_ok h_is_number_in (hr.mono (by decide)) (by rfl) (pa_cons (pv 2) (pa_cons pe_int (pa_cons (pe_op op_sub (pv 0) pe_int) pa_nil)))))) pa_nil)))))), fun G ds d vs hR ha H0 hs D' q _ => ?_⟩
  obtain ⟨n, x, rfl, hz, rfl⟩ := hR
  obtain _ | ⟨hn, _ | ⟨hx, _ | _⟩⟩ := ha
  cases x with
  | tuple xs =>
    refine (RtD.cast (rd_ret (ed_and (b := xs.all (inR 0 (n - 1))) (ed_isi (ed_var (i := 1) rfl hx) (kit_tup _)) fun _ => ?_)) (by rfl)) H0 hs D' q
    refine EvD.cast (ed_cb (ea_cons (EvN.toD (en_lcT1 (fun d => .bool (inR 0 (n - 1) d)) (ed_var (i := 1) rfl hx) (fun _ => rfl) hz fun d v Gi _ g hd => ?_)) ea_nil) (z := .bool ((xs.map (inR 0 (n - 1))).all id)) ?_) ?_
    · exact ed_call (ea_cons (ed_var (i := 2) rfl hd) (ea_cons ed_int (ea_cons (ed_op (ed_var (i := 0) rfl (dp_mono g _ hn)) ed_int ro_i) ea_nil))) ⟨d, 0, n - 1, rfl, rfl⟩
    · have h := rcl_all (K := K) (bs := xs.map (inR 0 (n - 1)))
      rw [List.map_map] at h
      exact h
    · rw [List.all_map]; rfl
  | _ => exact (RtD.cast (rd_ret (ed_and (b := false) (ed_isi (ed_var (i := 1) rfl hx) (kit_tup _)) fun z => nomatch z)) (by rfl)) H0 hs D' q

def R_is_short_row : List PyData → PyData → Prop := fun ds d => ∃ n x m, ds = [.int n, x, .int m] ∧ Sized x ∧ d = .bool (isShort n m x)
theorem ok_is_short_row (D : DefAt K mg "is_short_row" s_is_short_row P_is_short_row f fd) (T : Bt mg) (h_is_row : Ok P w K mg base "is_row" P_is_row 3 (SpD K R_is_row)) :
    Ok P w K mg base "is_short_row" P_is_short_row 4 (SpD K R_is_short_row) := by
  refine D.ok (okD D.F sc_is_short_row (fun ds d h => ?_) fun cdv A outer s H hr => ?_)
  · obtain ⟨n, x, m, rfl, _⟩ := h; rfl
  have S := sc_is_short_row
  refine ⟨_, (pss_one (ps_ret (pe_and (pe_callB (q_isi K rfl) (by rfl) T.isinstance (by decide +kernel) (pa_cons (pv 1) (pa_cons (pe_bltn (v := .ty "tuple") (by rfl) T.tuple (by decide +kernel) rfl) pa_nil))) (pe_and (pe_cmpR op_le (pe_callB (q_len K rfl) (by rfl) T.len PySem.boot_len (pa_cons (pv 1) pa_nil)) (pv 2) (nomark _)) (pe_one (pe_ok h_is_row (hr.mono (by decide)) (by rfl) (pa_cons (pv 0) (pa_cons (pv 1) pa_nil)))))))), fun G ds d vs hR ha H0 hs D' q _ => ?_⟩
  obtain ⟨n, x, m, rfl, hz, rfl⟩ := hR
  obtain _ | ⟨hn, _ | ⟨hx, _ | ⟨hm, _ | _⟩⟩⟩ := ha
  cases x with
  | tuple xs =>
    refine (RtD.cast (rd_ret (ed_and (b := decide ((xs.length : Int) ≤ m) && xs.all (inR 0 (n - 1))) (ed_isi (ed_var (i := 1) rfl hx) (kit_tup _)) fun _ => ?_)) (by rfl)) H0 hs D' q
    exact ed_and (ed_op (ed_cb (ea_cons (ed_var (i := 1) rfl hx) ea_nil) rcl_len) (ed_var (i := 2) rfl hm) ro_b) fun _ => ed_call (ea_cons (ed_var (i := 0) rfl hn) (ea_cons (ed_var (i := 1) rfl hx) ea_nil)) ⟨n, .tuple xs, rfl, hz, rfl⟩
  | _ => exact (RtD.cast (rd_ret (ed_and (b := false) (ed_isi (ed_var (i := 1) rfl hx) (kit_tup _)) fun z => nomatch z)) (by rfl)) H0 hs D' q
end
end Gw
namespace Gw
open PySem PySem.Spec PyProof.Rows L2
section
variable {P : Program} {w : World} {K : PySem.W.Frag} {mg : Str → Option Value} {base : Heap} {f : Addr} {fd : FuncData}
/-- a def whose body is told by its reading -/
theorem ok_law_mixed (D : DefAt K mg "_law_mixed" s_law_mixed P_law_mixed f fd) (T : Bt mg) : Ok P w K mg base "_law_mixed" P_law_mixed 1 spMixed := by
  refine D.ok (D.F.ok sc_law_mixed (fun vs H Q E h => ?_) fun cdv A outer s H vs Q E hr h => ?_)
  · obtain ⟨d, l, c, rfl, _⟩ := h; rfl
  have S := sc_law_mixed
  obtain ⟨d, l, c, rfl, Dw, q⟩ := h
  refine ⟨_, (pss_cons (ps_dput (hu_of hr) (pv 0) pe_str (pe_op op_add (pe_dget (hu_of hr) (pv 0) pe_str (fun _ _ => rfl)) pe_int) rfl)
  (pss_cons (ps_par (i := 1) (j := 2) rfl S.nd rfl rfl (by decide) rfl rfl (pa_cons (pe_callTy call_int1 (by rfl) T.int (by decide +kernel) (pa_cons (pe_dget (hu_of hr) (pv 0) pe_str (fun _ _ => rfl)) pa_nil)) (pa_cons pe_int pa_nil)) (by rfl))
  (pss_cons (ps_for PassesOwn.never rfl (q_iL K rfl (pe_lst (pa_cons pe_int (pa_cons pe_int (pa_cons pe_int pa_nil))))) (pg_name (i := 3) S.nd rfl (by first | exact .inl rfl | exact .inr rfl)) (pss_cons (ps_set (i := 4) S.nd rfl (by first | exact .inl rfl | exact .inr rfl) (pe_op op_modN (pe_op op_add (pe_op op_mul (pv 1) pe_int) (pe_op op_fdivN (pv 3) pe_int)) (pv 3)))
  (pss_cons (ps_for PassesOwn.never rfl (q_iL K rfl (pe_dget (hu_of hr) (pv 0) pe_str (fun _ _ => rfl))) (pg_name (i := 5) S.nd rfl (by first | exact .inl rfl | exact .inr rfl)) (pss_one (ps_set (i := 4) S.nd rfl (by first | exact .inl rfl | exact .inr rfl) (pe_op op_modN (pe_op op_add (pe_op op_mul (pv 4) pe_int) (pe_callTy call_int1 (by rfl) T.int (by decide +kernel) (pa_cons (pv 5) pa_nil))) (pv 3)))))
  (pss_one (ps_set (i := 2) S.nd rfl (by first | exact .inl rfl | exact .inr rfl) (pe_op op_add (pe_op op_mul (pv 2) pe_int) (pe_op op_modN (pe_op op_pow (pv 4) pe_int) (pv 3))))))))
  (pss_one (ps_ret (pv 2)))))), ?_⟩
  obtain ⟨r, t, ls, cs, h1, h2, h3, h4, h5⟩ := Dw.at'
  obtain ⟨ndl, ndc⟩ := Dw.dl
  refine ⟨_, rfl, d, _, rfl, gD_turn h1, t, 1, rfl, rfl, _, rfl, d, _, rfl, uD_turn h1, ?_⟩
  have e1 : upd H d (.dK (kvD l c r (t + 1))) d = some (.dK (kvD l c r (t + 1))) := upd_same
  refine ⟨_, rfl, d, _, rfl, gD_turn e1, .inl ⟨_, rfl, _, _, rfl, ?_⟩⟩
  refine ⟨by show 3 ≤ sizeLine; decide, fun p hp => ?_⟩
  have hpd : d ≠ p := ne_of_none e1 hp
  have hpc : c ≠ p := ne_of_none (o := .lst (cs.map V.int)) (by rw [upd_ne (Ne.symm ndc)]; exact h3) hp
  have hpl : l ≠ p := ne_of_none (o := .lst (ls.map V.int)) (by rw [upd_ne (Ne.symm ndl)]; exact h2) hp
  generalize hH1 : upd (upd H d (.dK (kvD l c r (t + 1)))) p (.lst [.int 2147483629, .int 2147483587, .int 2147483579]) = H1
  have g1 : H1 d = some (.dK (kvD l c r (t + 1))) := by rw [← hH1, upd_ne hpd]; exact e1
  have g3 : H1 c = some (.lst (cs.map V.int)) := by rw [← hH1, upd_ne hpc, upd_ne (Ne.symm ndc)]; exact h3
  have g2 : H1 l = some (.lst (ls.map V.int)) := by rw [← hH1, upd_ne hpl, upd_ne (Ne.symm ndl)]; exact h2
  have gp : H1 p = some (.lst [.int 2147483629, .int 2147483587, .int 2147483579]) := by rw [← hH1]; exact upd_same
  refine ⟨p, rfl, ⟨_, SqL.of gp⟩, for_list (K := K) (a := p) (xs := [.int 2147483629, .int 2147483587, .int 2147483579]) (fun i σ Hc => H1 = Hc ∧ ∃ fo x3 x4 x5, σ = [some (.ref d), some (.int (t + 1)), some (.int fo), x3, x4, x5]) ⟨rfl, 0, none, none, none, rfl⟩ (fun i σ Hc _ hp => hp.1 ▸ SqL.of gp) ?_ ?_⟩
  · rintro i x σ Hc hi ⟨rfl, fo, x3, x4, x5, rfl⟩
    obtain ⟨g, rfl, hg0, hg1⟩ : ∃ g : Int, x = .int g ∧ 0 < g ∧ g < 2 ^ 32 := by
      have hm := List.mem_of_getElem? hi
      rcases List.mem_cons.mp hm with rfl | hm
      · exact ⟨_, rfl, by decide, by decide⟩
      rcases List.mem_cons.mp hm with rfl | hm
      · exact ⟨_, rfl, by decide, by decide⟩
      rw [List.mem_singleton.mp hm]
      exact ⟨_, rfl, by decide, by decide⟩
    refine ⟨_, rfl, _, _, rfl, rfl, .inr ⟨by decide, by decide⟩, _, rfl, _, _, rfl, rfl, ⟨by decide, by decide⟩, _, _, rfl, rfl, _, rfl, _, _, rfl, rfl, by omega, ?_⟩
    refine ⟨_, rfl, d, _, rfl, gD_cells g1, c, rfl, ⟨_, SqL.of g3⟩, for_list (K := K) (a := c) (xs := cs.map V.int) (fun j σ Hc => H1 = Hc ∧ ∃ (b : Int) (y5 : Option V), 0 ≤ b ∧ b < g ∧ σ = [some (.ref d), some (.int (t + 1)), some (.int fo), some (.int g), some (.int b), y5]) ⟨rfl, _, x5, (fmod_in hg0).1, (fmod_in hg0).2, rfl⟩ (fun j σ Hc _ hp => hp.1 ▸ SqL.of g3) ?_ ?_⟩
    · rintro j x σ Hc hj ⟨rfl, b, y5, hb0, hb1, rfl⟩
      obtain ⟨n, rfl⟩ : ∃ n, x = .int n := by
        rw [List.getElem?_map] at hj
        cases e : cs[j]? with
        | none => rw [e] at hj; cases hj
        | some n => rw [e] at hj; exact ⟨n, (Option.some.inj hj).symm⟩
      exact ⟨_, rfl, _, _, rfl, rfl, .inr ⟨by decide, by decide⟩, _, rfl, .inl ⟨_, rfl, _, _, rfl, rfl, _, rfl, _, _, rfl, rfl, by omega, rfl, _, _, (fmod_in hg0).1, (fmod_in hg0).2, rfl⟩⟩
    · rintro σ Hc ⟨rfl, b, y5, hb0, hb1, rfl⟩
      refine ⟨_, rfl, _, _, rfl, rfl, .inr ⟨by decide, by decide⟩, _, rfl, _, _, rfl, rfl, ⟨by decide, by decide, by omega⟩, _, rfl, _, _, rfl, rfl, by omega, _, _, rfl, rfl, rfl, _, _, _, _, rfl⟩
  · rintro σ Hc ⟨rfl, fo, x3, x4, x5, rfl⟩
    refine ⟨_, rfl, q _ _ ⟨fun a o n1 n2 e => ?_⟩ ⟨Dw.ne, r, t + 1, ls, cs, g1, g2, g3, h4, h5⟩⟩
    have hap : a ≠ p := ne_of_none (o := o) (by rw [upd_ne n1]; exact e) hp
    rw [← hH1, upd_ne hap, upd_ne n1]
    exact e

theorem ok_law_take (D : DefAt K mg "_law_take" s_law_take P_law_take f fd) (T : Bt mg) (h__law_mixed : Ok P w K mg base "_law_mixed" P_law_mixed 1 spMixed) : Ok P w K mg base "_law_take" P_law_take 2 spTake := by
  refine D.ok (D.F.ok sc_law_take (fun vs H Q E h => ?_) fun cdv A outer s H vs Q E hr h => ?_)
  · obtain ⟨d, l, c, n, rfl, _⟩ := h; rfl
  have S := sc_law_take
  obtain ⟨d, l, c, n, rfl, Dw, hn0, hn1, q⟩ := h
  refine ⟨_, (pss_cons (ps_if (pt_cmpR op_eq (pe_dget (hu_of hr) (pv 0) pe_str (fun _ _ => rfl)) pe_int (nomark _)) (pss_one (ps_dput (hu_of hr) (pv 0) pe_str (pe_ifExp (pt_cmpR (q_neD K rfl hr.units) (pe_dget (hu_of hr) (pv 0) pe_str (fun _ _ => rfl)) (pe_lst pa_nil) (nomark _)) (pe_bm PySem.F.plainAttrs_list PySem.F.slot_list_pop PySem.F.type_list_pop mt_popAt (pe_dget (hu_of hr) (pv 0) pe_str (fun _ _ => rfl)) (pa_cons pe_int pa_nil)) (pe_ok h__law_mixed (hr.mono (by decide)) (by rfl) (pa_cons (pv 0) pa_nil))) rfl)) pss_nil)
  (pss_cons (ps_set (i := 2) S.nd rfl (by first | exact .inl rfl | exact .inr rfl) (pe_op op_modN (pe_callTy call_int1 (by rfl) T.int (by decide +kernel) (pa_cons (pe_dget (hu_of hr) (pv 0) pe_str (fun _ _ => rfl)) pa_nil)) (pv 1)))
  (pss_cons (ps_dput (hu_of hr) (pv 0) pe_str (pe_op op_fdivN (pe_callTy call_int1 (by rfl) T.int (by decide +kernel) (pa_cons (pe_dget (hu_of hr) (pv 0) pe_str (fun _ _ => rfl)) pa_nil)) (pv 1)) rfl)
  (pss_one (ps_ret (pv 2)))))), ?_⟩
  refine seq_cut (fun σ' H' => σ' = [some (.ref d), some (.int n), none] ∧ Nd d l H H' ∧ Drw H' d l c) ?_ (fun fin => ?_)
  · rintro σ H2 ⟨rfl, n2, D2⟩
    obtain ⟨r, t, ls, cs, h1, h2, h3, h4, h5⟩ := D2.at'
    obtain ⟨ndl, ndc⟩ := D2.dl
    refine ⟨_, rfl, d, _, rfl, gD_rest h1, .inl ⟨_, rfl, _, rfl, _, _, rfl, rfl, by omega, ?_⟩⟩
    refine ⟨_, rfl, d, _, rfl, gD_rest h1, .inl ⟨_, rfl, _, rfl, _, _, rfl, rfl, ⟨by omega, by omega⟩, ?_⟩⟩
    refine ⟨_, rfl, d, _, rfl, uD_rest h1, _, rfl, ?_⟩
    refine q _ _ (fmod_in hn0).1 (fmod_in hn0).2 (n2.trans Nd.updD) ⟨D2.ne, _, t, ls, cs, upd_same, ?_, ?_, h4, h5⟩
    · rw [upd_ne (Ne.symm ndl)]; exact h2
    · rw [upd_ne (Ne.symm ndc)]; exact h3
  · obtain ⟨r, t, ls, cs, h1, h2, h3, h4, h5⟩ := Dw.at'
    obtain ⟨ndl, ndc⟩ := Dw.dl
    refine ⟨_, rfl, d, _, rfl, gD_rest h1, rfl, _, rfl, ite2 (fun _ => ?_) (fun _ => ?_)⟩
    · -- the large ones first
      refine ⟨_, rfl, d, _, rfl, gD_large h1, Nat.zero_le _, fun p hp => ?_⟩
      have hpl : l ≠ p := ne_of_none h2 hp
      have hpd : d ≠ p := ne_of_none h1 hp
      have hpc : c ≠ p := ne_of_none h3 hp
      have k2 : upd H p (.lst []) l = some (.lst (ls.map V.int)) := by rw [upd_ne hpl]; exact h2
      have kd : upd H p (.lst []) d = some (.dK (kvD l c r t)) := by rw [upd_ne hpd]; exact h1
      have kc : upd H p (.lst []) c = some (.lst (cs.map V.int)) := by rw [upd_ne hpc]; exact h3
      have nd0 : Nd d l H (upd H p (.lst [])) := ⟨fun a o _ _ e => by rw [upd_ne (ne_of_none e hp)]; exact e⟩
      refine ⟨.list (ls.map .int), .list [], .lst (SqL.of k2) (dpa_ints ls), .lst (SqL.of upd_same) .nil, ?_, by decide, ?_⟩
      · have e1 : ∀ zs : List Int, PyData.canLayAll0 (zs.map .int) = true := fun zs => by
          induction zs with
          | nil => rfl
          | cons z zs ih => rw [List.map_cons, PyData.canLayAll0, ih]; rfl
        have e2 : ∀ zs : List Int, PyData.depthAll (zs.map .int) = 0 := fun zs => by
          induction zs with
          | nil => rfl
          | cons z zs ih => rw [List.map_cons, PyData.depthAll, ih]; rfl
        unfold SeqAt.shaped
        rw [Bool.and_eq_true]
        refine ⟨?_, decide_eq_true ?_⟩
        · rw [PyData.canLay0]; exact e1 ls
        · rw [PyData.depth, e2 ls]; decide
      refine ⟨_, rfl, ?_⟩
      cases ls with
      | nil =>
        refine iteF ?_
        exact ⟨_, rfl, d, l, c, rfl, ⟨Dw.ne, r, t, [], cs, kd, k2, kc, h4, h5⟩, fun i H3 n3 D3 => by
          obtain ⟨r3, t3, ls3, cs3, g1, g2, g3, g4, g5⟩ := D3.at'
          obtain ⟨m1, m2⟩ := D3.dl
          exact ⟨_, rfl, d, _, rfl, uD_rest g1, fin _ _ ⟨rfl, (nd0.trans n3).trans Nd.updD, D3.ne, _, t3, ls3, cs3, upd_same, by rw [upd_ne (Ne.symm m1)]; exact g2, by rw [upd_ne (Ne.symm m2)]; exact g3, g4, g5⟩⟩⟩
      | cons z zs =>
        refine iteT ?_
        refine ⟨_, rfl, d, _, rfl, gD_large kd, .inl ⟨rfl, _, SqL.of k2⟩, l, _, 0, 0, V.int z, rfl, rfl, k2, by decide, by decide, ?_, rfl, ?_⟩
        · exact seqIx (k := 0) (by rw [List.map_cons, List.length_cons]; omega)
        have k4 : upd (upd H p (.lst [])) l (.lst (zs.map V.int)) d = some (.dK (kvD l c r t)) := by rw [upd_ne ndl]; exact kd
        refine ⟨_, rfl, d, _, rfl, uD_rest k4, fin _ _ ⟨rfl, (nd0.trans Nd.updL).trans Nd.updD, Dw.ne, _, t, zs, cs, upd_same, ?_, ?_, ?_, h5⟩⟩
        · rw [upd_ne (Ne.symm ndl)]; exact upd_same
        · rw [upd_ne (Ne.symm ndc), upd_ne (Ne.symm Dw.ne)]; exact kc
        · rw [List.length_cons] at h4; omega
    · exact fin _ _ ⟨rfl, Nd.refl, Dw⟩
theorem ok_law_pick (D : DefAt K mg "_law_pick" s_law_pick P_law_pick f fd) (T : Bt mg) (h__law_take : Ok P w K mg base "_law_take" P_law_take 2 spTake) : Ok P w K mg base "_law_pick" P_law_pick 3 (spPick K) := by
  refine D.ok (D.F.ok sc_law_pick (fun vs H Q E h => ?_) fun cdv A outer s H vs Q E hr h => ?_)
  · obtain ⟨d, l, c, a, xs, rfl, _⟩ := h; rfl
  have S := sc_law_pick
  obtain ⟨d, l, c, a, xs, rfl, Dw, hal, hS, hx0, hx1, q⟩ := h
  refine ⟨_, (pss_one (ps_ret (pe_ix (q_ixL K rfl) (pv 1) (pe_ok h__law_take (hr.mono (by decide)) (by rfl) (pa_cons (pv 0) (pa_cons (pe_callB (q_len K rfl) (by rfl) T.len PySem.boot_len (pa_cons (pv 1) pa_nil)) pa_nil))) (fun _ _ => rfl)))), ?_⟩
  refine ⟨_, rfl, _, rfl, _, rfl, a, xs, rfl, .inl hS, d, l, c, (xs.length : Int), rfl, Dw, by omega, by omega, fun k H2 hk0 hk1 n2 D2 => ?_⟩
  obtain ⟨j, rfl⟩ : ∃ j : Nat, k = (j : Int) := ⟨k.toNat, by omega⟩
  have hj : j < xs.length := by omega
  have hS2 : SqL K H2 a xs := by
    obtain ⟨r, t, ls, cs, h1, h2, h3, h4, h5⟩ := Dw.at'
    rcases hS with (e | ⟨o, e⟩) | e
    · exact SqL.of (n2.hh a _ (ne_of e h1 (fun z => nomatch z)) hal e)
    · exact .inl (.inr ⟨o, n2.hh a _ (ne_of e h1 (fun z => nomatch z)) hal e⟩)
    · exact .inr e
  exact ⟨a, xs, (j : Int), xs[j], rfl, rfl, hS2, atI_nat (List.getElem?_eq_getElem hj), q _ _ (List.getElem_mem hj) n2 D2⟩
end
end Gw
namespace Gw
open PySem PySem.Spec PyProof.Rows L2
section
variable {P : Program} {w : World} {K : PySem.W.Frag} {mg : Str → Option Value} {base : Heap} {f : Addr} {fd : FuncData}
theorem ok_law_begun (D : DefAt K mg "_law_begun" s_law_begun P_law_begun f fd) (T : Bt mg) : Ok P w K mg base "_law_begun" P_law_begun 1 (spBegun K) := by
  refine D.ok (D.F.ok sc_law_begun (fun vs H Q E h => ?_) fun cdv A outer s H vs Q E hr h => ?_)
  · obtain ⟨a, ns, rfl, _⟩ := h; rfl
  have S := sc_law_begun
  obtain ⟨a, ns, rfl, hS, h63, q⟩ := h
  refine ⟨_, (pss_cons (ps_setLc (i := 1) (own := [("grain", 2)]) (g := gName 2) (by rfl) S.nd rfl rfl (sw_true rfl rfl rfl (by decide +kernel)) (q_iL K rfl (pv 0)) (blkOk_by (N := N_law_begun) (sc := defScope s_law_begun) (by decide +kernel)) (fun _ _ _ _ _ => (pg_name (i := 2) S.nd rfl (by first | exact .inl rfl | exact .inr rfl))) (fun _ _ _ _ _ => (pts_one (pt_cmpR op_ge (pe_callB call_abs (by rfl) T.abs (by decide +kernel) (pa_cons (pv 2) pa_nil)) (pe_op op_pow pe_int pe_int) (nomark _)))) (fun _ _ _ _ _ => (pe_op op_sub (pe_callB call_abs (by rfl) T.abs (by decide +kernel) (pa_cons (pv 2) pa_nil)) (pe_op op_pow pe_int pe_int))))
  (pss_one (ps_ret (pe_disp (pps_cons pe_str (pv 1) (pps_cons pe_str pe_int (pps_cons pe_str (pe_lc (own := [("grain", 2)]) (g := gName 2) (by rfl) S.nd  (q_iL K rfl (pv 0)) (blkOk_by (N := N_law_begun) (sc := defScope s_law_begun) (by decide +kernel)) (fun _ _ _ _ _ => (pg_name (i := 2) S.nd rfl (by first | exact .inl rfl | exact .inr rfl))) (fun _ _ _ _ _ => pts_nil) (fun _ _ _ _ _ => (pe_callB call_abs (by rfl) T.abs (by decide +kernel) (pa_cons (pv 2) pa_nil)))) (pps_cons pe_str pe_int pps_nil)))) (by rfl) (by rfl) (fun z => by cases z) (by decide))))), ?_⟩
  have hin : ∀ {G : Hp}, Same H G → Dp K G (.ref a) (.list (ns.map .int)) := fun s => .lst (s.seq hS) (dpa_ints ns)
  have hz : (ns.map PyData.int).length ≤ sizeLine := by rw [List.length_map]; exact Nat.le_trans h63 (by decide)
  -- the large ones
  refine seq_asg ?_
  refine (en_lcL (K := K) (σ := L2.start N_law_begun [.ref a]) (vs := [2]) (i := 2) (G := H) (fun d => match d with | .int i => if (10 : Int) ^ 18 ≤ ((i.natAbs : Nat) : Int) then some (.int (((i.natAbs : Nat) : Int) - 10 ^ 18)) else none | _ => none) (ed_var (i := 0) rfl (hin (Same.refl H))) (fun _ => rfl) hz ?_ ?_) H (Same.refl H) _ ?_
  · intro d v Gi hm g hd
    obtain ⟨i, _, rfl⟩ := List.mem_map.mp hm
    refine EvB.cast (eb_test (ed_op (z := .bool (decide ((10 : Int) ^ 18 ≤ ((i.natAbs : Nat) : Int)))) (ed_cb (z := .int ((i.natAbs : Nat) : Int)) (ea_cons (ed_var (i := 2) rfl hd) ea_nil) ?_) (ed_op ed_int ed_int (ro_ic (f := fun i j => i ^ j.toNat) (C := CPow) ⟨by decide, by decide, by decide⟩)) (ro_b (f := fun i j => decide (j ≤ i))))) ?_
    · intro G H s vs hv Q q
      obtain _ | ⟨h1, _ | _⟩ := hv
      refine ⟨i, by rw [dp_int h1], ?_⟩
      rw [abs_if]
      exact q _ G H (Nx.refl s) (.int _)
    · dsimp only
      by_cases hc : (10 : Int) ^ 18 ≤ ((i.natAbs : Nat) : Int)
      · rw [if_pos hc, decide_eq_true hc]; rfl
      · rw [if_neg hc, decide_eq_false hc]; rfl
  · intro d v e Gi hm he g hd
    obtain ⟨i, _, rfl⟩ := List.mem_map.mp hm
    dsimp only at he
    by_cases hc : (10 : Int) ^ 18 ≤ ((i.natAbs : Nat) : Int)
    · rw [if_pos hc] at he
      cases he
      refine ed_op (ed_cb (z := .int ((i.natAbs : Nat) : Int)) (ea_cons (ed_var (i := 2) rfl hd) ea_nil) ?_) (ed_op ed_int ed_int (ro_ic (f := fun i j => i ^ j.toNat) (C := CPow) ⟨by decide, by decide, by decide⟩)) (ro_i (f := fun i j => i - j))
      intro G H s vs hv Q q
      obtain _ | ⟨h1, _ | _⟩ := hv
      refine ⟨i, by rw [dp_int h1], ?_⟩
      rw [abs_if]
      exact q _ G H (Nx.refl s) (.int _)
    · rw [if_neg hc] at he
      cases he
  intro p vs G1 H1 n1 hp gp e1 ha
  obtain ⟨ls, rfl, hls⟩ : ∃ ls : List Int, vs = ls.map V.int ∧ ls.length ≤ 63 := by
    have hlen := dpa_length ha
    have hle : vs.length ≤ 63 := by
      rw [hlen]
      exact Nat.le_trans (List.length_filterMap_le _ _) (by rw [List.length_map]; exact h63)
    have : ∀ (ds : List PyData) (vs : List V), DpAll K G1 vs ds → (∀ d ∈ ds, ∃ i, d = .int i) → ∃ ls : List Int, vs = ls.map V.int := by
      intro ds
      induction ds with
      | nil => intro vs h _; cases h; exact ⟨[], rfl⟩
      | cons d ds ih =>
        intro vs h hd
        obtain _ | ⟨h1, h2⟩ := h
        obtain ⟨i, rfl⟩ := hd d List.mem_cons_self
        obtain ⟨ls, rfl⟩ := ih _ h2 fun d hm => hd d (List.mem_cons_of_mem _ hm)
        exact ⟨i :: ls, by rw [dp_int h1]; rfl⟩
    obtain ⟨ls, e⟩ := this _ _ ha fun d hm => by
      obtain ⟨x, hx, he⟩ := List.mem_filterMap.mp hm
      obtain ⟨i, _, rfl⟩ := List.mem_map.mp hx
      dsimp only at he
      by_cases hc : (10 : Int) ^ 18 ≤ ((i.natAbs : Nat) : Int)
      · rw [if_pos hc] at he; cases he; exact ⟨_, rfl⟩
      · rw [if_neg hc] at he; cases he
    refine ⟨ls, e, ?_⟩
    rw [e, List.length_map] at hle
    exact hle
  -- the dict
  intro d hd
  have hpd : p ≠ d := ne_of_none e1 hd
  have s2 : Same H1 (upd H1 d (.dK [])) := fun b o e => by rw [upd_ne (ne_of_none e hd)]; exact e
  refine tp_c ⟨_, rfl, tp_cc (tp_c ?_)⟩
  refine (en_lcL1 (K := K) (σ := [some (.ref a), some (.ref p), none]) (vs := [2]) (i := 2) (G := H) (fun d => match d with | .int i => .int ((i.natAbs : Nat) : Int) | _ => .none) (ed_var (i := 0) rfl (hin (Same.refl H))) (fun _ => rfl) hz ?_) (upd H1 d (.dK [])) (n1.hh.trans s2) _ ?_
  · intro d v Gi hm g hd
    obtain ⟨i, _, rfl⟩ := List.mem_map.mp hm
    refine ed_cb (ea_cons (ed_var (i := 2) rfl hd) ea_nil) ?_
    intro G H s vs hv Q q
    obtain _ | ⟨h1, _ | _⟩ := hv
    refine ⟨i, by rw [dp_int h1], ?_⟩
    rw [abs_if]
    exact q _ G H (Nx.refl s) (.int _)
  intro c vs G3 H3 n3 hc gc e3 hac
  have hcs : vs = (ns.map fun i => ((i.natAbs : Nat) : Int)).map V.int := by
    refine dpa_ints_inv (K := K) (H := G3) ?_
    rw [List.map_map] at hac ⊢
    exact hac
  have hpc : c ≠ p := fun z => by rw [z, upd_ne hpd, e1] at hc; cases hc
  have hdc : c ≠ d := fun z => by rw [z, upd_same] at hc; cases hc
  have kd : H3 d = some (.dK []) := n3.hh _ _ upd_same
  refine ⟨kd, kvD p c 0 0, rfl, (by decide : 4 ≤ 15), ?_⟩
  rw [merge_kvD]
  have hH0 : ∀ b, H1 b = none → H b = none := fun b => n1.hh.free
  refine q d p c _ (fun b o e => ?_) (n1.hh.free hd) hp (n1.hh.free (by rw [upd_ne hdc] at hc; exact hc)) ⟨Ne.symm hpc, 0, 0, ls, ns.map fun i => ((i.natAbs : Nat) : Int), upd_same, ?_, ?_, hls, by rw [List.length_map]; exact h63⟩
  · have hbd : b ≠ d := ne_of_none e (n1.hh.free hd)
    rw [upd_ne hbd]
    exact n3.hh _ _ (s2 _ _ (n1.hh _ _ e))
  · rw [upd_ne hpd]; exact n3.hh _ _ (s2 _ _ e1)
  · rw [upd_ne hdc, e3, hcs]
theorem ok_law_shuffled (D : DefAt K mg "_law_shuffled" s_law_shuffled P_law_shuffled f fd) (T : Bt mg) (h__law_take : Ok P w K mg base "_law_take" P_law_take 2 spTake) : Ok P w K mg base "_law_shuffled" P_law_shuffled 3 (spShuf K) := by
  refine D.ok (D.F.ok sc_law_shuffled (fun vs H Q E h => ?_) fun cdv A outer s H vs Q E hr h => ?_)
  · obtain ⟨d, l, c, a, ns, rfl, _⟩ := h; rfl
  have S := sc_law_shuffled
  obtain ⟨d, l, c, a, ns, rfl, Dw, hS, h63, q⟩ := h
  refine ⟨_, (pss_cons (ps_par (i := 2) (j := 3) rfl S.nd rfl rfl (by decide) rfl rfl (pa_cons (pe_callTy (q_list K rfl) (by rfl) T.list (by decide +kernel) (pa_cons (pv 1) pa_nil)) (pa_cons (pe_lst pa_nil) pa_nil)) (by rfl))
  (pss_cons (ps_while PassesOwn.never (pt_cmpR (q_neD K rfl hr.units) (pv 2) (pe_lst pa_nil) (nomark _)) (pss_one (ps_expr (pe_bm PySem.F.plainAttrs_list PySem.F.slot_list_append PySem.F.type_list_append mt_append (pv 3) (pa_cons (pe_bm PySem.F.plainAttrs_list PySem.F.slot_list_pop PySem.F.type_list_pop mt_popAt (pv 2) (pa_cons (pe_ok h__law_take (hr.mono (by decide)) (by rfl) (pa_cons (pv 0) (pa_cons (pe_callB (q_len K rfl) (by rfl) T.len PySem.boot_len (pa_cons (pv 2) pa_nil)) pa_nil))) pa_nil)) pa_nil)))))
  (pss_one (ps_ret (pv 3))))), ?_⟩
  refine ⟨_, rfl, a, _, rfl, .inl hS, fun p1 hp1 => ?_⟩
  refine ⟨Nat.zero_le _, fun p2 hp2 => ⟨_, _, rfl, ?_⟩⟩
  have h12 : p1 ≠ p2 := fun z => by rw [← z, upd_same] at hp2; cases hp2
  have hp2' : H p2 = none := by rw [upd_ne (Ne.symm h12)] at hp2; exact hp2
  obtain ⟨o11, o12, o13⟩ := Dw.off hp1
  obtain ⟨o21, o22, o23⟩ := Dw.off hp2'
  refine ⟨fun m σ Hc => ∃ lft fnd : List Int, σ = [some (.ref d), some (.ref a), some (.ref p1), some (.ref p2)] ∧ m = lft.length ∧ Hc p1 = some (.lst (lft.map V.int)) ∧ Hc p2 = some (.lst (fnd.map V.int)) ∧ (fnd ++ lft).Perm ns ∧ Nd d l H Hc ∧ Drw Hc d l c, ⟨ns.length, ns, [], rfl, rfl, ?_, upd_same, List.Perm.refl _, ?_, (Dw.upd o11 o12 o13).upd o21 o22 o23⟩, ?_⟩
  · rw [upd_ne h12]; exact upd_same
  · exact ⟨fun b o _ _ e => by rw [upd_ne (ne_of_none e hp2'), upd_ne (ne_of_none e hp1)]; exact e⟩
  rintro m σ Hc ⟨lft, fnd, rfl, rfl, k1, k2, kp, kn, kD⟩
  refine ne_nil (i := 2) rfl k1 fun H2 s2 f2 => ⟨_, rfl, ?_⟩
  have k1' := s2 _ _ k1
  have k2' := s2 _ _ k2
  have D2 := kD.same s2
  have n2 : Nd d l H H2 := kn.trans (Nd.of s2)
  cases lft with
  | nil =>
    refine iteF (show _ from ?_)
    refine ⟨_, rfl, q p2 fnd _ ?_ hp2' k2' n2 D2⟩
    simpa using kp
  | cons x lft =>
    refine iteT ?_
    have hlen : lft.length + 1 ≤ 63 := by
      have := kp.length_eq
      rw [List.length_append, List.length_cons] at this
      omega
    refine ⟨_, fun _ _ z => z, _, rfl, .inl ⟨rfl, _, SqL.of k2'⟩, _, rfl, .inl ⟨rfl, _, SqL.of k1'⟩, _, rfl, _, rfl, p1, _, rfl, .inl (SqL.of k1'), d, l, c, (((x :: lft).map V.int).length : Int), rfl, D2, ?_, ?_, fun k H3 hk0 hk1 n3 D3 => ?_⟩
    · rw [List.length_map, List.length_cons]; omega
    · rw [List.length_map, List.length_cons]; omega
    have hl1 : p1 ≠ l := o12
    have k3 : H3 p1 = some (.lst ((x :: lft).map V.int)) := n3.hh _ _ o11 o12 k1'
    have k4 : H3 p2 = some (.lst (fnd.map V.int)) := n3.hh _ _ o21 o22 k2'
    obtain ⟨j, rfl⟩ : ∃ j : Nat, k = (j : Int) := ⟨k.toNat, by omega⟩
    have hj : j < (x :: lft).length := by rw [List.length_map] at hk1; omega
    have hj2 : j < ((x :: lft).map V.int).length := by rw [List.length_map]; exact hj
    have hj64 : j < 64 := by rw [List.length_cons] at hj; omega
    have e6 : ((x :: lft).map V.int)[j]'hj2 = V.int ((x :: lft)[j]'hj) := List.getElem_map V.int
    refine ⟨p1, _, (j : Int), j, _, rfl, rfl, k3, by omega, by omega, seqIx hj2, List.getElem?_eq_getElem hj2, ?_⟩
    have e5 : ((x :: lft).map V.int).eraseIdx j = ((x :: lft).eraseIdx j).map V.int := map_eraseIdx _ _ _
    refine ⟨p2, _, _, rfl, rfl, by rw [upd_ne (Ne.symm h12)]; exact k4, ?_, (x :: lft).length - 1, ?_, (x :: lft).eraseIdx j, fnd ++ [(x :: lft)[j]], rfl, ?_, ?_, ?_, ?_, ?_, ?_⟩
    · rw [List.length_map]
      have := kp.length_eq
      rw [List.length_append, List.length_cons] at this
      have : fnd.length < 100 := by omega
      exact Nat.lt_of_lt_of_le this (by decide)
    · rw [List.length_cons]; omega
    · rw [List.length_eraseIdx_of_lt hj]
    · rw [upd_ne h12, upd_same, e5]
    · rw [upd_same, e6, List.map_append]; rfl
    · refine List.Perm.trans ?_ kp
      rw [List.append_assoc]
      refine List.Perm.append_left fnd ?_
      exact erase_perm _ j hj
    · exact ⟨fun b o h1 h2 e => by rw [upd_ne (ne_of_none e hp2'), upd_ne (ne_of_none e hp1)]; exact (n2.trans n3).hh b o h1 h2 e⟩
    · exact (D3.upd o11 o12 o13).upd o21 o22 o23

theorem ok_law_word (D : DefAt K mg "_law_word" s_law_word P_law_word f fd) (T : Bt mg) (h__law_take : Ok P w K mg base "_law_take" P_law_take 2 spTake) : Ok P w K mg base "_law_word" P_law_word 3 (spWord K) := by
  refine D.ok (D.F.ok sc_law_word (fun vs H Q E h => ?_) fun cdv A outer s H vs Q E hr h => ?_)
  · obtain ⟨d, l, c, b, xs, m, rfl, _⟩ := h; rfl
  have S := sc_law_word
  obtain ⟨d, l, c, b, xs, m, rfl, Dw, hB, hx0, hx1, hm0, hm1, q⟩ := h
  refine ⟨_, (pss_one (ps_ret (pe_callTy (q_tuple K rfl) (by rfl) T.tuple (by decide +kernel) (pa_cons (pe_lc (own := [("k", 3)]) (g := gName 3) (by rfl) S.nd  (pi_range1 (by rfl) T.range (pa_cons (pe_ok h__law_take (hr.mono (by decide)) (by rfl) (pa_cons (pv 0) (pa_cons (pe_op op_add (pv 2) pe_int) pa_nil))) pa_nil)) (blkOk_by (N := N_law_word) (sc := defScope s_law_word) (by decide +kernel)) (fun _ _ _ _ _ => (pg_name (i := 3) S.nd rfl (by first | exact .inl rfl | exact .inr rfl))) (fun _ _ _ _ _ => pts_nil) (fun _ _ _ _ _ => (pe_ok h__law_take (hr.mono (by decide)) (by rfl) (pa_cons (pv 0) (pa_cons (pe_callB (q_len K rfl) (by rfl) T.len PySem.boot_len (pa_cons (pv 1) pa_nil)) pa_nil))))) pa_nil)))), ?_⟩
  refine ⟨_, rfl, _, rfl, _, _, rfl, rfl, d, l, c, m + 1, rfl, Dw, by omega, by omega, fun j H1 hj0 hj1 n1 D1 => ?_⟩
  refine ⟨j, rfl, by omega, by omega, fun p hp => ?_⟩
  have hp0 : H p = none := by
    cases e : H p with
    | none => rfl
    | some o =>
      obtain ⟨z1, z2, z3⟩ := D1.off hp
      rw [n1.hh p o z1 z2 e] at hp
      cases hp
  obtain ⟨o1, o2, o3⟩ := D1.off hp
  refine lc_range (lo := 0) (n := j.toNat) (fun k Hc => ∃ acc : List Int, Hc p = some (.lst (acc.map V.int)) ∧ acc.length = k ∧ Letters xs.length acc ∧ Nd d l H Hc ∧ Drw Hc d l c) ⟨[], upd_same, rfl, (fun x z => nomatch z), ⟨fun a o h1 h2 e => by rw [upd_ne (ne_of_none e hp0)]; exact n1.hh a o h1 h2 e⟩, D1.upd o1 o2 o3⟩ (fun k Hc hk hP => ?_) fun Hc hP => ?_
  · obtain ⟨acc, e1, e2, e3, e4, e5⟩ := hP
    refine ⟨rfl, tyes ?_⟩
    refine ⟨_, rfl, _, rfl, b, xs, rfl, .inr (e4.seqT Dw hB), d, l, c, (xs.length : Int), rfl, e5, by omega, by omega, fun y H2 hy0 hy1 n2 D2 => ?_⟩
    have e6 : H2 p = some (.lst (acc.map V.int)) := n2.hh _ _ o1 o2 e1
    refine ⟨_, e6, ?_, acc ++ [y], ?_, ?_, ?_, ?_, D2.upd o1 o2 o3⟩
    · rw [List.length_map, e2]
      have : k < 200000 := by omega
      exact Nat.lt_of_lt_of_le this (by decide)
    · rw [upd_same, List.map_append]; rfl
    · rw [List.length_append, e2]; rfl
    · intro x hx
      rcases List.mem_append.mp hx with hx | hx
      · exact e3 x hx
      · rw [List.mem_singleton.mp hx]; exact ⟨hy0, hy1⟩
    · exact ⟨fun a o h1 h2 e => by rw [upd_ne (ne_of_none e hp0)]; exact (e4.trans n2).hh a o h1 h2 e⟩
  · obtain ⟨acc, e1, e2, e3, e4, e5⟩ := hP
    refine ⟨p, _, rfl, .inl ⟨SqL.of e1, fun z hz => ?_⟩⟩
    have hz0 : H z = none := by
      cases e : H z with
      | none => rfl
      | some o =>
        obtain ⟨z1, z2, z3⟩ := e5.off hz
        rw [e4.hh z o z1 z2 e] at hz
        cases hz
    obtain ⟨u1, u2, u3⟩ := e5.off hz
    exact q z acc _ (by rw [e2]; omega) e3 hz0 upd_same ⟨fun a o h1 h2 e => by rw [upd_ne (ne_of_none e hz0)]; exact e4.hh a o h1 h2 e⟩ (e5.upd u1 u2 u3)
end
end Gw
namespace Gw
open PySem PySem.Spec PyProof.Rows L2
section
variable {P : Program} {w : World} {K : PySem.W.Frag} {mg : Str → Option Value} {base : Heap} {f : Addr} {fd : FuncData}
theorem ok_law_back (D : DefAt K mg "_law_back" s_law_back P_law_back f fd) (T : Bt mg) (h__law_take : Ok P w K mg base "_law_take" P_law_take 2 spTake) (h__law_shuffled : Ok P w K mg base "_law_shuffled" P_law_shuffled 3 (spShuf K)) :
    Ok P w K mg base "_law_back" P_law_back 4 spBack := by
  refine D.ok (D.F.ok sc_law_back (fun vs H Q E h => ?_) fun cdv A outer s H vs Q E hr h => ?_)
  · obtain ⟨d, l, c, rfl, _⟩ := h; rfl
  have S := sc_law_back
  obtain ⟨d, l, c, rfl, Dw, q⟩ := h
  refine ⟨_, (pss_cons (ps_par (i := 1) (j := 2) rfl S.nd rfl rfl (by decide) rfl rfl (pa_cons (pe_lst pa_nil) (pa_cons (pe_op op_add pe_int (pe_ok h__law_take (hr.mono (by decide)) (by rfl) (pa_cons (pv 0) (pa_cons pe_int pa_nil)))) pa_nil)) (by rfl))
  (pss_cons (ps_set (i := 3) S.nd rfl (by first | exact .inl rfl | exact .inr rfl) (pe_ok h__law_shuffled (hr.mono (by decide)) (by rfl) (pa_cons (pv 0) (pa_cons (pe_listRg rfl (by rfl) T.list (prg_1 (by rfl) T.range (pv 2))) pa_nil))))
  (pss_cons (ps_set (i := 4) S.nd rfl (by first | exact .inl rfl | exact .inr rfl) (pe_op op_rep (pe_lst (pa_cons pe_int pa_nil)) (pv 2)))
  (pss_cons (ps_while PassesOwn.never (pt_cmpR (q_neD K rfl hr.units) (pv 3) (pe_lst pa_nil) (nomark _)) (pss_cons (ps_set (i := 5) S.nd rfl (by first | exact .inl rfl | exact .inr rfl) (pe_bm0 PySem.F.plainAttrs_list PySem.F.slot_list_pop PySem.F.type_list_pop mt_pop (pv 3)))
  (pss_cons (ps_set (i := 6) S.nd rfl (by first | exact .inl rfl | exact .inr rfl) (pe_ifExp (PW.pt (pw_and (pt_cmpR (q_neD K rfl hr.units) (pv 3) (pe_lst pa_nil) (nomark _)) (pw_and1 (pt_cmpR op_gt (pe_ok h__law_take (hr.mono (by decide)) (by rfl) (pa_cons (pv 0) (pa_cons pe_int pa_nil))) pe_int (nomark _))))) (pe_bm0 PySem.F.plainAttrs_list PySem.F.slot_list_pop PySem.F.type_list_pop mt_pop (pv 3)) (pv 5)))
  (pss_one (ps_asg (pe_tup (pa_cons (pv 6) (pa_cons (pv 5) pa_nil))) (q_gT K 2 rfl rfl (pgs_cons (pg_sub (pv 4) (pv 5) set_list) (pgs_cons (pg_sub (pv 4) (pv 6) set_list) pgs_nil))))))))
  (pss_one (ps_ret (pe_callTy (q_tuple K rfl) (by rfl) T.tuple (by decide +kernel) (pa_cons (pv 4) pa_nil)))))))), ?_⟩
  refine ⟨Nat.zero_le _, fun p0 hp0 => ?_⟩
  obtain ⟨z1, z2, z3⟩ := Dw.off hp0
  have D0 := Dw.upd (o := .lst []) z1 z2 z3
  have n0 : Nd d l H (upd H p0 (.lst [])) := ⟨fun a o _ _ e => by rw [upd_ne (ne_of_none e hp0)]; exact e⟩
  refine ⟨_, rfl, d, l, c, 5, rfl, D0, by decide, by decide, fun k H1 hk0 hk1 n1 D1 => ⟨_, _, rfl, rfl, _, _, rfl, ?_⟩⟩
  obtain ⟨n, hn⟩ : ∃ n : Nat, (2 : Int) + k = (n : Int) := ⟨(2 + k).toNat, by omega⟩
  have hn2 : 2 ≤ n := by omega
  have hn6 : n ≤ 6 := by omega
  have hn' : (fun (i j : Int) => V.int (i + j)) 2 k = V.int (n : Int) := congrArg V.int hn
  rw [hn']
  refine ⟨_, rfl, _, rfl, _, rfl, RgOk.of_le (by decide) (by omega) (by decide) (by omega), fun pr hpr => ?_⟩
  obtain ⟨y1, y2, y3⟩ := D1.off hpr
  have D1' := D1.upd (o := .lst (rgV 0 n)) y1 y2 y3
  have n1' : Nd d l H (upd H1 pr (.lst (rgV 0 n))) := (n0.trans n1).trans ⟨fun a o _ _ e => by rw [upd_ne (ne_of_none e hpr)]; exact e⟩
  have erg : rgV 0 (n : Int) = ((List.range n).map fun (k : Nat) => (k : Int)).map V.int := by
    unfold rgV
    rw [List.map_map, show ((n : Int) - 0).toNat = n by omega]
    exact List.map_congr_left fun x _ => by show V.int (0 + (x : Int)) = V.int (x : Int); rw [Int.zero_add]
  refine ⟨d, l, c, pr, (List.range n).map fun (k : Nat) => (k : Int), rfl, D1', SqL.of (by rw [upd_same, erg]), by rw [List.length_map, List.length_range]; omega, fun p1 ms H2 hperm hp1 e1 n2 D2 => ?_⟩
  obtain ⟨L, rfl, hL⟩ := perm_nats hperm
  have hp1H : H p1 = none := by
    cases e : H p1 with
    | none => rfl
    | some o =>
      obtain ⟨w1, w2, w3⟩ := D1'.off hp1
      rw [n1'.hh p1 o w1 w2 e] at hp1
      cases hp1
  refine ⟨by decide, fun px hpx => ?_⟩
  refine ⟨_, rfl, px, (n : Int), [V.int 0], rfl, rfl, upd_same, by omega, by omega, ?_, fun p2 hp2 => ?_⟩
  · have : [V.int 0].length * (n : Int).toNat ≤ 6 := by simp; exact hn6
    exact Nat.le_trans this (by decide)
  have efl : (List.replicate (n : Int).toNat [V.int 0]).flatten = (List.replicate n (0 : Int)).map V.int := by
    rw [Int.toNat_natCast]
    clear hL
    induction n with
    | zero => rfl
    | succ n _ => simp [List.replicate_succ, List.flatten_cons]
  obtain ⟨v1, v2, v3⟩ := D2.off (p := px) hpx
  have hpxH : ∀ b, H2 b = none → H b = none := fun b hb => by
    cases e : H b with
    | none => rfl
    | some o =>
      obtain ⟨w1, w2, w3⟩ := D2.off hb
      rw [(n1'.trans n2).hh b o w1 w2 e] at hb
      cases hb
  have hp2x : p2 ≠ px := fun z => by rw [z, upd_same] at hp2; cases hp2
  have hp2' : H2 p2 = none := by rw [upd_ne hp2x] at hp2; exact hp2
  have h12 : p1 ≠ p2 := fun z => by rw [← z, e1] at hp2'; cases hp2'
  have h1x : p1 ≠ px := fun z => by rw [← z, e1] at hpx; cases hpx
  obtain ⟨o11, o12, o13⟩ : p1 ≠ d ∧ p1 ≠ l ∧ p1 ≠ c := Dw.off hp1H
  obtain ⟨o21, o22, o23⟩ := D2.off hp2'
  refine ⟨fun m σ Hc => ∃ (L : List Nat) (fnd : List Int) (y5 y6 : Option V), σ = [some (.ref d), some (.ref p0), some (.int (n : Int)), some (.ref p1), some (.ref p2), y5, y6] ∧ m = L.length ∧ Hc p1 = some (.lst (vN L)) ∧ Hc p2 = some (.lst (fnd.map V.int)) ∧ Pr n L fnd ∧ Nd d l H Hc ∧ Drw Hc d l c,
    ⟨L.length, L, List.replicate n 0, none, none, rfl, rfl, ?_, ?_, Pr.start hL, ?_, ?_⟩, ?_⟩
  · rw [upd_ne h12, upd_ne h1x, vN_ints]; exact e1
  · rw [upd_same, efl]
  · exact ⟨fun a o h1 h2 e => by rw [upd_ne (ne_of_none e (hpxH _ hp2')), upd_ne (ne_of_none e (hpxH _ hpx))]; exact (n1'.trans n2).hh a o h1 h2 e⟩
  · exact (D2.upd v1 v2 v3).upd o21 o22 o23
  rintro m σ Hc ⟨L, fnd, y5, y6, rfl, rfl, k1, k2, kP, kn, kD⟩
  rw [vN_ints] at k1
  refine ne_nil (i := 3) rfl k1 fun H3 s3 f3 => ⟨_, rfl, ?_⟩
  rw [← vN_ints] at k1
  have k1' := s3 _ _ k1
  have k2' := s3 _ _ k2
  have D3 := kD.same s3
  have n3 : Nd d l H H3 := kn.trans (Nd.of s3)
  by_cases hL0 : L = []
  · subst hL0
    refine iteF ?_
    refine ⟨_, rfl, p2, _, rfl, .inl ⟨SqL.of k2', fun z hz => ?_⟩⟩
    have hzH : H z = none := by
      cases e : H z with
      | none => rfl
      | some o =>
        obtain ⟨w1, w2, w3⟩ := D3.off hz
        rw [n3.hh z o w1 w2 e] at hz
        cases hz
    obtain ⟨w1, w2, w3⟩ := D3.off hz
    exact q z fnd _ (kP.done hn2 (by omega)) (by rw [kP.len]; exact hn6) hzH upd_same ⟨fun a o h1 h2 e => by rw [upd_ne (ne_of_none e hzH)]; exact n3.hh a o h1 h2 e⟩ (D3.upd w1 w2 w3)
  obtain ⟨L1, x, rfl⟩ := last_of L hL0
  have hemp : (!((L1 ++ [x]).map fun (k : Nat) => (k : Int)).isEmpty) = true := by simp
  rw [hemp]
  refine iteT ⟨_, fun _ _ z => z, ?_⟩
  -- one = left.pop()
  refine seq_asg ?_
  refine ⟨_, rfl, .inl ⟨rfl, _, SqL.of k1'⟩, p1, _, V.int (x : Int), rfl, rfl, k1', vN_last L1 x, ?_⟩
  rw [vN_drop]
  have hx : x ∈ L1 ++ [x] := List.mem_append_right _ (List.mem_singleton.mpr rfl)
  have hxn := kP.lt x hx
  have nd1 := kP.nd
  have hxL1 : x ∉ L1 := fun z => by
    have := List.nodup_append.mp nd1
    exact (this.2.2 x z x (List.mem_singleton.mpr rfl)) rfl
  have ndL1 : L1.Nodup := (List.nodup_append.mp nd1).1
  have n4 : Nd d l H (upd H3 p1 (.lst (vN L1))) := ⟨fun a o h1 h2 e => by rw [upd_ne (ne_of_none e hp1H)]; exact n3.hh a o h1 h2 e⟩
  have D4 := D3.upd (o := .lst (vN L1)) o11 o12 o13
  have k14 : upd H3 p1 (.lst (vN L1)) p1 = some (.lst (vN L1)) := upd_same
  have k24 : upd H3 p1 (.lst (vN L1)) p2 = some (.lst (fnd.map V.int)) := by rw [upd_ne (Ne.symm h12)]; exact k2'
  generalize hH4 : upd H3 p1 (.lst (vN L1)) = H4 at *
  -- what comes behind: found[one], found[other] = (other, one)
  refine seq_cut (fun σ' H' => ∃ (y : Nat) (L' : List Nat), σ' = [some (.ref d), some (.ref p0), some (.int (n : Int)), some (.ref p1), some (.ref p2), some (.int (x : Int)), some (.int (y : Int))] ∧ y ∈ L1 ++ [x] ∧ L'.Nodup ∧ (∀ z, z ∈ L' ↔ z ∈ L1 ++ [x] ∧ z ≠ x ∧ z ≠ y) ∧ L'.length < (L1 ++ [x]).length ∧ H' p1 = some (.lst (vN L')) ∧ H' p2 = some (.lst (fnd.map V.int)) ∧ Nd d l H H' ∧ Drw H' d l c) ?_ (fun fin => ?_)
  · rintro σ' H' ⟨y, L', rfl, hy, hn', hm', hl', q1, q2, q3, q4⟩
    have hyn := kP.lt y hy
    refine ⟨_, rfl, _, rfl, (by decide : 2 ≤ sizeLine), fun pt hpt => ?_⟩
    have hpt2 : p2 ≠ pt := ne_of_none q2 hpt
    have hpt1 : p1 ≠ pt := ne_of_none q1 hpt
    have hptH : H pt = none := by
      cases e : H pt with
      | none => rfl
      | some o =>
        obtain ⟨w1, w2, w3⟩ := q4.off hpt
        rw [q3.hh pt o w1 w2 e] at hpt
        cases hpt
    obtain ⟨w1, w2, w3⟩ := q4.off hpt
    refine ⟨pt, _, rfl, SqT.of upd_same, rfl, _, _, rfl, ?_⟩
    refine ⟨_, rfl, _, rfl, p2, fnd.map V.int, (x : Int), x, rfl, rfl, by rw [upd_ne hpt2]; exact q2, ix_nat (by rw [List.length_map, kP.len]; exact hxn), _, _, rfl, ?_⟩
    refine ⟨_, rfl, _, rfl, p2, _, (y : Int), y, rfl, rfl, upd_same, ix_nat (by rw [List.length_set, List.length_map, kP.len]; exact hyn), rfl, ?_⟩
    refine ⟨L'.length, hl', L', (fnd.set x (y : Int)).set y (x : Int), _, _, rfl, rfl, ?_, ?_, kP.pair hx hy hn' hm', ?_, ?_⟩
    · rw [upd_ne h12, upd_ne h12, upd_ne hpt1]; exact q1
    · rw [upd_same, List.map_set, List.map_set]
    · exact ⟨fun a o h1 h2 e => by rw [upd_ne (ne_of_none e (hpxH _ hp2')), upd_ne (ne_of_none e (hpxH _ hp2')), upd_ne (ne_of_none e hptH)]; exact q3.hh a o h1 h2 e⟩
    · exact ((q4.upd w1 w2 w3).upd o21 o22 o23).upd o21 o22 o23
  · have same1 : ∀ z, z ∈ L1 ↔ z ∈ L1 ++ [x] ∧ z ≠ x ∧ z ≠ x := fun z => ⟨fun h => ⟨List.mem_append_left _ h, fun e => hxL1 (e ▸ h), fun e => hxL1 (e ▸ h)⟩, fun h => by
      rcases List.mem_append.mp h.1 with h1 | h1
      · exact h1
      · exact absurd (List.mem_singleton.mp h1) h.2.1⟩
    have k1i := k14
    rw [vN_ints] at k1i
    refine seq_asg ?_
    refine ne_nil (i := 3) rfl k1i fun H5 s5 f5 => ⟨_, rfl, ?_⟩
    have n5 : Nd d l H H5 := n4.trans (Nd.of s5)
    have D5 := D4.same s5
    have k15 := s5 _ _ k14
    have k25 := s5 _ _ k24
    by_cases hL1 : L1 = []
    · subst hL1
      refine iteF (iteF ?_)
      exact ⟨_, rfl, fin _ _ ⟨x, [], rfl, hx, ndL1, same1, by simp, k15, k25, n5, D5⟩⟩
    obtain ⟨L2, y, rfl⟩ := last_of L1 hL1
    have hemp2 : (!((L2 ++ [y]).map fun (k : Nat) => (k : Int)).isEmpty) = true := by simp
    rw [hemp2]
    refine iteT ?_
    refine ⟨_, rfl, d, l, c, 4, rfl, D5, by decide, by decide, fun j H6 hj0 hj1 n6 D6 => ?_⟩
    have k16 := n6.hh _ _ o11 o12 k15
    have k26 := n6.hh _ _ o21 o22 k25
    refine ⟨_, _, rfl, rfl, _, rfl, ite2 (fun _ => ?_) (fun _ => ?_)⟩
    · refine ⟨_, rfl, .inl ⟨rfl, _, SqL.of k16⟩, p1, _, V.int (y : Int), rfl, rfl, k16, vN_last L2 y, ?_⟩
      rw [vN_drop]
      have hyL2 : y ∉ L2 := fun z => (List.nodup_append.mp ndL1).2.2 y z y (List.mem_singleton.mpr rfl) rfl
      refine fin _ _ ⟨y, L2, rfl, List.mem_append_left _ (List.mem_append_right _ (List.mem_singleton.mpr rfl)), (List.nodup_append.mp ndL1).1, fun z => ?_, by simp, upd_same, by rw [upd_ne (Ne.symm h12)]; exact k26, ⟨fun a o h1 h2 e => by rw [upd_ne (ne_of_none e hp1H)]; exact (n5.trans n6).hh a o h1 h2 e⟩, D6.upd o11 o12 o13⟩
      constructor
      · intro h
        exact ⟨List.mem_append_left _ (List.mem_append_left _ h), fun e => hxL1 (e ▸ List.mem_append_left _ h), fun e => hyL2 (e ▸ h)⟩
      · rintro ⟨h1, h2, h3⟩
        rcases List.mem_append.mp h1 with h1 | h1
        · rcases List.mem_append.mp h1 with h1 | h1
          · exact h1
          · exact absurd (List.mem_singleton.mp h1) h3
        · exact absurd (List.mem_singleton.mp h1) h2
    · exact ⟨_, rfl, fin _ _ ⟨x, L2 ++ [y], rfl, hx, ndL1, same1, by simp, k16, k26, n5.trans n6, D6⟩⟩
end
end Gw
namespace Gw
open PySem PySem.Spec PyProof.Rows L2
section
variable {P : Program} {w : World} {K : PySem.W.Frag} {mg : Str → Option Value} {base : Heap} {f : Addr} {fd : FuncData}
def R_is_back : List PyData → PyData → Prop := fun ds d => ∃ x, ds = [x] ∧ Sized x ∧ d = .bool (isBackD x)
theorem ok_is_back (D : DefAt K mg "is_back" s_is_back P_is_back f fd) (T : Bt mg) {t12 : Tok} (c_MOST_BACK : mg "MOST_BACK" = some (.int 12 t12)) (h_is_row : Ok P w K mg base "is_row" P_is_row 3 (SpD K R_is_row)) :
    Ok P w K mg base "is_back" P_is_back 4 (SpD K R_is_back) := by
  refine D.ok (okD D.F sc_is_back (fun ds d h => ?_) fun cdv A outer s H hr => ?_)
  · obtain ⟨x, rfl, _⟩ := h; rfl
  have S := sc_is_back
  refine ⟨_, (pss_cons (ps_if (PW.pt (pw_or (pt_not (pt_val (pe_callB (q_isi K rfl) (by rfl) T.isinstance (by decide +kernel) (pa_cons (pv 0) (pa_cons (pe_bltn (v := .ty "tuple") (by rfl) T.tuple (by decide +kernel) rfl) pa_nil))))) (pw_or1 (pt_not (pt_chain op_le op_le pe_int (pe_callB (q_len K rfl) (by rfl) T.len PySem.boot_len (pa_cons (pv 0) pa_nil)) (pe_glob (v := .int 12) (by rfl) c_MOST_BACK ⟨_, rfl⟩)))))) (pss_one (ps_ret pe_bl)) pss_nil)
  (pss_cons (ps_if (pt_not (pt_val (pe_ok h_is_row (hr.mono (by decide)) (by rfl) (pa_cons (pe_callB (q_len K rfl) (by rfl) T.len PySem.boot_len (pa_cons (pv 0) pa_nil)) (pa_cons (pv 0) pa_nil))))) (pss_one (ps_ret pe_bl)) pss_nil)
  (pss_one (ps_ret (pe_callB (q_all K rfl rfl) (by rfl) T.all (by decide +kernel) (pa_cons (pe_lc (own := [("letter", 1), ("back", 2)])  (by rfl) S.nd  (q_iEnT K rfl (by rfl) T.enumerate (pa_cons (pv 0) pa_nil)) (blkOk_by (N := N_is_back) (sc := defScope s_is_back) (by decide +kernel)) (fun _ _ _ _ _ => (q_gT K 2 rfl rfl (pgs_cons (pg_name (i := 1) S.nd rfl (by first | exact .inl rfl | exact .inr rfl)) (pgs_cons (pg_name (i := 2) S.nd rfl (by first | exact .inl rfl | exact .inr rfl)) pgs_nil)))) (fun _ _ _ _ _ => pts_nil) (fun _ _ _ _ _ => (pe_cmpR (q_eqD K rfl hr.units) (pe_ix (q_ixT K rfl) (pv 0) (pv 2) (fun _ _ => rfl)) (pv 1) (nomark _)))) pa_nil)))))), fun G ds d vs hR ha H0 hs D' q _ => ?_⟩
  obtain ⟨x, rfl, hz, rfl⟩ := hR
  obtain _ | ⟨hx, _ | _⟩ := ha
  cases x with
  | tuple xs =>
    have hz : xs.length ≤ sizeLine := hz
    have hlen := rcl_len (K := K) (ds := xs)
    refine (rd_seqIf (b := !(decide (2 ≤ (xs.length : Int)) && decide ((xs.length : Int) ≤ 12))) ?_ (fun hb => ?_) fun hb => ?_) H0 hs D' q
    · refine EvB.cast (eb_or (eb_not (eb_B (ed_isi (ed_var (i := 0) rfl hx) (kit_tup _)))) fun _ => eb_not (eb_test (ed_chain ed_int (ed_cb (ea_cons (ed_var (i := 0) rfl hx) ea_nil) hlen) (ro_b (f := fun i j => decide (i ≤ j))) (fun _ => ed_int) (fun _ => ro_b (f := fun i j => decide (i ≤ j)))))) (by rfl)
    · refine (rd_ret ed_bl).cast ?_
      have : (decide (2 ≤ (xs.length : Int)) && decide ((xs.length : Int) ≤ 12)) = false := not_t hb
      show PyData.bool false = .bool (decide (2 ≤ xs.length) && decide (xs.length ≤ 12) && _)
      have e : (decide (2 ≤ xs.length) && decide (xs.length ≤ 12)) = false := by
        rw [← this]
        congr 1 <;> exact decide_eq_decide.mpr (by omega)
      rw [e, Bool.false_and]
    · have hc : (decide (2 ≤ (xs.length : Int)) && decide ((xs.length : Int) ≤ 12)) = true := not_f hb
      rw [Bool.and_eq_true, decide_eq_true_eq, decide_eq_true_eq] at hc
      have e : isBackD (.tuple xs) = (xs.all (inR 0 ((xs.length : Int) - 1)) && (xs.mapIdx (bkAt xs)).all id) := by
        show (decide (2 ≤ xs.length) && decide (xs.length ≤ 12) && _) = _
        rw [decide_eq_true (by omega : 2 ≤ xs.length), decide_eq_true (by omega : xs.length ≤ 12)]
        rfl
      rw [e]
      refine rd_seqIf (b := !xs.all (inR 0 ((xs.length : Int) - 1))) (eb_not (eb_B (ed_call (ea_cons (ed_cb (ea_cons (ed_var (i := 0) rfl hx) ea_nil) hlen) (ea_cons (ed_var (i := 0) rfl hx) ea_nil)) ⟨_, _, rfl, hz, rfl⟩))) (fun hb => ?_) fun hb => ?_
      · have h1 : xs.all (inR 0 ((xs.length : Int) - 1)) = false := not_t hb
        rw [h1]
        exact rd_ret ed_bl
      · have h1 : xs.all (inR 0 ((xs.length : Int) - 1)) = true := not_f hb
        rw [h1, Bool.true_and]
        have hin := List.all_eq_true.mp h1
        refine rd_ret (ed_cb (ea_cons (EvN.toD (en_lcEn (fun k d => .bool (bkAt xs k d)) (ed_var (i := 0) rfl hx) (fun _ _ => rfl) hz fun k d v Gi hk g hd => ?_)) ea_nil) ?_)
        · have hm : d ∈ xs := List.mem_of_getElem? hk
          obtain ⟨i, rfl, h0, h9⟩ := inR_int (hin d hm)
          have hi : i.toNat < xs.length := by omega
          have hat : xs[i.toNat]? = some (xs.getD i.toNat .none) := by rw [List.getD_eq_getElem?_getD, List.getElem?_eq_getElem hi]; rfl
          obtain ⟨j, ej, _, _⟩ := inR_int (hin _ (List.mem_of_getElem? hat))
          refine ed_op (ed_op (ed_var (i := 0) rfl (dp_mono g _ hx)) (ed_var (i := 2) rfl hd) (ro_ixT (k := i.toNat) (by omega) hat)) (ed_var (i := 1) (d := .int (k : Int)) rfl (.int _)) (ro_eqD ?_ (shaped_int _))
          rw [ej]; exact shaped_int _
        · have h := rcl_all (K := K) (bs := xs.mapIdx (bkAt xs))
          rw [mapIdx_then] at h
          exact h
  | _ =>
    refine (rd_seqIf (b := true) (EvB.cast (eb_or (a := true) (b := true) (eb_not (eb_B (b := false) (ed_isi (ed_var (i := 0) rfl hx) (kit_tup _)))) fun z => nomatch z) (by rfl)) (fun _ => (rd_ret ed_bl).cast (by rfl)) fun z => nomatch z) H0 hs D' q
def R_want_back : List PyData → PyData → Prop := fun ds d => ∃ x, ds = [x] ∧ Sized x ∧ isBackD x = true ∧ d = .none
theorem ok_want_back (D : DefAt K mg "want_back" s_want_back P_want_back f fd) (T : Bt mg) (h_is_back : Ok P w K mg base "is_back" P_is_back 4 (SpD K R_is_back)) : Ok P w K mg base "want_back" P_want_back 5 (SpD K R_want_back) := by
  refine D.ok (okD D.F sc_want_back (fun ds d h => ?_) fun cdv A outer s H hr => ?_)
  · obtain ⟨x, rfl, _⟩ := h; rfl
  have S := sc_want_back
  refine ⟨_, (pss_one (ps_if (pt_not (pt_val (pe_ok h_is_back (hr.mono (by decide)) (by rfl) (pa_cons (pv 0) pa_nil)))) (pss_one ps_never) pss_nil)), fun G ds d vs hR ha H0 hs D' _ nx => ?_⟩
  obtain ⟨x, rfl, hz, hb, rfl⟩ := hR
  obtain _ | ⟨hx, _ | _⟩ := ha
  exact (eb_not (eb_B (ed_call (ea_cons (ed_var (i := 0) (σ := L2.start N_want_back _) rfl hx) ea_nil) (R := R_is_back) (E := E0) ⟨_, rfl, hz, by rw [hb]⟩))) H0 hs _ fun G1 H1 n1 => if_off rfl (nx _ _ _ n1 rfl)
def R_want_word : List PyData → PyData → Prop := fun ds d => ∃ bs x, ds = [.tuple bs, x] ∧ Sized x ∧ isShort bs.length 200 x = true ∧ d = .none
theorem ok_want_word (D : DefAt K mg "want_word" s_want_word P_want_word f fd) (T : Bt mg) {t200 : Tok} (c_MOST_LETTERS : mg "MOST_LETTERS" = some (.int 200 t200)) (h_is_short_row : Ok P w K mg base "is_short_row" P_is_short_row 4 (SpD K R_is_short_row)) :
    Ok P w K mg base "want_word" P_want_word 5 (SpD K R_want_word) := by
  refine D.ok (okD D.F sc_want_word (fun ds d h => ?_) fun cdv A outer s H hr => ?_)
  · obtain ⟨bs, x, rfl, _⟩ := h; rfl
  have S := sc_want_word
  refine ⟨_, (pss_one (ps_if (pt_not (pt_val (pe_ok h_is_short_row (hr.mono (by decide)) (by rfl) (pa_cons (pe_callB (q_len K rfl) (by rfl) T.len PySem.boot_len (pa_cons (pv 0) pa_nil)) (pa_cons (pv 1) (pa_cons (pe_glob (v := .int 200) (by rfl) c_MOST_LETTERS ⟨_, rfl⟩) pa_nil)))))) (pss_one ps_never) pss_nil)), fun G ds d vs hR ha H0 hs D' _ nx => ?_⟩
  obtain ⟨bs, x, rfl, hz, hb, rfl⟩ := hR
  obtain _ | ⟨hbk, _ | ⟨hx, _ | _⟩⟩ := ha
  exact (eb_not (eb_B (ed_call (ea_cons (ed_cb (ea_cons (ed_var (i := 0) (σ := L2.start N_want_word [_, _]) rfl hbk) ea_nil) rcl_len) (ea_cons (ed_var (i := 1) rfl hx) (ea_cons ed_int ea_nil))) (R := R_is_short_row) (E := E0) ⟨_, _, _, rfl, hz, by rw [hb]⟩))) H0 hs _ fun G1 H1 n1 => if_off rfl (nx _ _ _ n1 rfl)
end
end Gw
namespace Gw
open PySem PySem.Spec PyProof.Rows L2
section
variable {P : Program} {w : World} {K : PySem.W.Frag} {mg : Str → Option Value} {base : Heap} {f : Addr} {fd : FuncData}
def R_freed : List PyData → PyData → Prop := fun ds d => ∃ bs ws : List Int, ds = [.tuple (bs.map .int), .tuple (ws.map .int)] ∧ Letters bs.length ws ∧ ws.length ≤ 1000 ∧ d = .tuple ((frI bs ws).map .int)
theorem ok_freed (D : DefAt K mg "freed" s_freed P_freed f fd) (T : Bt mg) : Ok P w K mg base "freed" P_freed 1 (SpD K R_freed) := by
  refine D.ok (okD D.F sc_freed (fun ds d h => ?_) fun cdv A outer s H hr => ?_)
  · obtain ⟨bs, ws, rfl, _⟩ := h; rfl
  have S := sc_freed
  refine ⟨_, (pss_cons (ps_set (i := 2) S.nd rfl (by first | exact .inl rfl | exact .inr rfl) (pe_lst pa_nil))
  (pss_cons (ps_for PassesOwn.never rfl (q_iT K rfl (pv 1)) (pg_name (i := 3) S.nd rfl (by first | exact .inl rfl | exact .inr rfl)) (pss_one (ps_if (PW.pt (pw_and (pt_truth (pv 2) (by intro _; rfl)) (pw_and1 (pt_cmpR op_eq (pe_ix (q_ixL K rfl) (pv 2) (pe_un un_neg pe_int) (fun _ _ => rfl)) (pe_ix (q_ixT K rfl) (pv 0) (pv 3) (fun _ _ => rfl)) (nomark _))))) (pss_one (ps_expr (pe_bm0 PySem.F.plainAttrs_list PySem.F.slot_list_pop PySem.F.type_list_pop mt_pop (pv 2)))) (pss_one (ps_expr (pe_bm PySem.F.plainAttrs_list PySem.F.slot_list_append PySem.F.type_list_append mt_append (pv 2) (pa_cons (pv 3) pa_nil)))))))
  (pss_one (ps_ret (pe_callTy (q_tuple K rfl) (by rfl) T.tuple (by decide +kernel) (pa_cons (pv 2) pa_nil)))))), fun G ds d vs hR ha H0 hs D' q _ => ?_⟩
  obtain ⟨bs, ws, rfl, hw, h1000, rfl⟩ := hR
  obtain _ | ⟨hb, _ | ⟨hx, _ | _⟩⟩ := ha
  obtain ⟨b, rfl, hB⟩ := dp_ints_t hb
  obtain ⟨a, rfl, hA⟩ := dp_ints_t hx
  refine seq_asg ⟨Nat.zero_le _, fun p hp => ?_⟩
  have n0 : ∀ o, Nx G H0 G (upd H0 p o) := fun o => Nx.lay hs hp
  refine ⟨_, rfl, a, rfl, ⟨_, same_tup (n0 _).gh hA⟩, for_tup (K := K) (a := a) (xs := ws.map V.int) (fun i σ Hc => upd H0 p (.lst ((frI bs (ws.take i)).map V.int)) = Hc ∧ ∃ y, σ = [some (.ref b), some (.ref a), some (.ref p), y]) ⟨rfl, none, rfl⟩ (fun i σ Hc _ hP => hP.1 ▸ same_tup (n0 _).gh hA) ?_ ?_⟩
  · rintro i x σ Hc hi ⟨rfl, y, rfl⟩
    obtain ⟨z, hz, rfl⟩ := ints_get hi
    have hzm := hw z (List.mem_of_getElem? hz)
    have hlen : (frI bs (ws.take i)).length ≤ 1000 := by
      have h1 := frI_len bs (ws.take i) []
      have h2 : (ws.take i).length ≤ ws.length := by rw [List.length_take]; omega
      rw [List.length_nil] at h1
      unfold frI
      omega
    have hst := frI_take (bs := bs) hz
    generalize hle : frI bs (ws.take i) = left at *
    have hcp : upd H0 p (.lst (left.map V.int)) p = some (.lst (left.map V.int)) := upd_same
    refine ⟨_, rfl, _, .inl ⟨_, SqL.of hcp, rfl⟩, ?_⟩
    have app : upd (upd H0 p (.lst (left.map V.int))) p (.lst (left.map V.int ++ [V.int z])) = upd H0 p (.lst ((left ++ [z]).map V.int)) := by rw [upd_upd, List.map_append]; rfl
    have small : (left.map V.int).length < sizeLine := by rw [List.length_map]; exact Nat.lt_of_le_of_lt hlen (by decide)
    by_cases hl : left = []
    · have e : (!(left.map V.int).isEmpty) = false := by rw [hl]; rfl
      rw [e]
      refine iteF (iteF ?_)
      refine ⟨_, rfl, .inl ⟨rfl, _, SqL.of hcp⟩, _, rfl, p, _, _, rfl, rfl, hcp, small, ?_, _, rfl⟩
      rw [app, hst]
      unfold frSt
      rw [if_neg (fun h => h.1 hl)]
    · obtain ⟨L, y0, rfl⟩ := last_of left hl
      have e : (!((L ++ [y0]).map V.int).isEmpty) = true := by simp
      rw [e]
      refine iteT ?_
      have hzl : z.toNat < bs.length := by omega
      have hbz : (bs.map V.int)[z.toNat]? = some (.int bs[z.toNat]) := by rw [List.getElem?_map, List.getElem?_eq_getElem hzl]; rfl
      have hzi : z = ((z.toNat : Nat) : Int) := by omega
      refine ⟨_, rfl, 1, rfl, p, _, -1, V.int y0, rfl, rfl, SqL.of hcp, ?_, ?_⟩
      · rw [List.map_append]; exact atI_last _ _
      refine ⟨_, rfl, _, rfl, b, _, z, V.int bs[z.toNat], rfl, rfl, same_tup (n0 _).gh hB, ?_, ?_⟩
      · exact (congrArg (atI (bs.map V.int)) hzi).trans (atI_nat hbz)
      refine ⟨rfl, _, rfl, ite2 (fun hc => ?_) (fun hc => ?_)⟩
      · have hc : y0 = bs[z.toNat] := V.int.inj (of_decide_eq_true hc)
        refine ⟨_, rfl, .inl ⟨rfl, _, SqL.of hcp⟩, p, _, V.int y0, rfl, rfl, hcp, ?_, ?_, _, rfl⟩
        · simp
        rw [upd_upd, hst]
        unfold frSt
        rw [if_pos ⟨hl, by rw [List.getLast?_concat, List.getElem?_eq_getElem hzl, hc]⟩]
        simp
      · have hc : y0 ≠ bs[z.toNat] := fun z => hc (by rw [z]; exact decide_eq_true rfl)
        refine ⟨_, rfl, .inl ⟨rfl, _, SqL.of hcp⟩, _, rfl, p, _, _, rfl, rfl, hcp, small, ?_, _, rfl⟩
        rw [app, hst]
        unfold frSt
        rw [if_neg (fun h => hc (by
          have := h.2
          rw [List.getLast?_concat, List.getElem?_eq_getElem hzl] at this
          exact Option.some.inj this))]
  · rintro σ Hc ⟨rfl, y, rfl⟩
    have hcp : upd H0 p (.lst ((frI bs (ws.take (ws.map V.int).length)).map V.int)) p = some (.lst ((frI bs ws).map V.int)) := by rw [upd_same, List.length_map, List.take_length]
    refine ⟨_, rfl, p, _, rfl, .inl ⟨SqL.of hcp, fun z hz => ?_⟩⟩
    have m := (n0 (.lst ((frI bs (ws.take (ws.map V.int).length)).map V.int))).trans (Nx.new (o := .tup ((frI bs ws).map V.int)) (n0 _).gh hz)
    exact q _ _ _ m (.tup (SqT.of upd_same) (dpa_ints _))
def R_free : List PyData → PyData → Prop := fun ds d => ∃ bs ws : List Int, ds = [.tuple (bs.map .int), .tuple (ws.map .int)] ∧ IsBk bs ∧ Letters bs.length ws ∧ ws.length ≤ 200 ∧ d = .tuple ((frI bs ws).map .int)
theorem short_of {bs ws : List Int} (hw : Letters bs.length ws) (h200 : ws.length ≤ 200) : isShort ((bs.map PyData.int).length : Nat) 200 (.tuple (ws.map .int)) = true := by
  show (decide (((ws.map PyData.int).length : Int) ≤ 200) && (ws.map PyData.int).all (inR 0 (((bs.map PyData.int).length : Int) - 1))) = true
  rw [List.length_map, List.length_map, all_inR hw, decide_eq_true (by omega)]
  rfl
theorem sized_ints {ws : List Int} (h : ws.length ≤ 1000) : Sized (.tuple (ws.map .int)) := by
  show (ws.map PyData.int).length ≤ sizeLine
  rw [List.length_map]
  exact Nat.le_trans h (by decide)
theorem ok_free (D : DefAt K mg "free" s_free P_free f fd) (T : Bt mg) (h_want_back : Ok P w K mg base "want_back" P_want_back 5 (SpD K R_want_back)) (h_want_word : Ok P w K mg base "want_word" P_want_word 5 (SpD K R_want_word)) (h_freed : Ok P w K mg base "freed" P_freed 1 (SpD K R_freed)) :
    OkF P w K mg base "free" s_free P_free 6 (SpD K R_free) := by
  refine D.okF (okD D.F sc_free (fun ds d h => ?_) fun cdv A outer s H hr => ?_)
  · obtain ⟨bs, ws, rfl, _⟩ := h; rfl
  have S := sc_free
  refine ⟨_, (pss_cons (ps_expr (pe_ok h_want_back (hr.mono (by decide)) (by rfl) (pa_cons (pv 0) pa_nil)))
  (pss_cons (ps_expr (pe_ok h_want_word (hr.mono (by decide)) (by rfl) (pa_cons (pv 0) (pa_cons (pv 1) pa_nil))))
  (pss_one (ps_ret (pe_ok h_freed (hr.mono (by decide)) (by rfl) (pa_cons (pv 0) (pa_cons (pv 1) pa_nil))))))), fun G ds d vs hR ha H0 hs D' q _ => ?_⟩
  obtain ⟨bs, ws, rfl, hB, hw, h200, rfl⟩ := hR
  obtain _ | ⟨hb, _ | ⟨hx, _ | _⟩⟩ := ha
  have b12 := hB.six
  exact (rd_drop (ed_call (ea_cons (ed_var (i := 0) rfl hb) ea_nil) ⟨_, rfl, sized_ints (by omega), hB.is, rfl⟩) (rd_drop (ed_call (ea_cons (ed_var (i := 0) rfl hb) (ea_cons (ed_var (i := 1) rfl hx) ea_nil)) ⟨_, _, rfl, sized_ints (by omega), short_of hw h200, rfl⟩)
    (rd_ret (ed_call (ea_cons (ed_var (i := 0) rfl hb) (ea_cons (ed_var (i := 1) rfl hx) ea_nil)) ⟨bs, ws, rfl, hw, by omega, rfl⟩)))) H0 hs D' q
def unI (bs ws : List Int) : List Int := ws.reverse.map fun x => bs.getD x.toNat 0
def R_turned_back : List PyData → PyData → Prop := fun ds d => ∃ bs ws : List Int, ds = [.tuple (bs.map .int), .tuple (ws.map .int)] ∧ Letters bs.length ws ∧ ws.length ≤ 1000 ∧ d = .tuple ((unI bs ws).map .int)
theorem ok_turned_back (D : DefAt K mg "turned_back" s_turned_back P_turned_back f fd) (T : Bt mg) : Ok P w K mg base "turned_back" P_turned_back 1 (SpD K R_turned_back) := by
  refine D.ok (okD D.F sc_turned_back (fun ds d h => ?_) fun cdv A outer s H hr => ?_)
  · obtain ⟨bs, ws, rfl, _⟩ := h; rfl
  have S := sc_turned_back
  refine ⟨_, (pss_one (ps_ret (pe_callTy (q_tuple K rfl) (by rfl) T.tuple (by decide +kernel) (pa_cons (pe_lc (own := [("letter", 2)]) (g := gName 2) (by rfl) S.nd  (q_iT K rfl (q_revT K rfl (pv 1))) (blkOk_by (N := N_turned_back) (sc := defScope s_turned_back) (by decide +kernel)) (fun _ _ _ _ _ => (pg_name (i := 2) S.nd rfl (by first | exact .inl rfl | exact .inr rfl))) (fun _ _ _ _ _ => pts_nil) (fun _ _ _ _ _ => (pe_ix (q_ixT K rfl) (pv 0) (pv 2) (fun _ _ => rfl)))) pa_nil)))), fun G ds d vs hR ha H0 hs D' q _ => ?_⟩
  obtain ⟨bs, ws, rfl, hw, h1000, rfl⟩ := hR
  obtain _ | ⟨hb, _ | ⟨hx, _ | _⟩⟩ := ha
  refine (RtD.cast (rd_ret (ed_cb (ea_cons (EvN.toD (en_lcT1 (fun d => .int (bs.getD (toI d).toNat 0)) (ed_revT (ed_var (i := 1) rfl hx)) (fun _ => rfl) ?_ fun d v Gi hm g hd => ?_)) ea_nil) rcl_tupleL)) ?_) H0 hs D' q
  · rw [List.length_reverse, List.length_map]; exact Nat.le_trans h1000 (by decide)
  · obtain ⟨z, hz, rfl⟩ := List.mem_map.mp (List.mem_reverse.mp hm)
    have hzm := hw z hz
    have hzl : z.toNat < bs.length := by omega
    refine ed_op (ed_var (i := 0) rfl (dp_mono g _ hb)) (ed_var (i := 2) rfl hd) (ro_ixT (k := z.toNat) (by omega) ?_)
    rw [List.getElem?_map, List.getElem?_eq_getElem hzl]
    show some (PyData.int bs[z.toNat]) = some (PyData.int (bs.getD z.toNat 0))
    rw [List.getD_eq_getElem?_getD, List.getElem?_eq_getElem hzl]
    rfl
  · unfold unI
    rw [List.map_map, ← List.map_reverse, List.map_map]
    rfl
def R_undone : List PyData → PyData → Prop := fun ds d => ∃ bs ws : List Int, ds = [.tuple (bs.map .int), .tuple (ws.map .int)] ∧ IsBk bs ∧ Letters bs.length ws ∧ ws.length ≤ 200 ∧ d = .tuple ((unI bs ws).map .int)
theorem ok_undone (D : DefAt K mg "undone" s_undone P_undone f fd) (T : Bt mg) (h_want_back : Ok P w K mg base "want_back" P_want_back 5 (SpD K R_want_back)) (h_want_word : Ok P w K mg base "want_word" P_want_word 5 (SpD K R_want_word)) (h_turned_back : Ok P w K mg base "turned_back" P_turned_back 1 (SpD K R_turned_back)) :
    OkF P w K mg base "undone" s_undone P_undone 6 (SpD K R_undone) := by
  refine D.okF (okD D.F sc_undone (fun ds d h => ?_) fun cdv A outer s H hr => ?_)
  · obtain ⟨bs, ws, rfl, _⟩ := h; rfl
  have S := sc_undone
  refine ⟨_, (pss_cons (ps_expr (pe_ok h_want_back (hr.mono (by decide)) (by rfl) (pa_cons (pv 0) pa_nil)))
  (pss_cons (ps_expr (pe_ok h_want_word (hr.mono (by decide)) (by rfl) (pa_cons (pv 0) (pa_cons (pv 1) pa_nil))))
  (pss_one (ps_ret (pe_ok h_turned_back (hr.mono (by decide)) (by rfl) (pa_cons (pv 0) (pa_cons (pv 1) pa_nil))))))), fun G ds d vs hR ha H0 hs D' q _ => ?_⟩
  obtain ⟨bs, ws, rfl, hB, hw, h200, rfl⟩ := hR
  obtain _ | ⟨hb, _ | ⟨hx, _ | _⟩⟩ := ha
  have b12 := hB.six
  exact (rd_drop (ed_call (ea_cons (ed_var (i := 0) rfl hb) ea_nil) ⟨_, rfl, sized_ints (by omega), hB.is, rfl⟩) (rd_drop (ed_call (ea_cons (ed_var (i := 0) rfl hb) (ea_cons (ed_var (i := 1) rfl hx) ea_nil)) ⟨_, _, rfl, sized_ints (by omega), short_of hw h200, rfl⟩)
    (rd_ret (ed_call (ea_cons (ed_var (i := 0) rfl hb) (ea_cons (ed_var (i := 1) rfl hx) ea_nil)) ⟨bs, ws, rfl, hw, by omega, rfl⟩)))) H0 hs D' q
end
end Gw
namespace Gw
open PySem PyProof.Rows
/-! ### neighbours that undo one another, taken out: the mathematics -/
def bkI (bs : List Int) (x : Int) : Int := bs.getD x.toNat 0
theorem IsBk.at_ {bs : List Int} (B : IsBk bs) {x : Int} (h : 0 ≤ x ∧ x < (bs.length : Int)) : bs[x.toNat]? = some (bkI bs x) ∧ (0 ≤ bkI bs x ∧ bkI bs x < (bs.length : Int)) ∧ bkI bs (bkI bs x) = x := by
  have hk : x.toNat < bs.length := by omega
  obtain ⟨j, h1, h2⟩ := B.inv x.toNat hk
  have e : bkI bs x = (j : Int) := by
    unfold bkI
    rw [List.getD_eq_getElem?_getD, h1]
    rfl
  have hj := (List.getElem?_eq_some_iff.mp h2).1
  refine ⟨by rw [e, h1], ⟨by omega, by omega⟩, ?_⟩
  rw [e]
  unfold bkI
  rw [List.getD_eq_getElem?_getD, show ((j : Int)).toNat = j by omega, h2]
  show ((x.toNat : Nat) : Int) = x
  omega
/-- no two neighbours undo one another -/
def RdI (bs ws : List Int) : Prop := ∀ (L : List Int) (a b : Int) (R : List Int), ws = L ++ a :: b :: R → b ≠ bkI bs a
theorem RdI.nil {bs : List Int} : RdI bs [] := fun L a b R e => by
  have := congrArg List.length e
  simp at this
theorem RdI.front {bs u v : List Int} (h : RdI bs (u ++ v)) : RdI bs u := fun L a b R e => h L a b (R ++ v) (by rw [e]; simp)
theorem RdI.snoc {bs L : List Int} {x : Int} (h : RdI bs L) (hx : ∀ M y, L = M ++ [y] → x ≠ bkI bs y) : RdI bs (L ++ [x]) := fun M a b R e => by
  rcases List.eq_nil_or_concat R with rfl | ⟨R', z, rfl⟩
  · have e2 : L ++ [x] = (M ++ [a]) ++ [b] := by rw [e]; simp
    obtain ⟨e3, e4⟩ := List.append_inj' e2 rfl
    cases e4
    exact hx M a e3
  · have e2 : L ++ [x] = (M ++ a :: b :: R') ++ [z] := by rw [e]; simp
    obtain ⟨e3, _⟩ := List.append_inj' e2 rfl
    exact h M a b R' e3
section
variable {bs : List Int} (B : IsBk bs)
include B
/-- one letter more, told by what stands last -/
theorem frSt_cases {left : List Int} {x : Int} (hx : 0 ≤ x ∧ x < (bs.length : Int)) : (∃ L, left = L ++ [bkI bs x] ∧ frSt bs left x = L) ∨ ((∀ L, left ≠ L ++ [bkI bs x]) ∧ frSt bs left x = left ++ [x]) := by
  obtain ⟨h1, _, _⟩ := B.at_ hx
  by_cases h : ∃ L, left = L ++ [bkI bs x]
  · obtain ⟨L, rfl⟩ := h
    refine .inl ⟨L, rfl, ?_⟩
    unfold frSt
    rw [if_pos ⟨by simp, by rw [List.getLast?_concat, h1]⟩]
    simp
  · refine .inr ⟨fun L e => h ⟨L, e⟩, ?_⟩
    unfold frSt
    rw [if_neg]
    rintro ⟨h2, h3⟩
    rw [h1] at h3
    obtain ⟨L, e⟩ := List.getLast?_eq_some_iff.mp h3
    exact h ⟨L, e⟩
theorem frSt_red {left : List Int} {x : Int} (hl : Letters bs.length left) (hr : RdI bs left) (hx : 0 ≤ x ∧ x < (bs.length : Int)) : RdI bs (frSt bs left x) := by
  rcases frSt_cases B (left := left) hx with ⟨L, rfl, e⟩ | ⟨h, e⟩
  · rw [e]; exact hr.front
  · rw [e]
    refine hr.snoc fun M y em z => ?_
    have hy : 0 ≤ y ∧ y < (bs.length : Int) := hl y (by rw [em]; simp)
    refine h M ?_
    rw [em, z, (B.at_ hy).2.2]
/-- a letter and what undoes it -/
theorem fr_cancel {left : List Int} {x : Int} (hl : Letters bs.length left) (hr : RdI bs left) (hx : 0 ≤ x ∧ x < (bs.length : Int)) : frSt bs (frSt bs left x) (bkI bs x) = left := by
  obtain ⟨_, hb, hbb⟩ := B.at_ hx
  rcases frSt_cases B (left := left) hx with ⟨L, rfl, e⟩ | ⟨h, e⟩
  · rw [e]
    rcases frSt_cases B (left := L) hb with ⟨M, em, _⟩ | ⟨_, e2⟩
    · rw [hbb] at em
      exact absurd rfl (hr M x (bkI bs x) [] (by rw [em]; simp))
    · exact e2
  · rw [e]
    rcases frSt_cases B (left := left ++ [x]) hb with ⟨M, em, e2⟩ | ⟨h2, _⟩
    · rw [hbb] at em
      rw [e2]
      exact (List.append_inj' em rfl).1.symm
    · exact absurd (by rw [hbb]) (h2 left)
theorem fold_red : ∀ {ws left : List Int}, Letters bs.length left → RdI bs left → Letters bs.length ws → RdI bs (ws.foldl (frSt bs) left)
  | [], _, _, hr, _ => hr
  | x :: ws, left, hl, hr, hw => by
    rw [List.foldl_cons]
    have hx := hw x List.mem_cons_self
    exact fold_red (frSt_let hl hx) (frSt_red B hl hr hx) fun y hy => hw y (List.mem_cons_of_mem _ hy)
/-- two words do the same, put behind any free word -/
def Sam (bs u v : List Int) : Prop := ∀ left, Letters bs.length left → RdI bs left → u.foldl (frSt bs) left = v.foldl (frSt bs) left
omit B in
theorem Sam.refl (u : List Int) : Sam bs u u := fun _ _ _ => rfl
omit B in
theorem Sam.symm {u v : List Int} (h : Sam bs u v) : Sam bs v u := fun l h1 h2 => (h l h1 h2).symm
omit B in
theorem Sam.trans {u v w : List Int} (h : Sam bs u v) (h' : Sam bs v w) : Sam bs u w := fun l h1 h2 => (h l h1 h2).trans (h' l h1 h2)
theorem Sam.cong {u v : List Int} (a b : List Int) (ha : Letters bs.length a) (h : Sam bs u v) : Sam bs (a ++ u ++ b) (a ++ v ++ b) := fun l h1 h2 => by
  rw [List.foldl_append, List.foldl_append, List.foldl_append, List.foldl_append, h _ (frI_let a l h1 ha) (fold_red B h1 h2 ha)]
theorem Sam.pair {x : Int} (hx : 0 ≤ x ∧ x < (bs.length : Int)) : Sam bs [x, bkI bs x] [] := fun l h1 h2 => fr_cancel B h1 h2 hx
theorem Sam.fr {u v : List Int} (h : Sam bs u v) : frI bs u = frI bs v := h [] (fun _ z => nomatch z) .nil
/-- a pair put in -/
theorem Sam.put (a b : List Int) {x : Int} (ha : Letters bs.length a) (hx : 0 ≤ x ∧ x < (bs.length : Int)) : Sam bs (a ++ [x, bkI bs x] ++ b) (a ++ b) := by
  have := Sam.cong B a b ha (Sam.pair B hx)
  simpa using this
theorem frI_red {ws : List Int} (hw : Letters bs.length ws) : RdI bs (frI bs ws) := fold_red B (fun _ z => nomatch z) .nil hw
omit B in
theorem frI_letters {ws : List Int} (hw : Letters bs.length ws) : Letters bs.length (frI bs ws) := frI_let ws [] (fun _ z => nomatch z) hw
/-- what is free stays -/
theorem fold_same : ∀ {ws left : List Int}, Letters bs.length left → Letters bs.length ws → RdI bs (left ++ ws) → ws.foldl (frSt bs) left = left ++ ws
  | [], left, _, _, _ => by simp
  | x :: ws, left, hl, hw, hr => by
    rw [List.foldl_cons]
    have hx := hw x List.mem_cons_self
    have e : frSt bs left x = left ++ [x] := by
      rcases frSt_cases B (left := left) hx with ⟨L, rfl, _⟩ | ⟨_, e⟩
      · exact absurd (B.at_ hx).2.2.symm (hr L (bkI bs x) x ws (by simp))
      · exact e
    rw [e, fold_same (left := left ++ [x]) (by rw [← e]; exact frSt_let hl hx) (fun y hy => hw y (List.mem_cons_of_mem _ hy)) (by simpa using hr)]
    simp
theorem frI_same {ws : List Int} (hw : Letters bs.length ws) (hr : RdI bs ws) : frI bs ws = ws := by
  have := fold_same B (left := []) (fun _ z => nomatch z) hw (by simpa using hr)
  unfold frI
  simpa using this
omit B in
theorem Letters.app {n : Nat} {u v : List Int} (h : Letters n u) (h' : Letters n v) : Letters n (u ++ v) := fun x hx => (List.mem_append.mp hx).elim (h x) (h' x)
omit B in
theorem Letters.l {n : Nat} {u v : List Int} (h : Letters n (u ++ v)) : Letters n u := fun x hx => h x (List.mem_append_left _ hx)
omit B in
theorem Letters.r {n : Nat} {u v : List Int} (h : Letters n (u ++ v)) : Letters n v := fun x hx => h x (List.mem_append_right _ hx)
omit B in
theorem Letters.one {n : Nat} {x : Int} (h : 0 ≤ x ∧ x < (n : Int)) : Letters n [x] := fun y hy => by rw [List.mem_singleton.mp hy]; exact h
omit B in
theorem unI_eq (ws : List Int) : unI bs ws = ws.reverse.map (bkI bs) := rfl
omit B in
theorem unI_snoc (ws : List Int) (x : Int) : unI bs (ws ++ [x]) = bkI bs x :: unI bs ws := by
  rw [unI_eq, unI_eq, List.reverse_append]
  rfl
theorem unI_let {ws : List Int} (hw : Letters bs.length ws) : Letters bs.length (unI bs ws) := fun y hy => by
  rw [unI_eq] at hy
  obtain ⟨x, hx, rfl⟩ := List.mem_map.mp hy
  exact (B.at_ (hw x (List.mem_reverse.mp hx))).2.1
theorem unI_unI {ws : List Int} (hw : Letters bs.length ws) : unI bs (unI bs ws) = ws := by
  rw [unI_eq, unI_eq, ← List.map_reverse, List.reverse_reverse, List.map_map]
  refine (List.map_congr_left fun x hx => ?_).trans (List.map_id ws)
  exact (B.at_ (hw x hx)).2.2
omit B in
theorem unI_len (ws : List Int) : (unI bs ws).length = ws.length := by rw [unI_eq, List.length_map, List.length_reverse]
theorem unI_red {ws : List Int} (hw : Letters bs.length ws) (hr : RdI bs ws) : RdI bs (unI bs ws) := fun L a b R e z => by
  have e2 : ws = unI bs R ++ bkI bs b :: bkI bs a :: unI bs L := by
    have := congrArg (unI bs) e
    rw [unI_unI B hw] at this
    rw [this, unI_eq, unI_eq, unI_eq]
    simp
  have hab : 0 ≤ a ∧ a < (bs.length : Int) := unI_let B hw a (by rw [e]; simp)
  refine hr _ _ _ _ e2 ?_
  rw [z, (B.at_ hab).2.2]
theorem sam_free : ∀ (n : Nat) {ws : List Int}, ws.length = n → Letters bs.length ws → Sam bs ws (frI bs ws)
  | 0, ws, h, _ => by
    rw [List.eq_nil_of_length_eq_zero h]
    exact Sam.refl _
  | n + 1, ws, h, hw => by
    obtain ⟨L, x, rfl⟩ : ∃ L x, ws = L ++ [x] := by
      rcases List.eq_nil_or_concat ws with rfl | ⟨L, x, e⟩
      · simp at h
      · exact ⟨L, x, by simpa using e⟩
    have hx : 0 ≤ x ∧ x < (bs.length : Int) := hw x (by simp)
    have ih := sam_free n (ws := L) (by simpa using h) hw.l
    have e : frI bs (L ++ [x]) = frSt bs (frI bs L) x := by unfold frI; rw [List.foldl_append]; rfl
    rw [e]
    intro left h1 h2
    rw [List.foldl_append, ih left h1 h2]
    show frSt bs _ x = _
    rcases frSt_cases B (left := frI bs L) hx with ⟨M, em, e2⟩ | ⟨_, e2⟩
    · have lM : Letters bs.length M := by
        have := frI_letters (bs := bs) hw.l
        rw [em] at this
        exact this.l
      rw [e2, em, List.foldl_append]
      have := fr_cancel B (frI_let M left h1 lM) (fold_red B h1 h2 lM) (B.at_ hx).2.1
      rw [(B.at_ hx).2.2] at this
      exact this
    · rw [e2, List.foldl_append]
      rfl
theorem sam_undo : ∀ (n : Nat) {ws : List Int}, ws.length = n → Letters bs.length ws → Sam bs (unI bs ws) (unI bs (frI bs ws))
  | 0, ws, h, _ => by
    rw [List.eq_nil_of_length_eq_zero h]
    exact Sam.refl _
  | n + 1, ws, h, hw => by
    obtain ⟨L, x, rfl⟩ : ∃ L x, ws = L ++ [x] := by
      rcases List.eq_nil_or_concat ws with rfl | ⟨L, x, e⟩
      · simp at h
      · exact ⟨L, x, by simpa using e⟩
    have hx : 0 ≤ x ∧ x < (bs.length : Int) := hw x (by simp)
    obtain ⟨_, hb, hbb⟩ := B.at_ hx
    have ih := sam_undo n (ws := L) (by simpa using h) hw.l
    have e : frI bs (L ++ [x]) = frSt bs (frI bs L) x := by unfold frI; rw [List.foldl_append]; rfl
    have st : Sam bs (unI bs (L ++ [x])) (bkI bs x :: unI bs (frI bs L)) := by
      rw [unI_snoc]
      have := Sam.cong B [bkI bs x] [] (.one hb) ih
      simpa using this
    refine st.trans ?_
    rw [e]
    rcases frSt_cases B (left := frI bs L) hx with ⟨M, em, e2⟩ | ⟨_, e2⟩
    · rw [e2, em, unI_snoc, hbb]
      have := Sam.put B [] (unI bs M) (x := bkI bs x) (fun _ z => nomatch z) hb
      rw [hbb] at this
      simpa using this
    · rw [e2, unI_snoc]
      exact Sam.refl _
/-- to undo and to free -/
theorem free_undone {ws : List Int} (hw : Letters bs.length ws) : frI bs (unI bs ws) = unI bs (frI bs ws) :=
  (Sam.fr B (sam_undo B _ rfl hw)).trans (frI_same B (unI_let B (frI_letters hw)) (unI_red B (frI_letters hw) (frI_red B hw)))
/-- a word behind what undoes it -/
theorem undo_none : ∀ {ws left : List Int}, Letters bs.length left → RdI bs left → Letters bs.length ws → (ws ++ unI bs ws).foldl (frSt bs) left = left
  | [], _, _, _, _ => rfl
  | x :: ws, left, hl, hr, hw => by
    have hx := hw x List.mem_cons_self
    have hw' : Letters bs.length ws := fun y hy => hw y (List.mem_cons_of_mem _ hy)
    have e : unI bs (x :: ws) = unI bs ws ++ [bkI bs x] := by rw [unI_eq, unI_eq]; simp
    rw [e, List.cons_append, List.foldl_cons, ← List.append_assoc, List.foldl_append, undo_none (frSt_let hl hx) (frSt_red B hl hr hx) hw']
    exact fr_cancel B hl hr hx
theorem undo_free {ws : List Int} (hw : Letters bs.length ws) : frI bs (ws ++ unI bs ws) = [] := undo_none B (fun _ z => nomatch z) .nil hw
end
/-! ### the least of rows -/
def kLt (a b : List Int) : Prop := a.length < b.length ∨ (a.length = b.length ∧ a < b)
instance (a b : List Int) : Decidable (kLt a b) := by unfold kLt; infer_instance
theorem key_lt (a b : List Int) : PySem.W.dataLt (keyD a) (keyD b) = decide (kLt a b) := by
  unfold keyD
  have ha : PySem.W.alike (.int (a.length : Int)) (.int (b.length : Int)) = true := by simp [PySem.W.alike]
  have hb : PySem.W.alike (.tuple (a.map .int)) (.tuple (b.map .int)) = true := by
    have e : PySem.W.alike (.tuple (a.map .int)) (.tuple (b.map .int)) = PySem.W.alikeAll (a.map PyData.int) (b.map PyData.int) := by simp [PySem.W.alike]
    rw [e, alike_ints]
  rw [PySem.W.dataLt_pair ha hb, PySem.W.dataLt_int, PySem.W.dataLt_tuple]
  have e2 : PyProof.Rows.lexLt itemOrd (PySem.W.keyToksAll (a.map PyData.int)) (PySem.W.keyToksAll (b.map PyData.int)) = decide (a < b) := PySem.W.dataLt_ints a b
  rw [e2]
  have e3 : PyData.eqv (.int (a.length : Int)) (.int (b.length : Int)) = decide (a.length = b.length) := by
    show ((a.length : Int) == (b.length : Int)) = _
    by_cases h : a.length = b.length
    · rw [h]; simp
    · rw [decide_eq_false h]
      exact beq_eq_false_iff_ne.mpr (by omega)
  rw [e3]
  by_cases h : a.length = b.length
  · rw [if_pos (decide_eq_true h)]
    have e5 : decide (kLt a b) = decide (a < b) := by
      refine decide_eq_decide.mpr ⟨fun z => ?_, fun z => .inr ⟨h, z⟩⟩
      rcases z with z | z
      · omega
      · exact z.2
    rw [e5]
    split
    · rename_i h2
      have e4 : a = b := by
        have h3 : PyData.eqvAll (a.map PyData.int) (b.map PyData.int) = true := by simpa [PyData.eqv] using h2
        clear e2 e3 e5 ha hb h h2
        induction a generalizing b with
        | nil => cases b with
          | nil => rfl
          | cons y b => simp [PyData.eqvAll] at h3
        | cons x a ih => cases b with
          | nil => simp [PyData.eqvAll] at h3
          | cons y b =>
            rw [List.map_cons, List.map_cons, PyData.eqvAll, Bool.and_eq_true] at h3
            have h4 : (x == y) = true := h3.1
            rw [eq_of_beq h4, ih _ h3.2]
      subst e4
      simp [List.lt_irrefl]
    · rfl
  · rw [if_neg (by simp [h])]
    refine decide_eq_decide.mpr ⟨fun z => .inl (by omega), fun z => ?_⟩
    rcases z with z | z
    · omega
    · exact absurd z.1 h
theorem kLt_irrefl (a : List Int) : ¬ kLt a a := fun h => by
  rcases h with h | h
  · omega
  · exact List.lt_irrefl _ h.2
theorem kLt_trans {a b c : List Int} (h : kLt a b) (h' : kLt b c) : kLt a c := by
  rcases h with h | h
  · rcases h' with h' | h'
    · exact .inl (by omega)
    · exact .inl (by omega)
  · rcases h' with h' | h'
    · exact .inl (by omega)
    · exact .inr ⟨by omega, List.lt_trans h.2 h'.2⟩
theorem best_least (rows : Nat → List Int) : ∀ (k : Nat), PySem.argBest (btR rows) k ≤ k ∧ ∀ i, i ≤ k → ¬ kLt (rows i) (rows (PySem.argBest (btR rows) k))
  | 0 => ⟨Nat.le_refl _, fun i hi => by
    rw [Nat.le_zero.mp hi]
    exact kLt_irrefl _⟩
  | k + 1 => by
    obtain ⟨h1, h2⟩ := best_least rows k
    have e : btR rows (k + 1) (PySem.argBest (btR rows) k) = decide (kLt (rows (k + 1)) (rows (PySem.argBest (btR rows) k))) := key_lt _ _
    rw [PySem.argBest, e]
    by_cases h : kLt (rows (k + 1)) (rows (PySem.argBest (btR rows) k))
    · rw [if_pos (decide_eq_true h)]
      refine ⟨Nat.le_refl _, fun i hi z => ?_⟩
      rcases Nat.lt_or_ge i (k + 1) with hl | hl
      · exact h2 i (by omega) (kLt_trans z h)
      · rw [show i = k + 1 by omega] at z
        exact kLt_irrefl _ z
    · rw [if_neg (by simp [h])]
      refine ⟨by omega, fun i hi => ?_⟩
      rcases Nat.lt_or_ge i (k + 1) with hl | hl
      · exact h2 i (by omega)
      · rw [show i = k + 1 by omega]
        exact h
end Gw
namespace Gw
open PySem PySem.Spec PyProof.Rows L2
/-! ### rows that may be shown -/
def rowD (r : List Int) : PyData := .tuple (r.map .int)
theorem small_len {x : Int} (h : 0 ≤ x ∧ x < 12) : (PyData.shown (.int x)).length ≤ 2 := by
  have e : ∀ k : Fin 12, (PyData.shown (.int (k.val : Int))).length ≤ 2 := by decide +kernel
  have := e ⟨x.toNat, by omega⟩
  rwa [show ((x.toNat : Nat) : Int) = x by omega] at this
theorem piled_small : ∀ {ws : List Int}, Letters 12 ws → piled (PyData.shownAll (ws.map .int)) ≤ 4 * ws.length
  | [], _ => by simp [PyData.shownAll, piled]
  | x :: ws, h => by
    have h1 := small_len (h x List.mem_cons_self)
    have h2 := piled_small (ws := ws) fun y hy => h y (List.mem_cons_of_mem _ hy)
    rw [List.map_cons, PyData.shownAll]
    simp only [piled, List.map_cons, List.sum_cons, List.length_cons] at h2 ⊢
    omega
theorem tuple_len (ts : List Str) : (tupleText ts).length ≤ piled ts + 3 := by
  have hl : ∀ b : Bool, ((if b = true then ",)" else ")" : String) : Str).length ≤ 2 := fun b => by cases b <;> decide
  unfold tupleText
  rw [strLen_append, strLen_append]
  have h1 : ((("(" : String) : Str)).length = 1 := by decide
  have h2 := hl (ts.length == 1)
  cases ts with
  | nil =>
    have : (Str.join ", " []).length = 0 := by decide
    omega
  | cons t r =>
    have := join_length_add (t :: r) (by simp)
    omega
theorem shown_row {ws : List Int} (h : Letters 12 ws) : (rowD ws).shown.length ≤ 4 * ws.length + 3 := by
  have h1 := piled_small h
  have h2 := tuple_len (PyData.shownAll (ws.map .int))
  show (tupleText (PyData.shownAll (ws.map .int))).length ≤ _
  omega
theorem showable_row : ∀ {ws : List Int}, Letters 12 ws → PyData.showableAll (ws.map .int) = true
  | [], _ => by simp [PyData.showableAll]
  | x :: ws, h => by
    have hx := h x List.mem_cons_self
    have h2 := showable_row (ws := ws) fun y hy => h y (List.mem_cons_of_mem _ hy)
    rw [List.map_cons, PyData.showableAll, h2, Bool.and_true]
    show decide (x.natAbs.log2 < 1920) = true
    refine decide_eq_true ?_
    have : x.natAbs.log2 ≤ x.natAbs := Nat.log2_le_self _
    omega
theorem nodict_row : ∀ (ws : List Int), PyData.hasDictAll (ws.map .int) = false
  | [] => by simp [PyData.hasDictAll]
  | x :: ws => by
    rw [List.map_cons, PyData.hasDictAll, nodict_row ws]
    simp [PyData.hasDict]
theorem depth_row : ∀ (ws : List Int), PyData.depthAll (ws.map .int) = 0
  | [] => rfl
  | x :: ws => by
    rw [List.map_cons, PyData.depthAll, depth_row ws]
    rfl
theorem showy_row {ws : List Int} (h : Letters 12 ws) (hl : ws.length ≤ 1000) : Showy (rowD ws) where
  s := by
    show (PyData.tuple (ws.map .int)).showable = true
    simp only [PyData.showable]
    exact showable_row h
  n := by
    show (PyData.tuple (ws.map .int)).hasDict = false
    simp only [PyData.hasDict]
    exact nodict_row ws
  z := by
    have := shown_row h
    exact Nat.le_trans (by omega : _ ≤ 5000) (by decide)
  p := by
    show (PyData.tuple (ws.map .int)).depth ≤ 60
    rw [PyData.depth, depth_row]
    omega
theorem textFrom_le : ∀ (ts : List Str) (k : Nat) (acc : Str), (textFrom k acc ts).length ≤ acc.length + piled ts
  | [], k, acc => Nat.le_add_right _ _
  | t :: r, k, acc => by
    have h := textFrom_le r (k + 1) (acc ++ (if k > 0 then ", " else "" : String) ++ t)
    have e : (acc ++ (if k > 0 then ", " else "" : String) ++ t).length ≤ acc.length + 2 + t.length := by
      rw [strLen_append, strLen_append]
      have : (((if k > 0 then ", " else "" : String) : String) : Str).length ≤ 2 := by
        split <;> decide
      omega
    show (textFrom (k + 1) (acc ++ (if k > 0 then ", " else "" : String) ++ t) r).length ≤ _
    simp only [piled, List.map_cons, List.sum_cons] at h ⊢
    omega
theorem showy_two {u v : List Int} (hu : Letters 12 u) (hv : Letters 12 v) (lu : u.length ≤ 1000) (lv : v.length ≤ 1000) : Showy (.list [rowD u, rowD v]) where
  s := by
    have a := (showy_row hu lu).s
    have b := (showy_row hv lv).s
    simp only [PyData.showable, PyData.showableAll, a, b, Bool.and_self]
  n := by
    have a := (showy_row hu lu).n
    have b := (showy_row hv lv).n
    simp only [PyData.hasDict, PyData.hasDictAll, a, b, Bool.or_self]
  z := by
    have a := shown_row hu
    have b := shown_row hv
    show (listText (PyData.shownAll [rowD u, rowD v])).length ≤ _
    unfold listText
    rw [strLen_append]
    have h := textFrom_le (PyData.shownAll [rowD u, rowD v]) 0 "["
    have h1 : ((("[" : String) : Str)).length = 1 := by decide
    have h2 : ((("]" : String) : Str)).length = 1 := by decide
    have e : PyData.shownAll [rowD u, rowD v] = [(rowD u).shown, (rowD v).shown] := by simp only [PyData.shownAll]
    rw [e] at h ⊢
    simp only [piled, List.map_cons, List.map_nil, List.sum_cons, List.sum_nil] at h
    exact Nat.le_trans (by omega : _ ≤ 10000) (by decide)
  p := by
    have a := (showy_row hu lu).p
    have b := (showy_row hv lv).p
    have a : (rowD u).depth ≤ 1 := by
      show (PyData.tuple (u.map .int)).depth ≤ 1
      rw [PyData.depth, depth_row]
      omega
    have b : (rowD v).depth ≤ 1 := by
      show (PyData.tuple (v.map .int)).depth ≤ 1
      rw [PyData.depth, depth_row]
      omega
    simp only [PyData.depth, PyData.depthAll]
    omega
end Gw
namespace Gw
open PySem PySem.Spec PyProof.Rows L2
section
variable {P : Program} {w : World} {K : PySem.W.Frag} {mg : Str → Option Value} {base : Heap} {f : Addr} {fd : FuncData}
theorem ok_rank (D : DefAt K mg "rank" s_rank P_rank f fd) (T : Bt mg) : OkF P w K mg base "rank" s_rank P_rank 1 (spRank K) := by
  refine D.okF (D.F.ok sc_rank (fun vs H Q E h => ?_) fun cdv A outer s H vs Q E hr h => ?_)
  · obtain ⟨a, xs, rfl, _⟩ := h; rfl
  have S := sc_rank
  obtain ⟨a, xs, rfl, hs, q⟩ := h
  refine ⟨_, (pss_one (ps_ret (pe_tup (pa_cons (pe_callB (q_len K rfl) (by rfl) T.len PySem.boot_len (pa_cons (pv 0) pa_nil)) (pa_cons (pv 0) pa_nil))))), ?_⟩
  exact ⟨_, rfl, ⟨a, xs, rfl, .inr hs, _, rfl, (by decide : 2 ≤ sizeLine), fun p hp => q p hp⟩⟩
def spLeast (K : PySem.W.Frag) : Sp := fun vs H Q _ => ∃ (a : Addr) (xs : List V) (rows : Nat → List Int), vs = [V.ref a] ∧ (SqL K H a xs ∨ SqT K H a xs) ∧ 0 < xs.length ∧
  (∀ i x, xs[i]? = some x → ∃ r, x = .ref r ∧ SqT K H r ((rows i).map V.int)) ∧ ∀ x, xs[argBest (btR rows) (xs.length - 1)]? = some x → Q x H
theorem ok_least_of (D : DefAt K mg "least_of" s_least_of P_least_of f fd) (T : Bt mg) (h_rank : OkF P w K mg base "rank" s_rank P_rank 1 (spRank K)) : OkF P w K mg base "least_of" s_least_of P_least_of 3 (spLeast K) := by
  refine D.okF (D.F.ok sc_least_of (fun vs H Q E h => ?_) fun cdv A outer s H vs Q E hr h => ?_)
  · obtain ⟨a, xs, rows, rfl, _⟩ := h; rfl
  have S := sc_least_of
  obtain ⟨a, xs, rows, rfl, hs, hn, hx, q⟩ := h
  obtain ⟨f_rank, fd_rank, D_rank, F_rank⟩ := h_rank
  have b_rank := D_rank.b
  have m_rank := D_rank.m
  refine ⟨_, (pss_one (ps_ret (pe_callBK (cr_minKey F_rank b_rank (hr.mono (by decide))) (by rfl) T.min (by decide +kernel) (pa_cons (pv 0) pa_nil) (pk_cons (pe_glob (v := .ref f_rank) (by rfl) m_rank rfl) pk_nil)))), ?_⟩
  exact ⟨_, rfl, a, xs, rows, rfl, rfl, hs, hn, hx, q⟩
theorem kb_free : KwOf "free" s_free P_free ["word", "back"] g21 g21 := kw21 fun _ _ _ _ _ _ _ _ => rfl
theorem kb_undone : KwOf "undone" s_undone P_undone ["word", "back"] g21 g21 := kw21 fun _ _ _ _ _ _ _ _ => rfl
theorem kb_least_of : KwOf "least_of" s_least_of P_least_of ["words"] g1 g1 := kw1 fun _ _ _ _ _ _ _ => rfl
end
end Gw
namespace Gw
open PySem PySem.Spec PyProof.Rows L2
/-! ### statements over a view -/
section
variable {K : PySem.W.Frag} {σ : L2.St} {G H : Hp} {te ta tb : TE} {tt tu : TT} {tA tR : TA} {d e z : PyData} {ds es : List PyData} {t u : TS} {D : Ends}
theorem seq_let {i : Nat} (h : EvD K te σ G d) (s : Same G H) (k : ∀ v G1 H1, Nx G H G1 H1 → Dp K G1 v d → u D (σ.set i (some v)) H1) : tSeq (tAsg te (gName i)) u D σ H := h H s _ fun v G1 H1 n hd => k v G1 H1 n hd
theorem asg_let {i : Nat} (h : EvD K te σ G d) (s : Same G H) (k : ∀ v G1 H1, Nx G H G1 H1 → Dp K G1 v d → D.nx (σ.set i (some v)) H1) : tAsg te (gName i) D σ H := h H s _ fun v G1 H1 n hd => k v G1 H1 n hd
theorem seq_letN {i : Nat} (h : EvN K te σ G ds) (s : Same G H) (k : ∀ p vs G1 H1, Nx G H G1 H1 → H p = none → H1 p = some (.lst vs) → DpAll K G1 vs ds → u D (σ.set i (some (.ref p))) H1) : tSeq (tAsg te (gName i)) u D σ H := h H s _ fun p vs G1 H1 n hp _ e ha => k p vs G1 H1 n hp e ha
theorem seq_chk (h : EvB K tt σ G false) (s : Same G H) (k : ∀ G1 H1, Nx G H G1 H1 → u D σ H1) : tSeq (tIfS tt t tNext) u D σ H := h H s _ fun G1 H1 n => if_off rfl (k G1 H1 n)
theorem if_chk (h : EvB K tt σ G false) (s : Same G H) (k : ∀ G1 H1, Nx G H G1 H1 → D.nx σ H1) : tIfS tt t tNext D σ H := h H s _ fun G1 H1 n => if_off rfl (k G1 H1 n)
theorem eb_or0 (h1 : EvB K tt σ G false) (h2 : EvB K tu σ G false) : EvB K (tOr tt tu) σ G false := eb_or (a := false) (b := false) h1 fun _ => h2
theorem g21_dp {G' : Hp} {vs zs : List V} {x y : PyData} (h : DpAll K G' vs []) (h' : DpAll K G' zs [x, y]) : DpAll K G' (g21 vs zs) [y, x] := by
  cases h
  obtain _ | ⟨a, _ | ⟨b, _ | _⟩⟩ := h'
  exact .cons b (.cons a .nil)
end
end Gw
namespace Gw
open PySem PySem.Spec PyProof.Rows L2
section
variable {K : PySem.W.Frag} {σ : L2.St} {G H : Hp} {te ta tb : TE} {tt tu : TT} {tA tR : TA} {d e z : PyData} {ds es : List PyData} {t u : TS} {D : Ends}
/-! ### the least of rows -/
def bestI (rows : List (List Int)) : Nat := argBest (btR fun i => rows.getD i []) (rows.length - 1)
def bestRow (rows : List (List Int)) : List Int := rows.getD (bestI rows) []
theorem rows_at {vs : List V} {rows : List (List Int)} (h : DpAll K G vs (rows.map rowD)) (i : Nat) (x : V) (hx : vs[i]? = some x) : i < rows.length ∧ ∃ r, x = V.ref r ∧ SqT K G r ((rows.getD i []).map V.int) := by
  obtain ⟨d, h1, h2⟩ := dpa_get h hx
  rw [List.getElem?_map] at h1
  cases e : rows[i]? with
  | none => rw [e] at h1; cases h1
  | some r =>
    rw [e] at h1
    cases h1
    obtain ⟨a, e1, e2⟩ := dp_ints_t h2
    refine ⟨(List.getElem?_eq_some_iff.mp e).1, a, e1, ?_⟩
    rw [List.getD_eq_getElem?_getD, e]
    exact e2
theorem least_core {a : Addr} {vs : List V} {rows : List (List Int)} (s : Same G H) (hs : SqL K G a vs ∨ SqT K G a vs) (h : DpAll K G vs (rows.map rowD)) (hn : 0 < rows.length) {Q : VK} {E : XK} (q : ∀ v G' H', Nx G H G' H' → Dp K G' v (rowD (bestRow rows)) → Q v H') : spLeast K [.ref a] H Q E := by
  have hl : vs.length = rows.length := by rw [dpa_length h, List.length_map]
  refine ⟨a, vs, fun i => rows.getD i [], rfl, hs.imp s.seq (same_tup s), by omega, fun i x hx => ?_, fun x hx => ?_⟩
  · obtain ⟨_, r, e1, e2⟩ := rows_at h i x hx
    exact ⟨r, e1, same_tup s e2⟩
  · obtain ⟨_, r, rfl, e2⟩ := rows_at h _ x hx
    rw [hl] at e2
    exact q _ G H (Nx.refl s) (.tup e2 (dpa_ints _))
theorem ed_least {E : XK} {rows : List (List Int)} (ha : EvA K tA σ G [.list (rows.map rowD)]) (hn : 0 < rows.length) : EvD K (tCall (spLeast K) [] E tA) σ G (rowD (bestRow rows)) := fun H s Q q =>
  ha H s _ fun vs G1 H1 n1 hv => by
    obtain _ | ⟨h, _ | _⟩ := hv
    cases h with
    | @lst a xs _ hs hx => exact least_core n1.gh (.inl hs) hx hn fun v G' H' n hd => q v G' H' (n1.trans n) hd
theorem ed_leastK {E : XK} {tk : TA} {rows : List (List Int)} (hk : EvA K tk σ G [.tuple (rows.map rowD)]) (hn : 0 < rows.length) : EvD K (tCallK (spLeast K) g1 E tNil tk) σ G (rowD (bestRow rows)) := fun H s Q q =>
  hk H s _ fun zs G1 H1 n1 hv => by
    obtain _ | ⟨h, _ | _⟩ := hv
    cases h with
    | @tup a xs _ hs hx => exact least_core n1.gh (.inr hs) hx hn fun v G' H' n hd => q v G' H' (n1.trans n) hd
/-- sorted(rows)[0], of rows of one length: m is the only one that may stand first -/
theorem ed_sort0 {rows : List (List Int)} {L : Nat} {m : List Int} (ha : EvA K tA σ G [.list (rows.map rowD)]) (hL : ∀ r ∈ rows, r.length = L) (hn : 0 < rows.length) (hm : ∀ z ∈ rows, (∀ r ∈ rows, ¬ r < z) → z = m) :
    EvD K (tOp (rIxL K) (tCB (rSortRows K) tA) (tC (.int 0))) σ G (rowD m) := fun H s Q q =>
  ha H s _ fun vs G1 H1 n1 hv => by
    obtain _ | ⟨h, _ | _⟩ := hv
    cases h with
    | @lst a xs _ hs hx =>
      have hl : xs.length = rows.length := by rw [dpa_length hx, List.length_map]
      refine ⟨a, xs, fun i => rows.getD i [], L, rfl, n1.gh.seq hs, fun i x hi => ?_, fun p zs hp hz h0 => ?_⟩
      · obtain ⟨hi', r, e1, e2⟩ := rows_at hx i x hi
        refine ⟨hL _ ?_, r, e1, same_tup n1.gh e2⟩
        show rows.getD i [] ∈ rows
        rw [List.getD_eq_getElem?_getD, List.getElem?_eq_getElem hi']
        exact List.getElem_mem hi'
      · obtain ⟨j, x, e1, e2, e3⟩ := h0 (by omega)
        obtain ⟨hj, r, rfl, e5⟩ := rows_at hx j x e2
        have em : rows.getD j [] = m := by
          refine hm _ ?_ fun r hr => ?_
          · rw [List.getD_eq_getElem?_getD, List.getElem?_eq_getElem hj]
            exact List.getElem_mem hj
          · obtain ⟨i, hi, rfl⟩ := List.mem_iff_getElem.mp hr
            have : ¬ rows.getD i [] < rows.getD j [] := e3 i (by omega)
            rwa [show rows.getD i [] = rows[i] from by rw [List.getD_eq_getElem?_getD, List.getElem?_eq_getElem hi]; rfl] at this
        rw [em] at e5
        have n2 := Nx.lay (o := .lst zs) n1.gh hp
        refine ⟨p, zs, 0, V.ref r, rfl, rfl, SqL.of upd_same, ?_, q _ _ _ (n1.trans n2) (.tup e5 (dpa_ints _))⟩
        exact atI_nat e1
/-- min of a list of ints -/
theorem ed_minI {ns : List Int} {m : Int} (ha : EvA K tA σ G [.list (ns.map .int)]) (hn : 0 < ns.length) (hm : ∀ k ∈ ns, (∀ y ∈ ns, k ≤ y) → k = m) : EvD K (tCB (rMin K) tA) σ G (.int m) := fun H s Q q =>
  ha H s _ fun vs G1 H1 n1 hv => by
    obtain _ | ⟨h, _ | _⟩ := hv
    obtain ⟨a, rfl, hs⟩ := dp_ints_l h
    refine ⟨a, ns, rfl, n1.gh.seq hs, hn, fun k hk hy => ?_⟩
    rw [hm k hk hy]
    exact q _ G1 H1 n1 (.int _)
end
end Gw
namespace Gw
open PySem PySem.Spec PyProof.Rows L2
theorem Drw.ne_t {d l c b : Addr} {H : Hp} {xs : List V} (D : Drw H d l c) (h : H b = some (.tup xs)) : b ≠ d ∧ b ≠ l := by
  obtain ⟨r, t, ls, cs, e1, e2, _⟩ := D.at'
  exact ⟨ne_of h e1 (fun z => nomatch z), ne_of h e2 (fun z => nomatch z)⟩
theorem nx_of {D : Ends} {σ : L2.St} {H : Hp} (h : D.nx σ H) : tNext D σ H := h
theorem ok_law {P : Program} {w : World} {K : PySem.W.Frag} {mg : Str → Option Value} {base : Heap} (T : Bt mg)
  (h_free : OkF P w K mg base "free" s_free P_free 6 (SpD K R_free)) (h_undone : OkF P w K mg base "undone" s_undone P_undone 6 (SpD K R_undone)) (h_least_of : OkF P w K mg base "least_of" s_least_of P_least_of 3 (spLeast K)) (h__law_begun : Ok P w K mg base "_law_begun" P_law_begun 1 (spBegun K)) (h__law_take : Ok P w K mg base "_law_take" P_law_take 2 spTake) (h__law_pick : Ok P w K mg base "_law_pick" P_law_pick 3 (spPick K)) (h__law_back : Ok P w K mg base "_law_back" P_law_back 4 spBack) (h__law_word : Ok P w K mg base "_law_word" P_law_word 3 (spWord K))
  {f : Addr} {cdv : Value} {s : Shared} {H : Hp} {a : Addr} {ns : List Int} (hr : Room 12 (callerA.deeper (envOfC "law" (defScope s_law) s.heap.objs.size f cdv))) (hO : Only H) (hS : SqL K H a (ns.map V.int)) (h63 : ns.length ≤ 63) :
  ∃ t, PSs (cxOf CX0 P w K mg base N_law "law" (defScope s_law) f cdv callerA [] s H E0).nox (defBody s_law) t ∧ t { nx := fun _ _ => V.non = V.bl true, rt := fun v _ => v = .bl true } (start N_law [.ref a]) H := by
  have S := sc_law
  refine ⟨_, (pss_cons (ps_set (i := 1) S.nd rfl (by first | exact .inl rfl | exact .inr rfl) (pe_ok h__law_begun (hr.mono (by decide)) (by rfl) (pa_cons (pv 0) pa_nil)))
  (pss_cons (ps_for PassesOwn.never rfl (pi_range1 (by rfl) T.range (pa_cons (pe_op op_add pe_int (pe_callB (call_min2 rfl) (by rfl) T.min (by decide +kernel) (pa_cons (pe_callB (q_len K rfl) (by rfl) T.len PySem.boot_len (pa_cons (pv 0) pa_nil)) (pa_cons pe_int pa_nil)))) pa_nil)) (pg_name (i := 2) S.nd rfl (by first | exact .inl rfl | exact .inr rfl)) (pss_cons (ps_set (i := 3) S.nd rfl (by first | exact .inl rfl | exact .inr rfl) (pe_ok h__law_back (hr.mono (by decide)) (by rfl) (pa_cons (pv 1) pa_nil)))
  (pss_cons (ps_par (i := 4) (j := 5) rfl S.nd rfl rfl (by decide) rfl rfl (pa_cons (pe_ok h__law_word (hr.mono (by decide)) (by rfl) (pa_cons (pv 1) (pa_cons (pv 3) (pa_cons (pe_ifExp (pt_cmpR op_eq (pv 2) pe_int (nomark _)) pe_int pe_int) pa_nil)))) (pa_cons (pe_ok h__law_word (hr.mono (by decide)) (by rfl) (pa_cons (pv 1) (pa_cons (pv 3) (pa_cons pe_int pa_nil)))) pa_nil)) (by rfl))
  (pss_cons (ps_set (i := 6) S.nd rfl (by first | exact .inl rfl | exact .inr rfl) (pv 4))
  (pss_cons (ps_for PassesOwn.never rfl (pi_range1 (by rfl) T.range (pa_cons (pe_ok h__law_take (hr.mono (by decide)) (by rfl) (pa_cons (pv 1) (pa_cons pe_int pa_nil))) pa_nil)) (pg_name (i := 7) S.nd rfl (by first | exact .inl rfl | exact .inr rfl)) (pss_cons (ps_par (i := 8) (j := 9) rfl S.nd rfl rfl (by decide) rfl rfl (pa_cons (pe_ok h__law_take (hr.mono (by decide)) (by rfl) (pa_cons (pv 1) (pa_cons (pe_op op_add (pe_callB (q_len K rfl) (by rfl) T.len PySem.boot_len (pa_cons (pv 6) pa_nil)) pe_int) pa_nil))) (pa_cons (pe_ok h__law_take (hr.mono (by decide)) (by rfl) (pa_cons (pv 1) (pa_cons (pe_callB (q_len K rfl) (by rfl) T.len PySem.boot_len (pa_cons (pv 3) pa_nil)) pa_nil))) pa_nil)) (by rfl))
  (pss_one (ps_set (i := 6) S.nd rfl (by first | exact .inl rfl | exact .inr rfl) (pe_op (q_catT K rfl) (pe_op (q_catT K rfl) (pe_slice (q_slT K rfl) (pv 6) po_none (po_some (pv 8))) (pe_tup (pa_cons (pv 9) (pa_cons (pe_ix (q_ixT K rfl) (pv 3) (pv 9) (fun _ _ => rfl)) pa_nil)))) (pe_slice (q_slT K rfl) (pv 6) (po_some (pv 8)) po_none))))))
  (pss_cons (ps_set (i := 10) S.nd rfl (by first | exact .inl rfl | exact .inr rfl) (pv 6))
  (pss_cons (ps_while PassesOwn.never (pt_val pe_bl) (pss_cons (ps_setLc (i := 11) (own := [("k", 12)]) (g := gName 12) (by rfl) S.nd rfl rfl (sw_true rfl rfl rfl (by decide +kernel)) (pi_range1 (by rfl) T.range (pa_cons (pe_op op_sub (pe_callB (q_len K rfl) (by rfl) T.len PySem.boot_len (pa_cons (pv 10) pa_nil)) pe_int) pa_nil)) (blkOk_by (N := N_law) (sc := defScope s_law) (by decide +kernel)) (fun _ _ _ _ _ => (pg_name (i := 12) S.nd rfl (by first | exact .inl rfl | exact .inr rfl))) (fun _ _ _ _ _ => (pts_one (pt_cmpR op_eq (pe_ix (q_ixT K rfl) (pv 10) (pe_op op_add (pv 12) pe_int) (fun _ _ => rfl)) (pe_ix (q_ixT K rfl) (pv 3) (pe_ix (q_ixT K rfl) (pv 10) (pv 12) (fun _ _ => rfl)) (fun _ _ => rfl)) (nomark _)))) (fun _ _ _ _ _ => (pv 12)))
  (pss_cons (ps_if (pt_cmpR (q_eqD K rfl hr.units) (pv 11) (pe_lst pa_nil) (nomark _)) (pss_one ps_break) pss_nil)
  (pss_cons (ps_set (i := 8) S.nd rfl (by first | exact .inl rfl | exact .inr rfl) (pe_ok h__law_pick (hr.mono (by decide)) (by rfl) (pa_cons (pv 1) (pa_cons (pv 11) pa_nil))))
  (pss_one (ps_set (i := 10) S.nd rfl (by first | exact .inl rfl | exact .inr rfl) (pe_op (q_catT K rfl) (pe_slice (q_slT K rfl) (pv 10) po_none (po_some (pv 8))) (pe_slice (q_slT K rfl) (pv 10) (po_some (pe_op op_add (pv 8) pe_int)) po_none))))))))
  (pss_cons (ps_if (PW.pt (pw_or (pt_cmpR op_ne (pe_callB (q_repr K rfl rfl hr.units) (by rfl) T.repr (by decide +kernel) (pa_cons (pe_ok h_free.ok (hr.mono (by decide)) (by rfl) (pa_cons (pv 3) (pa_cons (pv 6) pa_nil))) pa_nil)) (pe_callB (q_repr K rfl rfl hr.units) (by rfl) T.repr (by decide +kernel) (pa_cons (pv 10) pa_nil)) (nomark _)) (pw_or1 (pt_cmpR op_ne (pe_callB (q_repr K rfl rfl hr.units) (by rfl) T.repr (by decide +kernel) (pa_cons (pe_okK0 h_free kb_free (hr.mono (by decide)) (by rfl) (pk_cons (pv 4) (pk_cons (pv 3) pk_nil))) pa_nil)) (pe_callB (q_repr K rfl rfl hr.units) (by rfl) T.repr (by decide +kernel) (pa_cons (pv 10) pa_nil)) (nomark _))))) (pss_one (ps_ret pe_bl)) pss_nil)
  (pss_cons (ps_set (i := 13) S.nd rfl (by first | exact .inl rfl | exact .inr rfl) (pe_callTy (q_tuple K rfl) (by rfl) T.tuple (by decide +kernel) (pa_cons (pe_lc (own := [("letter", 9)]) (g := gName 9) (by rfl) S.nd  (q_iT K rfl (q_revT K rfl (pv 4))) (blkOk_by (N := N_law) (sc := defScope s_law) (by decide +kernel)) (fun _ _ _ _ _ => (pg_name (i := 9) S.nd rfl (by first | exact .inl rfl | exact .inr rfl))) (fun _ _ _ _ _ => pts_nil) (fun _ _ _ _ _ => (pe_ix (q_ixT K rfl) (pv 3) (pv 9) (fun _ _ => rfl)))) pa_nil)))
  (pss_cons (ps_if (PW.pt (pw_or (pt_cmpR op_ne (pe_callB (q_repr K rfl rfl hr.units) (by rfl) T.repr (by decide +kernel) (pa_cons (pe_ok h_undone.ok (hr.mono (by decide)) (by rfl) (pa_cons (pv 3) (pa_cons (pv 4) pa_nil))) pa_nil)) (pe_callB (q_repr K rfl rfl hr.units) (by rfl) T.repr (by decide +kernel) (pa_cons (pv 13) pa_nil)) (nomark _)) (pw_or1 (pt_cmpR (q_neD K rfl hr.units) (pe_okK0 h_undone kb_undone (hr.mono (by decide)) (by rfl) (pk_cons (pv 13) (pk_cons (pv 3) pk_nil))) (pv 4) (nomark _))))) (pss_one (ps_ret pe_bl)) pss_nil)
  (pss_cons (ps_if (pt_cmpR op_ne (pe_callB (q_repr K rfl rfl hr.units) (by rfl) T.repr (by decide +kernel) (pa_cons (pe_lst (pa_cons (pe_ok h_free.ok (hr.mono (by decide)) (by rfl) (pa_cons (pv 3) (pa_cons (pe_op (q_catT K rfl) (pv 4) (pv 13)) pa_nil))) (pa_cons (pe_ok h_free.ok (hr.mono (by decide)) (by rfl) (pa_cons (pv 3) (pa_cons (pe_ok h_free.ok (hr.mono (by decide)) (by rfl) (pa_cons (pv 3) (pa_cons (pv 6) pa_nil))) pa_nil))) pa_nil))) pa_nil)) (pe_callB (q_repr K rfl rfl hr.units) (by rfl) T.repr (by decide +kernel) (pa_cons (pe_lst (pa_cons (pe_tup pa_nil) (pa_cons (pv 10) pa_nil))) pa_nil)) (nomark _)) (pss_one (ps_ret pe_bl)) pss_nil)
  (pss_cons (ps_if (pt_cmpR op_ne (pe_callB (q_repr K rfl rfl hr.units) (by rfl) T.repr (by decide +kernel) (pa_cons (pe_ok h_free.ok (hr.mono (by decide)) (by rfl) (pa_cons (pv 3) (pa_cons (pe_ok h_undone.ok (hr.mono (by decide)) (by rfl) (pa_cons (pv 3) (pa_cons (pv 4) pa_nil))) pa_nil))) pa_nil)) (pe_callB (q_repr K rfl rfl hr.units) (by rfl) T.repr (by decide +kernel) (pa_cons (pe_ok h_undone.ok (hr.mono (by decide)) (by rfl) (pa_cons (pv 3) (pa_cons (pe_ok h_free.ok (hr.mono (by decide)) (by rfl) (pa_cons (pv 3) (pa_cons (pv 4) pa_nil))) pa_nil))) pa_nil)) (nomark _)) (pss_one (ps_ret pe_bl)) pss_nil)
  (pss_cons (ps_set (i := 11) S.nd rfl (by first | exact .inl rfl | exact .inr rfl) (pe_lst (pa_cons (pv 4) (pa_cons (pv 5) (pa_cons (pv 6) (pa_cons (pv 13) (pa_cons (pv 10) pa_nil)))))))
  (pss_cons (ps_set (i := 14) S.nd rfl (by first | exact .inl rfl | exact .inr rfl) (pe_callB (q_min K rfl rfl) (by rfl) T.min (by decide +kernel) (pa_cons (pe_lc (own := [("one", 15)]) (g := gName 15) (by rfl) S.nd  (q_iL K rfl (pv 11)) (blkOk_by (N := N_law) (sc := defScope s_law) (by decide +kernel)) (fun _ _ _ _ _ => (pg_name (i := 15) S.nd rfl (by first | exact .inl rfl | exact .inr rfl))) (fun _ _ _ _ _ => pts_nil) (fun _ _ _ _ _ => (pe_callB (q_len K rfl) (by rfl) T.len PySem.boot_len (pa_cons (pv 15) pa_nil)))) pa_nil)))
  (pss_cons (ps_if (pt_cmpR op_ne (pe_callB (q_repr K rfl rfl hr.units) (by rfl) T.repr (by decide +kernel) (pa_cons (pe_ok h_least_of.ok (hr.mono (by decide)) (by rfl) (pa_cons (pe_callTy (q_list K rfl) (by rfl) T.list (by decide +kernel) (pa_cons (pv 11) pa_nil)) pa_nil)) pa_nil)) (pe_callB (q_repr K rfl rfl hr.units) (by rfl) T.repr (by decide +kernel) (pa_cons (pe_ix (q_ixL K rfl) (pe_callB (cr_sortRows hr.units) (by rfl) T.sorted (by decide +kernel) (pa_cons (pe_lc (own := [("one", 15)]) (g := gName 15) (by rfl) S.nd  (q_iL K rfl (pv 11)) (blkOk_by (N := N_law) (sc := defScope s_law) (by decide +kernel)) (fun _ _ _ _ _ => (pg_name (i := 15) S.nd rfl (by first | exact .inl rfl | exact .inr rfl))) (fun _ _ _ _ _ => (pts_one (pt_cmpR op_eq (pe_callB (q_len K rfl) (by rfl) T.len PySem.boot_len (pa_cons (pv 15) pa_nil)) (pv 14) (nomark _)))) (fun _ _ _ _ _ => (pv 15))) pa_nil)) pe_int (fun _ _ => rfl)) pa_nil)) (nomark _)) (pss_one (ps_ret pe_bl)) pss_nil)
  (pss_one (ps_if (pt_cmpR (q_neD K rfl hr.units) (pe_okK0 h_least_of kb_least_of (hr.mono (by decide)) (by rfl) (pk_cons (pe_callTy (q_tuple K rfl) (by rfl) T.tuple (by decide +kernel) (pa_cons (pe_slice (q_slL K rfl) (pv 11) po_none (po_some pe_int)) pa_nil)) pk_nil)) (pe_ifExp (pt_cmpR (q_ltD K rfl hr.units) (pe_tup (pa_cons (pe_callB (q_len K rfl) (by rfl) T.len PySem.boot_len (pa_cons (pv 5) pa_nil)) (pa_cons (pv 5) pa_nil))) (pe_tup (pa_cons (pe_callB (q_len K rfl) (by rfl) T.len PySem.boot_len (pa_cons (pv 4) pa_nil)) (pa_cons (pv 4) pa_nil))) (nomark _)) (pv 5) (pv 4)) (nomark _)) (pss_one (ps_ret pe_bl)) pss_nil)))))))))))))))))
  (pss_one (ps_ret pe_bl)))), ?_⟩
  refine ⟨_, rfl, a, ns, rfl, hS, h63, fun d l c H1 sm hd hl hc D1 => ?_⟩
  have hS1 : SqL K H1 a (ns.map V.int) := sm.seq hS
  have hlen : (ns.map V.int).length ≤ 63 := by rw [List.length_map]; exact h63
  refine ⟨_, rfl, a, _, rfl, .inl hS1, _, _, rfl, _, _, rfl, rfl, _, rfl, ?_, ?_, ?_⟩
  · split <;> omega
  · split <;> omega
  refine for_range (lo := 0) (fun _ σ Hc => ∃ x2 x3 x4 x5 x6 x7 x8 x9 x10 x11 x12 x13 x14 x15, σ = [some (.ref a), some (.ref d), x2, x3, x4, x5, x6, x7, x8, x9, x10, x11, x12, x13, x14, x15] ∧ Drw Hc d l c)
    ⟨_, _, _, _, _, _, _, _, _, _, _, _, _, _, rfl, D1⟩ (fun i σ Hc hi hP => ?_) (fun σ Hc _ => rfl)
  obtain ⟨x2, x3, x4, x5, x6, x7, x8, x9, x10, x11, x12, x13, x14, x15, rfl, Dc⟩ := hP
  -- back_here
  refine seq_asg ⟨_, rfl, d, l, c, rfl, Dc, fun b bs H2 B h6 hb0 hb n2 D2 => ?_⟩
  obtain ⟨nb1, nb2⟩ := D2.ne_t hb
  -- word_here, other
  refine seq_cut (fun σ' Hw => ∃ (wa oa : Addr) (ws os : List Int), σ' = [some (.ref a), some (.ref d), some (.int (0 + (i : Int))), some (.ref b), some (.ref wa), some (.ref oa), x6, x7, x8, x9, x10, x11, x12, x13, x14, x15] ∧
    Hw b = some (.tup (bs.map V.int)) ∧ Hw wa = some (.tup (ws.map V.int)) ∧ Hw oa = some (.tup (os.map V.int)) ∧ Letters bs.length ws ∧ Letters bs.length os ∧ ws.length ≤ 90 ∧ os.length ≤ 6 ∧ Drw Hw d l c) ?_ (fun fin => ?_)
  rotate_left
  · have lb : (bs.map V.int).length = bs.length := List.length_map _
    have two := B.two
    refine ⟨_, rfl, _, rfl, _, rfl, rfl, _, rfl, ite2 (fun _ => ?_) (fun _ => ?_)⟩
    all_goals
      refine ⟨d, l, c, b, _, _, rfl, D2, SqT.of hb, by omega, by omega, by decide, by decide, fun wa ws H3 hw1 hw2 hw0 hw n3 D3 => ?_⟩
      have hb3 := n3.hh _ _ nb1 nb2 hb
      obtain ⟨nw1, nw2⟩ := D3.ne_t hw
      refine ⟨_, rfl, _, rfl, d, l, c, b, _, _, rfl, D3, SqT.of hb3, by omega, by omega, by decide, by decide, fun oa os H4 ho1 ho2 ho0 ho n4 D4 => ?_⟩
      rw [lb] at hw2 ho2
      exact ⟨_, _, rfl, fin _ _ ⟨wa, oa, ws, os, rfl, n4.hh _ _ nb1 nb2 hb3, n4.hh _ _ nw1 nw2 hw, ho, hw2, ho2, by omega, by omega, D4⟩⟩
  rintro σ Hw ⟨wa, oa, ws, os, rfl, vb, vw, vo, lw, lo, l90, l6, Dw⟩
  -- mixed = word_here
  refine seq_asg ⟨_, rfl, ?_⟩
  obtain ⟨nb1, nb2⟩ := Dw.ne_t vb
  have two := B.two
  have b12 := B.six
  have lb : (bs.map V.int).length = bs.length := List.length_map _
  refine seq_cut (fun σ' Hm => ∃ (ma : Addr) (ms : List Int) (y7 y8 y9 : Option V), σ' = [some (.ref a), some (.ref d), some (.int (0 + (i : Int))), some (.ref b), some (.ref wa), some (.ref oa), some (.ref ma), y7, y8, y9, x10, x11, x12, x13, x14, x15] ∧
    SqT K Hm b (bs.map V.int) ∧ SqT K Hm wa (ws.map V.int) ∧ SqT K Hm oa (os.map V.int) ∧ SqT K Hm ma (ms.map V.int) ∧ Letters bs.length ms ∧ Sam bs ms ws ∧ ms.length ≤ 100 ∧ Drw Hm d l c) ?_ (fun fin => ?_)
  rotate_left
  · refine ⟨_, rfl, d, l, c, 5, rfl, Dw, by decide, by decide, fun k5 H4 hk0 hk5 n4 D4 => ⟨_, rfl, by omega, by omega, ?_⟩⟩
    refine for_range (lo := 0) (fun j σ Hm => ∃ (ma : Addr) (ms : List Int) (y7 y8 y9 : Option V), σ = [some (.ref a), some (.ref d), some (.int (0 + (i : Int))), some (.ref b), some (.ref wa), some (.ref oa), some (.ref ma), y7, y8, y9, x10, x11, x12, x13, x14, x15] ∧
      SqT K Hm b (bs.map V.int) ∧ SqT K Hm wa (ws.map V.int) ∧ SqT K Hm oa (os.map V.int) ∧ SqT K Hm ma (ms.map V.int) ∧ Letters bs.length ms ∧ Sam bs ms ws ∧ ms.length ≤ 90 + 2 * j ∧ Drw Hm d l c)
      ⟨wa, ws, _, _, _, rfl, n4.seqT Dw (SqT.of vb), n4.seqT Dw (SqT.of vw), n4.seqT Dw (SqT.of vo), n4.seqT Dw (SqT.of vw), lw, Sam.refl _, by omega, D4⟩ (fun j σ Hm hj hP => ?_) (fun σ Hm hP => ?_)
    rotate_left
    · obtain ⟨ma, ms, y7, y8, y9, rfl, q1, q2, q3, q4, q5, q6, q7, q8⟩ := hP
      exact fin _ _ ⟨ma, ms, y7, y8, y9, rfl, q1, q2, q3, q4, q5, q6, by omega, q8⟩
    obtain ⟨ma, ms, y7, y8, y9, rfl, q1, q2, q3, q4, q5, q6, q7, q8⟩ := hP
    have lm : (ms.map V.int).length = ms.length := List.length_map _
    refine ⟨_, rfl, _, rfl, ma, _, rfl, .inr q4, _, _, rfl, rfl, d, l, c, _, rfl, q8, by omega, by omega, fun sp H5 hs0 hs1 n5 D5 => ?_⟩
    refine ⟨_, rfl, _, rfl, b, _, rfl, .inr (n5.seqT q8 q1), d, l, c, _, rfl, D5, by omega, by omega, fun lt H6 hl0 hl1 n6 D6 => ⟨_, _, rfl, ?_⟩⟩
    have r1 := n6.seqT D5 (n5.seqT q8 q1)
    have r2 := n6.seqT D5 (n5.seqT q8 q2)
    have r3 := n6.seqT D5 (n5.seqT q8 q3)
    have r4 := n6.seqT D5 (n5.seqT q8 q4)
    obtain ⟨k, rfl⟩ : ∃ k : Nat, sp = (k : Int) := ⟨sp.toNat, by omega⟩
    have hlt : 0 ≤ lt ∧ lt < (bs.length : Int) := ⟨hl0, by rw [lb] at hl1; exact hl1⟩
    obtain ⟨bk1, bk2, bk3⟩ := B.at_ hlt
    have km : k ≤ ms.length := by omega
    have db : Dp K H6 (.ref b) (.tuple (bs.map .int)) := .tup r1 (dpa_ints bs)
    have dm : Dp K H6 (.ref ma) (.tuple (ms.map .int)) := .tup r4 (dpa_ints ms)
    have lmd : (ms.map PyData.int).length = ms.length := List.length_map _
    have big : 1000 ≤ sizeLine := by decide
    refine asg_let (G := H6) (d := .tuple ((ms.take k ++ [lt, bkI bs lt] ++ ms.drop k).map .int)) ((ed_op (ed_op (ed_slT (ed_var (i := 6) rfl dm) eo_none (eo_some (ed_var (i := 8) rfl (.int (k : Int))))) (ed_tup (ea_cons (ed_var (i := 9) rfl (.int lt)) (ea_cons (ed_op (z := .int (bkI bs lt)) (ed_var (i := 3) rfl db) (ed_var (i := 9) rfl (.int lt)) (ro_ixT (k := lt.toNat) (by omega) (by rw [List.getElem?_map, bk1]; rfl))) ea_nil)) (by decide : 2 ≤ sizeLine)) (ro_cat ?_)) (ed_slT (ed_var (i := 6) rfl dm) (eo_some (ed_var (i := 8) rfl (.int (k : Int)))) eo_none) (ro_cat ?_)).cast ?_) (Same.refl _) fun v G1 H7 n7 hd7 => ?_
    · rw [cutD_to, List.length_take]
      show _ + 2 ≤ _
      omega
    · rw [cutD_to, cutD_from, List.length_append, List.length_take, List.length_drop]
      show _ + 2 + _ ≤ _
      omega
    · rw [cutD_to, cutD_from, List.map_append, List.map_append, List.map_take, List.map_drop]
      rfl
    · obtain ⟨ma', rfl, t7⟩ := dp_ints_t hd7
      refine ⟨ma', _, _, _, _, rfl, same_tup n7.hh r1, same_tup n7.hh r2, same_tup n7.hh r3, same_tup n7.gh t7, ?_, ?_, ?_, D6.same n7.hh⟩
      · have hk : Letters bs.length (ms.take k) := fun y hy => q5 y (List.mem_of_mem_take hy)
        have hk2 : Letters bs.length (ms.drop k) := fun y hy => q5 y (List.mem_of_mem_drop hy)
        exact (hk.app fun y hy => by
          rcases List.mem_cons.mp hy with rfl | hy
          · exact hlt
          · rw [List.mem_singleton.mp hy]; exact bk2).app hk2
      · refine Sam.trans (Sam.put B _ _ (fun y hy => q5 y (List.mem_of_mem_take hy)) hlt) ?_
        rw [List.take_append_drop]
        exact q6
      · rw [List.length_append, List.length_append, List.length_take, List.length_drop]
        show _ + 2 + _ ≤ _
        omega
  rintro σ Hm ⟨ma, ms, y7, y8, y9, rfl, q1, q2, q3, q4, q5, q6, q7, q8⟩
  -- left_here = mixed
  refine seq_asg ⟨_, rfl, ?_⟩
  refine seq_cut (fun σ' Hl => ∃ (fa : Addr) (ls : List Int) (z8 z11 z12 : Option V), σ' = [some (.ref a), some (.ref d), some (.int (0 + (i : Int))), some (.ref b), some (.ref wa), some (.ref oa), some (.ref ma), y7, z8, y9, some (.ref fa), z11, z12, x13, x14, x15] ∧
    SqT K Hl b (bs.map V.int) ∧ SqT K Hl wa (ws.map V.int) ∧ SqT K Hl oa (os.map V.int) ∧ SqT K Hl ma (ms.map V.int) ∧ SqT K Hl fa (ls.map V.int) ∧ Letters bs.length ls ∧ Sam bs ls ms ∧ RdI bs ls ∧ ls.length ≤ 100 ∧ Drw Hl d l c) ?_ (fun fin => ?_)
  rotate_left
  · refine ⟨fun m σ' Hl => ∃ (fa : Addr) (ls : List Int) (z8 z11 z12 : Option V), m = ls.length ∧ σ' = [some (.ref a), some (.ref d), some (.int (0 + (i : Int))), some (.ref b), some (.ref wa), some (.ref oa), some (.ref ma), y7, z8, y9, some (.ref fa), z11, z12, x13, x14, x15] ∧
      SqT K Hl b (bs.map V.int) ∧ SqT K Hl wa (ws.map V.int) ∧ SqT K Hl oa (os.map V.int) ∧ SqT K Hl ma (ms.map V.int) ∧ SqT K Hl fa (ls.map V.int) ∧ Letters bs.length ls ∧ Sam bs ls ms ∧ ls.length ≤ 100 ∧ Drw Hl d l c, ⟨_, ma, ms, _, _, _, rfl, rfl, q1, q2, q3, q4, q4, q5, Sam.refl _, q7, q8⟩, ?_⟩
    rintro m σ' Hl ⟨fa, ls, z8, z11, z12, rfl, rfl, r1, r2, r3, r4, r5, r6, r7, r8, r9⟩
    refine ⟨true, rfl, iteT ⟨_, fun _ _ z => z, ?_⟩⟩
    have db : Dp K Hl (.ref b) (.tuple (bs.map .int)) := .tup r1 (dpa_ints bs)
    have dl : Dp K Hl (.ref fa) (.tuple (ls.map .int)) := .tup r5 (dpa_ints ls)
    have ll : (ls.map PyData.int).length = ls.length := List.length_map _
    have big : 1000 ≤ sizeLine := by decide
    let g : Nat → Option Int := fun k => if ls.getD (k + 1) 0 = bkI bs (ls.getD k 0) then some (k : Int) else none
    let n0 : Int := ((ls.map PyData.int).length : Int) - 1
    have at' : ∀ k, k < n0.toNat → k + 1 < ls.length ∧ ls[k + 1]? = some (ls.getD (k + 1) 0) ∧ ls[k]? = some (ls.getD k 0) ∧ 0 ≤ ls.getD k 0 ∧ ls.getD k 0 < (bs.length : Int) := fun k hk => by
      have h1 : k + 1 < ls.length := by
        have : n0 = (ls.length : Int) - 1 := by show ((ls.map PyData.int).length : Int) - 1 = _; rw [ll]
        omega
      have e1 : ls[k + 1]? = some (ls.getD (k + 1) 0) := by rw [List.getD_eq_getElem?_getD, List.getElem?_eq_getElem h1]; rfl
      have e2 : ls[k]? = some (ls.getD k 0) := by rw [List.getD_eq_getElem?_getD, List.getElem?_eq_getElem (by omega)]; rfl
      exact ⟨h1, e1, e2, r6 _ (List.mem_of_getElem? e2)⟩
    refine seq_letN (G := Hl) (ds := ((List.range n0.toNat).filterMap g).map .int) ((en_lcR (i := 12) (m := n0) (fun k => (g k).map PyData.int) (ed_op (ed_cb (ea_cons (ed_var (i := 10) rfl dl) ea_nil) rcl_len) ed_int ro_i) (fun _ => rfl) (by show -(2 ^ 62) ≤ ((ls.map PyData.int).length : Int) - 1; omega) (by show (((ls.map PyData.int).length : Int) - 1).toNat ≤ sizeLine; omega) (fun k Gi hk gi => ?_) (fun k e Gi hk he gi => ?_)).cast ?_) (Same.refl _) fun p vs G1 H2 n2 hp e2 ha2 => ?_
    · obtain ⟨h1, e1, e3, e4⟩ := at' k hk
      obtain ⟨b1, b2, b3⟩ := B.at_ e4
      refine EvB.cast (eb_test (ed_op (ed_op (z := .int (ls.getD (k + 1) 0)) (ed_var (i := 10) rfl (dp_mono gi _ dl)) (ed_op (ed_var (i := 12) rfl (.int (k : Int))) ed_int ro_i) (ro_ixT (k := k + 1) (by omega) (by rw [List.getElem?_map, e1]; rfl)))
        (ed_op (z := .int (bkI bs (ls.getD k 0))) (ed_var (i := 3) rfl (dp_mono gi _ db)) (ed_op (z := .int (ls.getD k 0)) (ed_var (i := 10) rfl (dp_mono gi _ dl)) (ed_var (i := 12) rfl (.int (k : Int))) (ro_ixT (k := k) rfl (by rw [List.getElem?_map, e3]; rfl))) (ro_ixT (k := (ls.getD k 0).toNat) (by omega) (by rw [List.getElem?_map, b1]; rfl))) ro_eqI)) ?_
      show decide (ls.getD (k + 1) 0 = bkI bs (ls.getD k 0)) = ((if ls.getD (k + 1) 0 = bkI bs (ls.getD k 0) then some (k : Int) else none).map PyData.int).isSome
      split
      · rename_i h; rw [decide_eq_true h]; rfl
      · rename_i h; rw [decide_eq_false h]; rfl
    · have he : ((if ls.getD (k + 1) 0 = bkI bs (ls.getD k 0) then some (k : Int) else none).map PyData.int) = some e := he
      split at he
      · cases he
        exact ed_var (i := 12) rfl (.int (k : Int))
      · cases he
    · rw [List.map_filterMap]
    generalize hzs : (List.range n0.toNat).filterMap g = zs at ha2
    have ev := dpa_ints_inv ha2
    subst ev
    have D2 := r9.same n2.hh
    have hpl : p ≠ l := (r9.off hp).2.1
    have ds1 : Dp K H2 (.ref p) (.list (zs.map .int)) := .lst (SqL.of e2) (dpa_ints zs)
    have hchk : EvB K (tTest (tOp (rEqD K) (tVar 11) (tLst tNil))) [some (.ref a), some (.ref d), some (.int (0 + (i : Int))), some (.ref b), some (.ref wa), some (.ref oa), some (.ref ma), y7, z8, y9, some (.ref fa), some (.ref p), z12, x13, x14, x15] H2 zs.isEmpty :=
      EvB.cast (eb_test (ed_op (ed_var (i := 11) rfl ds1) (ed_lst ea_nil (Nat.zero_le _)) (ro_eqD (shaped_ints zs) (by decide)))) (by cases zs <;> rfl)
    refine hchk H2 (Same.refl _) _ fun G3 H3 n3 => ?_
    have w1 := same_tup (n2.hh.trans n3.hh) r1
    have w2 := same_tup (n2.hh.trans n3.hh) r2
    have w3 := same_tup (n2.hh.trans n3.hh) r3
    have w4 := same_tup (n2.hh.trans n3.hh) r4
    have w5 := same_tup (n2.hh.trans n3.hh) r5
    have D3 := D2.same n3.hh
    have e3 := n3.hh _ _ e2
    cases zs with
    | nil =>
      refine if_on rfl (fin _ _ ⟨fa, ls, z8, _, z12, rfl, w1, w2, w3, w4, w5, r6, r7, fun L x y R el z => ?_, r8, D3⟩)
      have hk : L.length < n0.toNat := by
        have h1 : ls.length = L.length + (R.length + 1 + 1) := by rw [el]; simp
        have : n0 = (ls.length : Int) - 1 := by show ((ls.map PyData.int).length : Int) - 1 = _; rw [ll]
        omega
      have hg : g L.length = some (L.length : Int) := by
        show (if ls.getD (L.length + 1) 0 = bkI bs (ls.getD L.length 0) then some (L.length : Int) else none) = _
        rw [if_pos]
        rw [el, List.getD_eq_getElem?_getD, List.getD_eq_getElem?_getD, List.getElem?_append_right (by omega), List.getElem?_append_right (by omega)]
        simpa using z
      have hm : (L.length : Int) ∈ (List.range n0.toNat).filterMap g := List.mem_filterMap.mpr ⟨L.length, List.mem_range.mpr hk, hg⟩
      rw [hzs] at hm
      cases hm
    | cons z0 zr =>
      refine if_off rfl ?_
      have hz100 : (z0 :: zr).length ≤ 100 := by
        rw [← hzs]
        have := List.length_filterMap_le g (List.range n0.toNat)
        rw [List.length_range] at this
        have : n0 = (ls.length : Int) - 1 := by show ((ls.map PyData.int).length : Int) - 1 = _; rw [ll]
        omega
      have lz : ((z0 :: zr).map V.int).length = (z0 :: zr).length := List.length_map _
      refine nx_of ?_
      dsimp only
      refine seq_asg ?_
      refine ⟨_, rfl, _, rfl, d, l, c, p, _, rfl, D3, hpl, SqL.of e3, ?_, ?_, fun v H4 hv n4 D4 => ?_⟩
      · rw [lz, List.length_cons]; omega
      · rw [lz]; omega
      obtain ⟨zv, hzv, rfl⟩ := List.mem_map.mp hv
      rw [← hzs] at hzv
      obtain ⟨k, hk, hgk⟩ := List.mem_filterMap.mp hzv
      have hk := List.mem_range.mp hk
      have hgk : (if ls.getD (k + 1) 0 = bkI bs (ls.getD k 0) then some (k : Int) else none) = some zv := hgk
      obtain ⟨h1, e1, e5, e6⟩ := at' k hk
      split at hgk
      · rename_i hpair
        cases hgk
        have u1 := n4.seqT D3 w1
        have u2 := n4.seqT D3 w2
        have u3 := n4.seqT D3 w3
        have u4 := n4.seqT D3 w4
        have u5 := n4.seqT D3 w5
        have dl4 : Dp K H4 (.ref fa) (.tuple (ls.map .int)) := .tup u5 (dpa_ints ls)
        refine asg_let (G := H4) (d := .tuple ((ls.take k ++ ls.drop (k + 2)).map .int)) ((ed_op (ed_slT (ed_var (i := 10) rfl dl4) eo_none (eo_some (ed_var (i := 8) rfl (.int (k : Int))))) (ed_slT (ed_var (i := 10) rfl dl4) (eo_some (i := ((k + 2 : Nat) : Int)) (EvD.cast (ed_op (ed_var (i := 8) rfl (.int (k : Int))) ed_int ro_i) (by rfl))) eo_none) (ro_cat ?_)).cast ?_) (Same.refl _) fun v G5 H5 n5 hd5 => ?_
        · rw [cutD_to, cutD_from, List.length_take, List.length_drop]; omega
        · rw [cutD_to, cutD_from, List.map_append, List.map_take, List.map_drop]
        · obtain ⟨fa', rfl, t5⟩ := dp_ints_t hd5
          have split3 : ls = ls.take k ++ [ls.getD k 0, bkI bs (ls.getD k 0)] ++ ls.drop (k + 2) := by
            have a1 : ls.drop k = ls.getD k 0 :: ls.drop (k + 1) := by
              rw [List.drop_eq_getElem_cons (by omega)]
              congr 1
              rw [List.getElem?_eq_getElem (by omega)] at e5
              exact Option.some.inj e5
            have a2 : ls.drop (k + 1) = ls.getD (k + 1) 0 :: ls.drop (k + 2) := by
              rw [List.drop_eq_getElem_cons (by omega)]
              congr 1
              rw [List.getElem?_eq_getElem (by omega)] at e1
              exact Option.some.inj e1
            rw [hpair] at a2
            conv => lhs; rw [← List.take_append_drop k ls, a1, a2]
            simp
          refine ⟨_, ?_, fa', ls.take k ++ ls.drop (k + 2), _, _, _, rfl, rfl, same_tup n5.hh u1, same_tup n5.hh u2, same_tup n5.hh u3, same_tup n5.hh u4, same_tup n5.gh t5, ?_, ?_, ?_, D4.same n5.hh⟩
          · rw [List.length_append, List.length_take, List.length_drop]; omega
          · exact Letters.app (fun y hy => r6 y (List.mem_of_mem_take hy)) fun y hy => r6 y (List.mem_of_mem_drop hy)
          · have := Sam.put B (ls.take k) (ls.drop (k + 2)) (fun y hy => r6 y (List.mem_of_mem_take hy)) e6
            rw [← split3] at this
            exact this.symm.trans r7
          · rw [List.length_append, List.length_take, List.length_drop]; omega
      · cases hgk
  rintro σ Hl ⟨fa, ls, z8, z11, z12, rfl, t1, t2, t3, t4, t5, lls, sls, rls, l100, Dl⟩
  have hfl := frI_same B lls rls
  have hfm : frI bs ms = ls := by rw [← hfl]; exact (Sam.fr B sls).symm.trans (by rw [hfl])
  have hfw : frI bs ws = ls := by rw [← hfm]; exact (Sam.fr B q6).symm
  have l12 : ∀ {us : List Int}, Letters bs.length us → Letters 12 us := fun h x hx => by have := h x hx; omega
  have luw := unI_let B lw
  have luu := unI_len (bs := bs) ws
  have vb : Dp K Hl (.ref b) (rowD bs) := .tup t1 (dpa_ints bs)
  have vw : Dp K Hl (.ref wa) (rowD ws) := .tup t2 (dpa_ints ws)
  have vo : Dp K Hl (.ref oa) (rowD os) := .tup t3 (dpa_ints os)
  have vm : Dp K Hl (.ref ma) (rowD ms) := .tup t4 (dpa_ints ms)
  have vf : Dp K Hl (.ref fa) (rowD ls) := .tup t5 (dpa_ints ls)
  have big : 1000 ≤ sizeLine := by decide
  have efree : ∀ {τ : L2.St} {G : Hp} {te1 te2 : TE} {us : List Int}, EvD K te1 τ G (rowD bs) → EvD K te2 τ G (rowD us) → Letters bs.length us → us.length ≤ 200 → EvD K (tCall (SpD K R_free) [] E0 (tCons te1 (tCons te2 tNil))) τ G (rowD (frI bs us)) :=
    fun h1 h2 h3 h4 => ed_call (ea_cons h1 (ea_cons h2 ea_nil)) ⟨bs, _, rfl, B, h3, h4, rfl⟩
  have eundo : ∀ {τ : L2.St} {G : Hp} {te1 te2 : TE} {us : List Int}, EvD K te1 τ G (rowD bs) → EvD K te2 τ G (rowD us) → Letters bs.length us → us.length ≤ 200 → EvD K (tCall (SpD K R_undone) [] E0 (tCons te1 (tCons te2 tNil))) τ G (rowD (unI bs us)) :=
    fun h1 h2 h3 h4 => ed_call (ea_cons h1 (ea_cons h2 ea_nil)) ⟨bs, _, rfl, B, h3, h4, rfl⟩
  have erep : ∀ {τ : L2.St} {G : Hp} {te : TE} {us : List Int}, EvD K te τ G (rowD us) → Letters bs.length us → us.length ≤ 1000 → EvD K (tCB (rRepr K) (tCons te tNil)) τ G (.str (rowD us).shown) := fun h h1 h2 => ed_repr h (showy_row (l12 h1) h2)
  have neS : ∀ {τ : L2.St} {G : Hp} {ta tb : TE} {x : Str}, EvD K ta τ G (.str x) → EvD K tb τ G (.str x) → EvB K (tTest (tOp rNe ta tb)) τ G false := fun h1 h2 => EvB.cast (eb_test (ed_op h1 h2 ro_neS)) (by rw [decide_eq_true rfl]; rfl)
  have neR : ∀ {τ : L2.St} {G : Hp} {ta tb : TE} {us : List Int}, EvD K ta τ G (rowD us) → EvD K tb τ G (rowD us) → EvB K (tTest (tOp (rNeD K) ta tb)) τ G false := fun {τ G ta tb us} h1 h2 => EvB.cast (eb_test (ed_op h1 h2 (ro_neD (shaped_intsT us) (shaped_intsT us)))) (by
    have e : ∀ xs : List Int, PyData.eqvAll (xs.map PyData.int) (xs.map PyData.int) = true := fun xs => by
      induction xs with
      | nil => rfl
      | cons x xs ih => rw [List.map_cons, PyData.eqvAll, ih]; simp [PyData.eqv]
    have e2 : PyData.eqv (rowD us) (rowD us) = true := by show PyData.eqv (.tuple (us.map .int)) (.tuple (us.map .int)) = true; simpa [PyData.eqv] using e us
    rw [e2]
    rfl)
  -- free
  refine seq_chk (G := Hl) (eb_or0
    (neS (erep ((efree (ed_var (i := 3) rfl vb) (ed_var (i := 6) rfl vm) q5 (by omega)).cast (by rw [hfm])) lls (by omega)) (erep (ed_var (i := 10) rfl vf) lls (by omega)))
    (neS (erep (EvD.cast (z := rowD ls) (ed_callK (R := R_free) (gd := [rowD bs, rowD ws]) ea_nil (ea_cons (ed_var (i := 4) rfl vw) (ea_cons (ed_var (i := 3) rfl vb) ea_nil)) (fun _ _ _ h h' => g21_dp h h') ⟨bs, ws, rfl, B, lw, by omega, rfl⟩) (by rw [← hfw]; rfl)) lls (by omega)) (erep (ed_var (i := 10) rfl vf) lls (by omega)))) (Same.refl _) fun G1 H1 n1 => ?_
  replace vb := dp_mono n1.gg _ vb
  replace vw := dp_mono n1.gg _ vw
  replace vo := dp_mono n1.gg _ vo
  replace vm := dp_mono n1.gg _ vm
  replace vf := dp_mono n1.gg _ vf
  -- due
  refine seq_let (G := G1) (d := rowD (unI bs ws)) (EvD.cast (ed_cb (ea_cons (EvN.toD (en_lcT1 (i := 9) (fun d => .int (bs.getD (toI d).toNat 0)) (ed_revT (ed_var (i := 4) rfl vw)) (fun _ => rfl) ?_ fun d v Gi hm g hd => ?_)) ea_nil) rcl_tupleL) ?_) n1.gh fun v2 G2 H2 n2 hd2 => ?_
  · rw [List.length_reverse, List.length_map]; omega
  · obtain ⟨z, hz, rfl⟩ := List.mem_map.mp (List.mem_reverse.mp hm)
    have hzm := lw z hz
    have hzl : z.toNat < bs.length := by omega
    refine ed_op (ed_var (i := 3) rfl (dp_mono g _ vb)) (ed_var (i := 9) rfl hd) (ro_ixT (k := z.toNat) (by omega) ?_)
    rw [List.getElem?_map, List.getElem?_eq_getElem hzl]
    show some (PyData.int bs[z.toNat]) = some (PyData.int (bs.getD z.toNat 0))
    rw [List.getD_eq_getElem?_getD, List.getElem?_eq_getElem hzl]
    rfl
  · unfold unI rowD
    rw [List.map_map, ← List.map_reverse, List.map_map]
    rfl
  obtain ⟨da, rfl, _⟩ := dp_ints_t hd2
  have n12 := n1.trans n2
  replace vb := dp_mono n2.gg _ vb
  replace vw := dp_mono n2.gg _ vw
  replace vo := dp_mono n2.gg _ vo
  replace vm := dp_mono n2.gg _ vm
  replace vf := dp_mono n2.gg _ vf
  have vd := hd2
  -- undone
  refine seq_chk (G := G2) (eb_or0
    (neS (erep (eundo (ed_var (i := 3) rfl vb) (ed_var (i := 4) rfl vw) lw (by omega)) luw (by omega)) (erep (ed_var (i := 13) rfl vd) luw (by omega)))
    (neR (EvD.cast (z := rowD ws) (ed_callK (R := R_undone) (gd := [rowD bs, rowD (unI bs ws)]) ea_nil (ea_cons (ed_var (i := 13) rfl vd) (ea_cons (ed_var (i := 3) rfl vb) ea_nil)) (fun _ _ _ h h' => g21_dp h h') ⟨bs, unI bs ws, rfl, B, luw, by omega, rfl⟩) (by rw [unI_unI B lw]; rfl)) (ed_var (i := 4) rfl vw))) n2.gh fun G3 H3 n3 => ?_
  have n13 := n12.trans n3
  replace vb := dp_mono n3.gg _ vb
  replace vw := dp_mono n3.gg _ vw
  replace vo := dp_mono n3.gg _ vo
  replace vm := dp_mono n3.gg _ vm
  replace vf := dp_mono n3.gg _ vf
  replace vd := dp_mono n3.gg _ vd
  -- behind what undoes it, freed again
  have lcat : Letters bs.length (ws ++ unI bs ws) := lw.app luw
  refine seq_chk (G := G3) (neS (x := (PyData.list [rowD [], rowD ls]).shown)
    (ed_repr (EvD.cast (z := .list [rowD [], rowD ls]) (ed_lst (ea_cons (efree (us := ws ++ unI bs ws) (ed_var (i := 3) rfl vb) (EvD.cast (ed_op (ed_var (i := 4) rfl vw) (ed_var (i := 13) rfl vd) (ro_cat (by rw [List.length_map, List.length_map]; omega))) (by unfold rowD; rw [List.map_append])) lcat (by rw [List.length_append]; omega))
      (ea_cons (efree (us := ls) (ed_var (i := 3) rfl vb) (EvD.cast (efree (us := ms) (ed_var (i := 3) rfl vb) (ed_var (i := 6) rfl vm) q5 (by omega)) (by rw [hfm])) lls (by omega)) ea_nil)) (by show 2 ≤ sizeLine; omega)) (by rw [undo_free B lw, hfl])) (showy_two (fun _ z => nomatch z) (l12 lls) (Nat.zero_le _) (by omega)))
    (ed_repr (ed_lst (ea_cons (ed_tup ea_nil (Nat.zero_le _)) (ea_cons (ed_var (i := 10) rfl vf) ea_nil)) (by show 2 ≤ sizeLine; omega)) (showy_two (u := []) (fun _ z => nomatch z) (l12 lls) (Nat.zero_le _) (by omega)))) n3.gh fun G4 H4 n4 => ?_
  have n14 := n13.trans n4
  replace vb := dp_mono n4.gg _ vb
  replace vw := dp_mono n4.gg _ vw
  replace vo := dp_mono n4.gg _ vo
  replace vm := dp_mono n4.gg _ vm
  replace vf := dp_mono n4.gg _ vf
  replace vd := dp_mono n4.gg _ vd
  -- to undo and to free
  have lfu := unI_let B lls
  have lul := unI_len (bs := bs) ls
  refine seq_chk (G := G4) (neS (x := (rowD (unI bs ls)).shown)
    (erep (EvD.cast (z := rowD (unI bs ls)) (efree (us := unI bs ws) (ed_var (i := 3) rfl vb) (eundo (ed_var (i := 3) rfl vb) (ed_var (i := 4) rfl vw) lw (by omega)) luw (by omega)) (by rw [free_undone B lw, hfw])) lfu (by omega))
    (erep (eundo (us := ls) (ed_var (i := 3) rfl vb) (EvD.cast (efree (us := ws) (ed_var (i := 3) rfl vb) (ed_var (i := 4) rfl vw) lw (by omega)) (by rw [hfw])) lls (by omega)) lfu (by omega))) n4.gh fun G5 H5 n5 => ?_
  have n15 := n14.trans n5
  replace vb := dp_mono n5.gg _ vb
  replace vw := dp_mono n5.gg _ vw
  replace vo := dp_mono n5.gg _ vo
  replace vm := dp_mono n5.gg _ vm
  replace vf := dp_mono n5.gg _ vf
  replace vd := dp_mono n5.gg _ vd
  -- some
  let rs : List (List Int) := [ws, os, ms, unI bs ws, ls]
  have lrs : ∀ r ∈ rs, Letters bs.length r ∧ r.length ≤ 1000 := by
    intro r hr
    simp only [rs, List.mem_cons, List.not_mem_nil, or_false] at hr
    rcases hr with rfl | rfl | rfl | rfl | rfl
    · exact ⟨lw, by omega⟩
    · exact ⟨lo, by omega⟩
    · exact ⟨q5, by omega⟩
    · exact ⟨luw, by omega⟩
    · exact ⟨lls, by omega⟩
  refine seq_let (G := G5) (d := .list (rs.map rowD)) (ed_lst (ea_cons (ed_var (i := 4) rfl vw) (ea_cons (ed_var (i := 5) rfl vo) (ea_cons (ed_var (i := 6) rfl vm) (ea_cons (ed_var (i := 13) rfl vd) (ea_cons (ed_var (i := 10) rfl vf) ea_nil))))) (by show 5 ≤ sizeLine; omega)) n5.gh fun v6 G6 H6 n6 vs6 => ?_
  have n16 := n15.trans n6
  replace vw := dp_mono n6.gg _ vw
  replace vo := dp_mono n6.gg _ vo
  -- shortest
  let lenD : PyData → Int := fun d => match d with | .tuple ds => ds.length | _ => 0
  have lens : (rs.map rowD).map (fun d => PyData.int (lenD d)) = (rs.map fun r => (r.length : Int)).map .int := by
    rw [List.map_map, List.map_map]
    refine List.map_congr_left fun r _ => ?_
    show PyData.int (((r.map PyData.int).length : Nat) : Int) = .int (r.length : Int)
    rw [List.length_map]
  obtain ⟨sh, hsh1, hsh2⟩ : ∃ m ∈ rs, ∀ r ∈ rs, m.length ≤ r.length := by
    have go : ∀ (l : List (List Int)) (x : List Int), ∃ m ∈ x :: l, ∀ r ∈ x :: l, m.length ≤ r.length := fun l => by
      induction l with
      | nil => exact fun x => ⟨x, List.mem_cons_self, fun r h => by rw [List.mem_singleton.mp h]; exact Nat.le_refl _⟩
      | cons y l ih =>
        intro x
        obtain ⟨m, h1, h2⟩ := ih y
        by_cases h : x.length ≤ m.length
        · refine ⟨x, List.mem_cons_self, fun r hr => ?_⟩
          rcases List.mem_cons.mp hr with rfl | hr
          · exact Nat.le_refl _
          · exact Nat.le_trans h (h2 r hr)
        · refine ⟨m, List.mem_cons_of_mem _ h1, fun r hr => ?_⟩
          rcases List.mem_cons.mp hr with rfl | hr
          · omega
          · exact h2 r hr
    exact go _ _
  refine seq_let (G := G6) (d := .int (sh.length : Int)) (ed_minI (ns := rs.map fun r => (r.length : Int)) (ea_cons (EvD.cast (EvN.toD (en_lcL1 (i := 15) (fun d => .int (lenD d)) (ed_var (i := 11) rfl vs6) (fun _ => rfl) (by show 5 ≤ sizeLine; omega) fun d v Gi hm g hd => ?_)) (by rw [lens])) ea_nil) (by show 0 < 5; omega) fun k hk hy => ?_) n6.gh fun v7 G7 H7 n7 vsh => ?_
  · obtain ⟨r, _, rfl⟩ := List.mem_map.mp hm
    exact ed_cb (ea_cons (ed_var (i := 15) rfl hd) ea_nil) rcl_len
  · obtain ⟨r, hr, rfl⟩ := List.mem_map.mp hk
    have h1 := hsh2 r hr
    have h2 := hy (sh.length : Int) (List.mem_map.mpr ⟨sh, hsh1, rfl⟩)
    omega
  have ev7 := dp_int vsh
  subst ev7
  have n17 := n16.trans n7
  replace vw := dp_mono n7.gg _ vw
  replace vo := dp_mono n7.gg _ vo
  replace vs6 := dp_mono n7.gg _ vs6
  -- least_of
  have bl := best_least (fun i => rs.getD i []) 4
  have hbm : bestRow rs ∈ rs := by
    have h5 : argBest (btR fun i => rs.getD i []) 4 < rs.length := by
      show _ < 5
      omega
    show rs.getD (argBest (btR fun i => rs.getD i []) 4) [] ∈ rs
    rw [List.getD_eq_getElem?_getD, List.getElem?_eq_getElem h5]
    exact List.getElem_mem h5
  have hbl : ∀ r ∈ rs, ¬ kLt r (bestRow rs) := fun r hr => by
    obtain ⟨j, hj, rfl⟩ := List.mem_iff_getElem.mp hr
    have h5 : j < 5 := hj
    have := bl.2 j (by omega)
    have e : rs.getD j [] = rs[j] := by rw [List.getD_eq_getElem?_getD, List.getElem?_eq_getElem hj]; rfl
    rw [← e]
    exact this
  have hbs : (bestRow rs).length = sh.length := by
    have h1 := hsh2 _ hbm
    have h2 := hbl sh hsh1
    unfold kLt at h2
    omega
  let ff : PyData → Option PyData := fun d => if lenD d = (sh.length : Int) then some d else none
  let Pf : List Int → Bool := fun r => decide ((r.length : Int) = (sh.length : Int))
  have lenR : ∀ r : List Int, lenD (rowD r) = (r.length : Int) := fun r => by
    show (((r.map PyData.int).length : Nat) : Int) = _
    rw [List.length_map]
  have fl : ∀ l : List (List Int), (l.map rowD).filterMap ff = (l.filter Pf).map rowD := fun l => by
    induction l with
    | nil => rfl
    | cons r l ih =>
      rw [List.map_cons, List.filterMap_cons, List.filter_cons, ih]
      have ef : ff (rowD r) = if (r.length : Int) = (sh.length : Int) then some (rowD r) else none := by
        show (if lenD (rowD r) = (sh.length : Int) then some (rowD r) else none) = _
        rw [lenR]
      rw [ef]
      by_cases h : (r.length : Int) = (sh.length : Int)
      · have e : Pf r = true := decide_eq_true h
        rw [if_pos h, if_pos e]
        rfl
      · have e : Pf r = false := decide_eq_false h
        rw [if_neg h, e]
        rfl
  have inF : ∀ r, r ∈ rs.filter Pf ↔ r ∈ rs ∧ r.length = sh.length := fun r => by
    rw [List.mem_filter]
    show r ∈ rs ∧ decide ((r.length : Int) = (sh.length : Int)) = true ↔ _
    rw [decide_eq_true_eq]
    exact ⟨fun h => ⟨h.1, by omega⟩, fun h => ⟨h.1, by omega⟩⟩
  refine seq_chk (G := G7) (neS (x := (rowD (bestRow rs)).shown)
    (erep (ed_least (rows := rs) (ea_cons (ed_cb (ea_cons (ed_var (i := 11) rfl vs6) ea_nil) rcl_listL) ea_nil) (by show 0 < 5; omega)) (lrs _ hbm).1 (lrs _ hbm).2)
    (erep (ed_sort0 (rows := rs.filter Pf) (L := sh.length) (m := bestRow rs) (ea_cons (EvD.cast (EvN.toD (en_lcL (i := 15) ff (ed_var (i := 11) rfl vs6) (fun _ => rfl) (by show 5 ≤ sizeLine; omega) (fun d v Gi hm g hd => ?_) fun d v e Gi hm he g hd => ?_)) (by rw [fl])) ea_nil) (fun r hr => ((inF r).mp hr).2) (List.length_pos_iff.mpr fun z => ?_) fun z hz hl => ?_) (lrs _ hbm).1 (lrs _ hbm).2)) n7.gh fun G8 H8 n8 => ?_
  · obtain ⟨r, _, rfl⟩ := List.mem_map.mp hm
    refine EvB.cast (eb_test (ed_op (ed_cb (ea_cons (ed_var (i := 15) rfl hd) ea_nil) rcl_len) (ed_var (i := 14) rfl (.int (sh.length : Int))) ro_eqI)) ?_
    show decide (((r.map PyData.int).length : Int) = (sh.length : Int)) = (if lenD (rowD r) = (sh.length : Int) then some (rowD r) else none).isSome
    rw [lenR, List.length_map]
    split
    · rename_i h; rw [decide_eq_true h]; rfl
    · rename_i h; rw [decide_eq_false h]; rfl
  · have he : (if lenD d = (sh.length : Int) then some d else none) = some e := he
    split at he
    · cases he
      exact ed_var (i := 15) rfl hd
    · cases he
  · have := (inF sh).mpr ⟨hsh1, rfl⟩
    rw [z] at this
    cases this
  · obtain ⟨h1, h2⟩ := (inF z).mp hz
    have h3 := hbl z h1
    have h4 := hl _ ((inF _).mpr ⟨hbm, hbs⟩)
    have h5 : ¬ z < bestRow rs := fun q => h3 (.inr ⟨by omega, q⟩)
    exact List.le_antisymm (show z ≤ bestRow rs from h4) (show bestRow rs ≤ z from h5)
  have n18 := n17.trans n8
  replace vw := dp_mono n8.gg _ vw
  replace vo := dp_mono n8.gg _ vo
  replace vs6 := dp_mono n8.gg _ vs6
  -- least_of two
  let bd : Bool := PySem.W.dataLt (keyD os) (keyD ws)
  have hbest : bestRow [ws, os] = if bd = true then os else ws := by
    have e : bestI [ws, os] = if bd = true then 1 else 0 := by
      show (if btR (fun i => [ws, os].getD i []) 1 0 then 1 else 0) = _
      rfl
    unfold bestRow
    rw [e]
    cases bd <;> rfl
  have ekey : ∀ {τ : L2.St} {j : Nat} {v : V} {us : List Int}, τ[j]? = some (some v) → Dp K G8 v (rowD us) → EvD K (tTup (tCons (tCB (rLenQ K) (tCons (tVar j) tNil)) (tCons (tVar j) tNil))) τ G8 (keyD us) := fun {τ j v us} h hd =>
    EvD.cast (ed_tup (ea_cons (ed_cb (ea_cons (ed_var (i := j) h hd) ea_nil) rcl_len) (ea_cons (ed_var (i := j) h hd) ea_nil)) (by show 2 ≤ sizeLine; omega)) (by
      show PyData.tuple [.int (((us.map PyData.int).length : Nat) : Int), .tuple (us.map .int)] = keyD us
      rw [List.length_map]
      rfl)
  have dk : (keyD os).depth ≤ 16 := by
    unfold keyD
    simp [PyData.depth, PyData.depthAll, depth_row]
  refine if_chk (G := G8) (neR (us := bestRow [ws, os])
    (ed_leastK (rows := [ws, os]) (ea_cons (ed_cb (ea_cons (EvD.cast (z := .list [rowD ws, rowD os]) (ed_slL (ed_var (i := 11) rfl vs6) eo_none (eo_some (i := ((2 : Nat) : Int)) ed_int)) (by rw [cutD_to]; rfl)) ea_nil) rcl_tupleL) ea_nil) (by show 0 < 2; omega))
    (ed_if (b := bd) (eb_test (ed_op (ekey (j := 5) rfl vo) (ekey (j := 4) rfl vw) (ro_ltD (alike_key _ _) (fun z => nomatch z) dk))) (fun hb => EvD.cast (ed_var (i := 5) rfl vo) (by rw [hbest, hb]; rfl)) fun hb => EvD.cast (ed_var (i := 4) rfl vw) (by rw [hbest, hb]; rfl))) n8.gh fun G9 H9 n9 => ?_
  exact ⟨_, _, _, _, _, _, _, _, _, _, _, _, _, _, rfl, Dl.same (n18.trans n9).hh⟩
end Gw
namespace Gw
open PySem PySem.Spec PyProof.Rows L2
/-! ### what the top has written, the head -/
theorem all_mk {l : PySem.W.OpenLaw} {w : World} {K : PySem.W.Frag} {h : Heap} {mg : Str → Option Value} {fa : Addr} (X : K.In h) (G : h.Ns mainGlobals mg) (hfa : mg "law" = some (.ref fa))
    {f0 : Addr} {od0 an0 : Option Addr} {sl0 : Array (Option Value)} {oc0 kV0 dc0 pm0 cd0 ct0 : Value}
    {f1 : Addr} {od1 an1 : Option Addr} {sl1 : Array (Option Value)} {oc1 kV1 dc1 pm1 cd1 ct1 : Value}
    {f2 : Addr} {od2 an2 : Option Addr} {sl2 : Array (Option Value)} {oc2 kV2 dc2 pm2 cd2 ct2 : Value}
    {f3 : Addr} {od3 an3 : Option Addr} {sl3 : Array (Option Value)} {oc3 kV3 dc3 pm3 cd3 ct3 : Value}
    {f4 : Addr} {od4 an4 : Option Addr} {sl4 : Array (Option Value)} {oc4 kV4 dc4 pm4 cd4 ct4 : Value}
    {f5 : Addr} {od5 an5 : Option Addr} {sl5 : Array (Option Value)} {oc5 kV5 dc5 pm5 cd5 ct5 : Value}
    {f6 : Addr} {od6 an6 : Option Addr} {sl6 : Array (Option Value)} {oc6 kV6 dc6 pm6 cd6 ct6 : Value}
    {f7 : Addr} {od7 an7 : Option Addr} {sl7 : Array (Option Value)} {oc7 kV7 dc7 pm7 cd7 ct7 : Value}
    {f8 : Addr} {od8 an8 : Option Addr} {sl8 : Array (Option Value)} {oc8 kV8 dc8 pm8 cd8 ct8 : Value}
    {f9 : Addr} {od9 an9 : Option Addr} {sl9 : Array (Option Value)} {oc9 kV9 dc9 pm9 cd9 ct9 : Value}
    {f10 : Addr} {od10 an10 : Option Addr} {sl10 : Array (Option Value)} {oc10 kV10 dc10 pm10 cd10 ct10 : Value}
    {f11 : Addr} {od11 an11 : Option Addr} {sl11 : Array (Option Value)} {oc11 kV11 dc11 pm11 cd11 ct11 : Value}
    {f12 : Addr} {od12 an12 : Option Addr} {sl12 : Array (Option Value)} {oc12 kV12 dc12 pm12 cd12 ct12 : Value}
    {f13 : Addr} {od13 an13 : Option Addr} {sl13 : Array (Option Value)} {oc13 kV13 dc13 pm13 cd13 ct13 : Value}
    {f14 : Addr} {od14 an14 : Option Addr} {sl14 : Array (Option Value)} {oc14 kV14 dc14 pm14 cd14 ct14 : Value}
    {f15 : Addr} {od15 an15 : Option Addr} {sl15 : Array (Option Value)} {oc15 kV15 dc15 pm15 cd15 ct15 : Value}
    {f16 : Addr} {od16 an16 : Option Addr} {sl16 : Array (Option Value)} {oc16 kV16 dc16 pm16 cd16 ct16 : Value}
    {f17 : Addr} {od17 an17 : Option Addr} {sl17 : Array (Option Value)} {oc17 kV17 dc17 pm17 cd17 ct17 : Value}
    {f18 : Addr} {od18 an18 : Option Addr} {sl18 : Array (Option Value)} {oc18 kV18 dc18 pm18 cd18 ct18 : Value}
    {f19 : Addr} {od19 an19 : Option Addr} {sl19 : Array (Option Value)} {oc19 kV19 dc19 pm19 cd19 ct19 : Value}
    {f20 : Addr} {od20 an20 : Option Addr} {sl20 : Array (Option Value)} {oc20 kV20 dc20 pm20 cd20 ct20 : Value}
    {t_MOST_BACK : Tok}
    {t_MOST_LETTERS : Tok}
    (a0 : PySem.W.nsIn K mainGlobals "is_number" = some (some (.ref f0)))
    (l0 : K.lookup f0 = some ⟨oc0, od0, .func (PySem.W.fnOf "is_number" "is_number" (defArgs s_is_number) (defBody s_is_number) (defScope s_is_number) .none kV0 dc0 pm0 an0 cd0 ct0), sl0⟩)
    (c0 : PySem.W.codeIn K cd0 "is_number" = true)
    (k0 : PySem.W.keepIn K (.ref f0) = true)
    (a1 : PySem.W.nsIn K mainGlobals "is_number_in" = some (some (.ref f1)))
    (l1 : K.lookup f1 = some ⟨oc1, od1, .func (PySem.W.fnOf "is_number_in" "is_number_in" (defArgs s_is_number_in) (defBody s_is_number_in) (defScope s_is_number_in) .none kV1 dc1 pm1 an1 cd1 ct1), sl1⟩)
    (c1 : PySem.W.codeIn K cd1 "is_number_in" = true)
    (k1 : PySem.W.keepIn K (.ref f1) = true)
    (a2 : PySem.W.nsIn K mainGlobals "is_row" = some (some (.ref f2)))
    (l2 : K.lookup f2 = some ⟨oc2, od2, .func (PySem.W.fnOf "is_row" "is_row" (defArgs s_is_row) (defBody s_is_row) (defScope s_is_row) .none kV2 dc2 pm2 an2 cd2 ct2), sl2⟩)
    (c2 : PySem.W.codeIn K cd2 "is_row" = true)
    (k2 : PySem.W.keepIn K (.ref f2) = true)
    (a3 : PySem.W.nsIn K mainGlobals "is_short_row" = some (some (.ref f3)))
    (l3 : K.lookup f3 = some ⟨oc3, od3, .func (PySem.W.fnOf "is_short_row" "is_short_row" (defArgs s_is_short_row) (defBody s_is_short_row) (defScope s_is_short_row) .none kV3 dc3 pm3 an3 cd3 ct3), sl3⟩)
    (c3 : PySem.W.codeIn K cd3 "is_short_row" = true)
    (k3 : PySem.W.keepIn K (.ref f3) = true)
    (a4 : PySem.W.nsIn K mainGlobals "is_back" = some (some (.ref f4)))
    (l4 : K.lookup f4 = some ⟨oc4, od4, .func (PySem.W.fnOf "is_back" "is_back" (defArgs s_is_back) (defBody s_is_back) (defScope s_is_back) .none kV4 dc4 pm4 an4 cd4 ct4), sl4⟩)
    (c4 : PySem.W.codeIn K cd4 "is_back" = true)
    (k4 : PySem.W.keepIn K (.ref f4) = true)
    (a5 : PySem.W.nsIn K mainGlobals "want_back" = some (some (.ref f5)))
    (l5 : K.lookup f5 = some ⟨oc5, od5, .func (PySem.W.fnOf "want_back" "want_back" (defArgs s_want_back) (defBody s_want_back) (defScope s_want_back) .none kV5 dc5 pm5 an5 cd5 ct5), sl5⟩)
    (c5 : PySem.W.codeIn K cd5 "want_back" = true)
    (k5 : PySem.W.keepIn K (.ref f5) = true)
    (a6 : PySem.W.nsIn K mainGlobals "want_word" = some (some (.ref f6)))
    (l6 : K.lookup f6 = some ⟨oc6, od6, .func (PySem.W.fnOf "want_word" "want_word" (defArgs s_want_word) (defBody s_want_word) (defScope s_want_word) .none kV6 dc6 pm6 an6 cd6 ct6), sl6⟩)
    (c6 : PySem.W.codeIn K cd6 "want_word" = true)
    (k6 : PySem.W.keepIn K (.ref f6) = true)
    (a7 : PySem.W.nsIn K mainGlobals "freed" = some (some (.ref f7)))
    (l7 : K.lookup f7 = some ⟨oc7, od7, .func (PySem.W.fnOf "freed" "freed" (defArgs s_freed) (defBody s_freed) (defScope s_freed) .none kV7 dc7 pm7 an7 cd7 ct7), sl7⟩)
    (c7 : PySem.W.codeIn K cd7 "freed" = true)
    (k7 : PySem.W.keepIn K (.ref f7) = true)
    (a8 : PySem.W.nsIn K mainGlobals "free" = some (some (.ref f8)))
    (l8 : K.lookup f8 = some ⟨oc8, od8, .func (PySem.W.fnOf "free" "free" (defArgs s_free) (defBody s_free) (defScope s_free) .none kV8 dc8 pm8 an8 cd8 ct8), sl8⟩)
    (c8 : PySem.W.codeIn K cd8 "free" = true)
    (k8 : PySem.W.keepIn K (.ref f8) = true)
    (a9 : PySem.W.nsIn K mainGlobals "turned_back" = some (some (.ref f9)))
    (l9 : K.lookup f9 = some ⟨oc9, od9, .func (PySem.W.fnOf "turned_back" "turned_back" (defArgs s_turned_back) (defBody s_turned_back) (defScope s_turned_back) .none kV9 dc9 pm9 an9 cd9 ct9), sl9⟩)
    (c9 : PySem.W.codeIn K cd9 "turned_back" = true)
    (k9 : PySem.W.keepIn K (.ref f9) = true)
    (a10 : PySem.W.nsIn K mainGlobals "undone" = some (some (.ref f10)))
    (l10 : K.lookup f10 = some ⟨oc10, od10, .func (PySem.W.fnOf "undone" "undone" (defArgs s_undone) (defBody s_undone) (defScope s_undone) .none kV10 dc10 pm10 an10 cd10 ct10), sl10⟩)
    (c10 : PySem.W.codeIn K cd10 "undone" = true)
    (k10 : PySem.W.keepIn K (.ref f10) = true)
    (a11 : PySem.W.nsIn K mainGlobals "rank" = some (some (.ref f11)))
    (l11 : K.lookup f11 = some ⟨oc11, od11, .func (PySem.W.fnOf "rank" "rank" (defArgs s_rank) (defBody s_rank) (defScope s_rank) .none kV11 dc11 pm11 an11 cd11 ct11), sl11⟩)
    (c11 : PySem.W.codeIn K cd11 "rank" = true)
    (k11 : PySem.W.keepIn K (.ref f11) = true)
    (a12 : PySem.W.nsIn K mainGlobals "least_of" = some (some (.ref f12)))
    (l12 : K.lookup f12 = some ⟨oc12, od12, .func (PySem.W.fnOf "least_of" "least_of" (defArgs s_least_of) (defBody s_least_of) (defScope s_least_of) .none kV12 dc12 pm12 an12 cd12 ct12), sl12⟩)
    (c12 : PySem.W.codeIn K cd12 "least_of" = true)
    (k12 : PySem.W.keepIn K (.ref f12) = true)
    (a13 : PySem.W.nsIn K mainGlobals "_law_begun" = some (some (.ref f13)))
    (l13 : K.lookup f13 = some ⟨oc13, od13, .func (PySem.W.fnOf "_law_begun" "_law_begun" (defArgs s_law_begun) (defBody s_law_begun) (defScope s_law_begun) .none kV13 dc13 pm13 an13 cd13 ct13), sl13⟩)
    (c13 : PySem.W.codeIn K cd13 "_law_begun" = true)
    (k13 : PySem.W.keepIn K (.ref f13) = true)
    (a14 : PySem.W.nsIn K mainGlobals "_law_mixed" = some (some (.ref f14)))
    (l14 : K.lookup f14 = some ⟨oc14, od14, .func (PySem.W.fnOf "_law_mixed" "_law_mixed" (defArgs s_law_mixed) (defBody s_law_mixed) (defScope s_law_mixed) .none kV14 dc14 pm14 an14 cd14 ct14), sl14⟩)
    (c14 : PySem.W.codeIn K cd14 "_law_mixed" = true)
    (k14 : PySem.W.keepIn K (.ref f14) = true)
    (a15 : PySem.W.nsIn K mainGlobals "_law_take" = some (some (.ref f15)))
    (l15 : K.lookup f15 = some ⟨oc15, od15, .func (PySem.W.fnOf "_law_take" "_law_take" (defArgs s_law_take) (defBody s_law_take) (defScope s_law_take) .none kV15 dc15 pm15 an15 cd15 ct15), sl15⟩)
    (c15 : PySem.W.codeIn K cd15 "_law_take" = true)
    (k15 : PySem.W.keepIn K (.ref f15) = true)
    (a16 : PySem.W.nsIn K mainGlobals "_law_pick" = some (some (.ref f16)))
    (l16 : K.lookup f16 = some ⟨oc16, od16, .func (PySem.W.fnOf "_law_pick" "_law_pick" (defArgs s_law_pick) (defBody s_law_pick) (defScope s_law_pick) .none kV16 dc16 pm16 an16 cd16 ct16), sl16⟩)
    (c16 : PySem.W.codeIn K cd16 "_law_pick" = true)
    (k16 : PySem.W.keepIn K (.ref f16) = true)
    (a17 : PySem.W.nsIn K mainGlobals "_law_shuffled" = some (some (.ref f17)))
    (l17 : K.lookup f17 = some ⟨oc17, od17, .func (PySem.W.fnOf "_law_shuffled" "_law_shuffled" (defArgs s_law_shuffled) (defBody s_law_shuffled) (defScope s_law_shuffled) .none kV17 dc17 pm17 an17 cd17 ct17), sl17⟩)
    (c17 : PySem.W.codeIn K cd17 "_law_shuffled" = true)
    (k17 : PySem.W.keepIn K (.ref f17) = true)
    (a18 : PySem.W.nsIn K mainGlobals "_law_back" = some (some (.ref f18)))
    (l18 : K.lookup f18 = some ⟨oc18, od18, .func (PySem.W.fnOf "_law_back" "_law_back" (defArgs s_law_back) (defBody s_law_back) (defScope s_law_back) .none kV18 dc18 pm18 an18 cd18 ct18), sl18⟩)
    (c18 : PySem.W.codeIn K cd18 "_law_back" = true)
    (k18 : PySem.W.keepIn K (.ref f18) = true)
    (a19 : PySem.W.nsIn K mainGlobals "_law_word" = some (some (.ref f19)))
    (l19 : K.lookup f19 = some ⟨oc19, od19, .func (PySem.W.fnOf "_law_word" "_law_word" (defArgs s_law_word) (defBody s_law_word) (defScope s_law_word) .none kV19 dc19 pm19 an19 cd19 ct19), sl19⟩)
    (c19 : PySem.W.codeIn K cd19 "_law_word" = true)
    (k19 : PySem.W.keepIn K (.ref f19) = true)
    (a20 : PySem.W.nsIn K mainGlobals "law" = some (some (.ref f20)))
    (l20 : K.lookup f20 = some ⟨oc20, od20, .func (PySem.W.fnOf "law" "law" (defArgs s_law) (defBody s_law) (defScope s_law) .none kV20 dc20 pm20 an20 cd20 ct20), sl20⟩)
    (c20 : PySem.W.codeIn K cd20 "law" = true)
    (k20 : PySem.W.keepIn K (.ref f20) = true)
    (g_MOST_BACK : PySem.W.nsIn K mainGlobals "MOST_BACK" = some (some (.int 12 t_MOST_BACK)))
    (g_MOST_LETTERS : PySem.W.nsIn K mainGlobals "MOST_LETTERS" = some (some (.int 200 t_MOST_LETTERS)))
    (z_len : PySem.W.nsIn K mainGlobals "len" = some none)
    (z_int : PySem.W.nsIn K mainGlobals "int" = some none)
    (z_bool : PySem.W.nsIn K mainGlobals "bool" = some none)
    (z_str : PySem.W.nsIn K mainGlobals "str" = some none)
    (z_list : PySem.W.nsIn K mainGlobals "list" = some none)
    (z_tuple : PySem.W.nsIn K mainGlobals "tuple" = some none)
    (z_dict : PySem.W.nsIn K mainGlobals "dict" = some none)
    (z_isinstance : PySem.W.nsIn K mainGlobals "isinstance" = some none)
    (z_all : PySem.W.nsIn K mainGlobals "all" = some none)
    (z_any : PySem.W.nsIn K mainGlobals "any" = some none)
    (z_abs : PySem.W.nsIn K mainGlobals "abs" = some none)
    (z_min : PySem.W.nsIn K mainGlobals "min" = some none)
    (z_max : PySem.W.nsIn K mainGlobals "max" = some none)
    (z_range : PySem.W.nsIn K mainGlobals "range" = some none)
    (z_enumerate : PySem.W.nsIn K mainGlobals "enumerate" = some none)
    (z_repr : PySem.W.nsIn K mainGlobals "repr" = some none)
    (z_sorted : PySem.W.nsIn K mainGlobals "sorted" = some none)
    : ∃ fd : FuncData, LawAt l.prog w K mg "law" s_law N_law 12 fa fd := by
  have e := hfa.symm.trans (PySem.W.mg_of X G a20)
  cases e
  have T : Bt mg := ⟨PySem.W.mg_none_of X G z_len, PySem.W.mg_none_of X G z_int, PySem.W.mg_none_of X G z_bool, PySem.W.mg_none_of X G z_str, PySem.W.mg_none_of X G z_list, PySem.W.mg_none_of X G z_tuple, PySem.W.mg_none_of X G z_dict, PySem.W.mg_none_of X G z_isinstance, PySem.W.mg_none_of X G z_all, PySem.W.mg_none_of X G z_any, PySem.W.mg_none_of X G z_abs, PySem.W.mg_none_of X G z_min, PySem.W.mg_none_of X G z_max, PySem.W.mg_none_of X G z_range, PySem.W.mg_none_of X G z_enumerate, PySem.W.mg_none_of X G z_repr, PySem.W.mg_none_of X G z_sorted⟩
  have c_MOST_BACK := PySem.W.mg_of X G g_MOST_BACK
  have c_MOST_LETTERS := PySem.W.mg_of X G g_MOST_LETTERS
  have F0 := fun_mk (st := s_is_number) l0 c0 k0
  have b0 := F0.binds (ps := P_is_number) fun _ _ _ _ _ _ us hl => match us, hl with | [_], _ => rfl
  have D0 : DefAt K mg "is_number" s_is_number P_is_number f0 _ := ⟨F0, PySem.W.mg_of X G a0, b0⟩
  have F1 := fun_mk (st := s_is_number_in) l1 c1 k1
  have b1 := F1.binds (ps := P_is_number_in) fun _ _ _ _ _ _ us hl => match us, hl with | [_, _, _], _ => rfl
  have D1 : DefAt K mg "is_number_in" s_is_number_in P_is_number_in f1 _ := ⟨F1, PySem.W.mg_of X G a1, b1⟩
  have F2 := fun_mk (st := s_is_row) l2 c2 k2
  have b2 := F2.binds (ps := P_is_row) fun _ _ _ _ _ _ us hl => match us, hl with | [_, _], _ => rfl
  have D2 : DefAt K mg "is_row" s_is_row P_is_row f2 _ := ⟨F2, PySem.W.mg_of X G a2, b2⟩
  have F3 := fun_mk (st := s_is_short_row) l3 c3 k3
  have b3 := F3.binds (ps := P_is_short_row) fun _ _ _ _ _ _ us hl => match us, hl with | [_, _, _], _ => rfl
  have D3 : DefAt K mg "is_short_row" s_is_short_row P_is_short_row f3 _ := ⟨F3, PySem.W.mg_of X G a3, b3⟩
  have F4 := fun_mk (st := s_is_back) l4 c4 k4
  have b4 := F4.binds (ps := P_is_back) fun _ _ _ _ _ _ us hl => match us, hl with | [_], _ => rfl
  have D4 : DefAt K mg "is_back" s_is_back P_is_back f4 _ := ⟨F4, PySem.W.mg_of X G a4, b4⟩
  have F5 := fun_mk (st := s_want_back) l5 c5 k5
  have b5 := F5.binds (ps := P_want_back) fun _ _ _ _ _ _ us hl => match us, hl with | [_], _ => rfl
  have D5 : DefAt K mg "want_back" s_want_back P_want_back f5 _ := ⟨F5, PySem.W.mg_of X G a5, b5⟩
  have F6 := fun_mk (st := s_want_word) l6 c6 k6
  have b6 := F6.binds (ps := P_want_word) fun _ _ _ _ _ _ us hl => match us, hl with | [_, _], _ => rfl
  have D6 : DefAt K mg "want_word" s_want_word P_want_word f6 _ := ⟨F6, PySem.W.mg_of X G a6, b6⟩
  have F7 := fun_mk (st := s_freed) l7 c7 k7
  have b7 := F7.binds (ps := P_freed) fun _ _ _ _ _ _ us hl => match us, hl with | [_, _], _ => rfl
  have D7 : DefAt K mg "freed" s_freed P_freed f7 _ := ⟨F7, PySem.W.mg_of X G a7, b7⟩
  have F8 := fun_mk (st := s_free) l8 c8 k8
  have b8 := F8.binds (ps := P_free) fun _ _ _ _ _ _ us hl => match us, hl with | [_, _], _ => rfl
  have D8 : DefAt K mg "free" s_free P_free f8 _ := ⟨F8, PySem.W.mg_of X G a8, b8⟩
  have F9 := fun_mk (st := s_turned_back) l9 c9 k9
  have b9 := F9.binds (ps := P_turned_back) fun _ _ _ _ _ _ us hl => match us, hl with | [_, _], _ => rfl
  have D9 : DefAt K mg "turned_back" s_turned_back P_turned_back f9 _ := ⟨F9, PySem.W.mg_of X G a9, b9⟩
  have F10 := fun_mk (st := s_undone) l10 c10 k10
  have b10 := F10.binds (ps := P_undone) fun _ _ _ _ _ _ us hl => match us, hl with | [_, _], _ => rfl
  have D10 : DefAt K mg "undone" s_undone P_undone f10 _ := ⟨F10, PySem.W.mg_of X G a10, b10⟩
  have F11 := fun_mk (st := s_rank) l11 c11 k11
  have b11 := F11.binds (ps := P_rank) fun _ _ _ _ _ _ us hl => match us, hl with | [_], _ => rfl
  have D11 : DefAt K mg "rank" s_rank P_rank f11 _ := ⟨F11, PySem.W.mg_of X G a11, b11⟩
  have F12 := fun_mk (st := s_least_of) l12 c12 k12
  have b12 := F12.binds (ps := P_least_of) fun _ _ _ _ _ _ us hl => match us, hl with | [_], _ => rfl
  have D12 : DefAt K mg "least_of" s_least_of P_least_of f12 _ := ⟨F12, PySem.W.mg_of X G a12, b12⟩
  have F13 := fun_mk (st := s_law_begun) l13 c13 k13
  have b13 := F13.binds (ps := P_law_begun) fun _ _ _ _ _ _ us hl => match us, hl with | [_], _ => rfl
  have D13 : DefAt K mg "_law_begun" s_law_begun P_law_begun f13 _ := ⟨F13, PySem.W.mg_of X G a13, b13⟩
  have F14 := fun_mk (st := s_law_mixed) l14 c14 k14
  have b14 := F14.binds (ps := P_law_mixed) fun _ _ _ _ _ _ us hl => match us, hl with | [_], _ => rfl
  have D14 : DefAt K mg "_law_mixed" s_law_mixed P_law_mixed f14 _ := ⟨F14, PySem.W.mg_of X G a14, b14⟩
  have F15 := fun_mk (st := s_law_take) l15 c15 k15
  have b15 := F15.binds (ps := P_law_take) fun _ _ _ _ _ _ us hl => match us, hl with | [_, _], _ => rfl
  have D15 : DefAt K mg "_law_take" s_law_take P_law_take f15 _ := ⟨F15, PySem.W.mg_of X G a15, b15⟩
  have F16 := fun_mk (st := s_law_pick) l16 c16 k16
  have b16 := F16.binds (ps := P_law_pick) fun _ _ _ _ _ _ us hl => match us, hl with | [_, _], _ => rfl
  have D16 : DefAt K mg "_law_pick" s_law_pick P_law_pick f16 _ := ⟨F16, PySem.W.mg_of X G a16, b16⟩
  have F17 := fun_mk (st := s_law_shuffled) l17 c17 k17
  have b17 := F17.binds (ps := P_law_shuffled) fun _ _ _ _ _ _ us hl => match us, hl with | [_, _], _ => rfl
  have D17 : DefAt K mg "_law_shuffled" s_law_shuffled P_law_shuffled f17 _ := ⟨F17, PySem.W.mg_of X G a17, b17⟩
  have F18 := fun_mk (st := s_law_back) l18 c18 k18
  have b18 := F18.binds (ps := P_law_back) fun _ _ _ _ _ _ us hl => match us, hl with | [_], _ => rfl
  have D18 : DefAt K mg "_law_back" s_law_back P_law_back f18 _ := ⟨F18, PySem.W.mg_of X G a18, b18⟩
  have F19 := fun_mk (st := s_law_word) l19 c19 k19
  have b19 := F19.binds (ps := P_law_word) fun _ _ _ _ _ _ us hl => match us, hl with | [_, _, _], _ => rfl
  have D19 : DefAt K mg "_law_word" s_law_word P_law_word f19 _ := ⟨F19, PySem.W.mg_of X G a19, b19⟩
  have F20 := fun_mk (st := s_law) l20 c20 k20
  have b20 := F20.binds (ps := P_law) fun _ _ _ _ _ _ us hl => match us, hl with | [_], _ => rfl
  refine ⟨_, sc_law, F20, b20, fun base hK hNs cdv s H a ns hr hO hS h63 => ?_⟩
  have h_is_number := ok_is_number (P := l.prog) (w := w) (base := base) D0 T
  have h_is_number_in := ok_is_number_in (P := l.prog) (w := w) (base := base) D1 T h_is_number
  have h_is_row := ok_is_row (P := l.prog) (w := w) (base := base) D2 T h_is_number_in
  have h_is_short_row := ok_is_short_row (P := l.prog) (w := w) (base := base) D3 T h_is_row
  have h_is_back := ok_is_back (P := l.prog) (w := w) (base := base) D4 T c_MOST_BACK h_is_row
  have h_want_back := ok_want_back (P := l.prog) (w := w) (base := base) D5 T h_is_back
  have h_want_word := ok_want_word (P := l.prog) (w := w) (base := base) D6 T c_MOST_LETTERS h_is_short_row
  have h_freed := ok_freed (P := l.prog) (w := w) (base := base) D7 T
  have h_free := ok_free (P := l.prog) (w := w) (base := base) D8 T h_want_back h_want_word h_freed
  have h_turned_back := ok_turned_back (P := l.prog) (w := w) (base := base) D9 T
  have h_undone := ok_undone (P := l.prog) (w := w) (base := base) D10 T h_want_back h_want_word h_turned_back
  have h_rank := ok_rank (P := l.prog) (w := w) (base := base) D11 T
  have h_least_of := ok_least_of (P := l.prog) (w := w) (base := base) D12 T h_rank
  have h__law_begun := ok_law_begun (P := l.prog) (w := w) (base := base) D13 T
  have h__law_mixed := ok_law_mixed (P := l.prog) (w := w) (base := base) D14 T
  have h__law_take := ok_law_take (P := l.prog) (w := w) (base := base) D15 T h__law_mixed
  have h__law_pick := ok_law_pick (P := l.prog) (w := w) (base := base) D16 T h__law_take
  have h__law_shuffled := ok_law_shuffled (P := l.prog) (w := w) (base := base) D17 T h__law_take
  have h__law_back := ok_law_back (P := l.prog) (w := w) (base := base) D18 T h__law_take h__law_shuffled
  have h__law_word := ok_law_word (P := l.prog) (w := w) (base := base) D19 T h__law_take
  exact ok_law T h_free h_undone h_least_of h__law_begun h__law_take h__law_pick h__law_back h__law_word hr hO hS h63
end Gw

open PySem PySem.W PyProof.Rows in
set_option maxRecDepth 100000 in
set_option maxHeartbeats 0 in
theorem PySem.Challenge.cw_gatewords_k02_whole_free_words_holds : PySem.Challenge.rw_gatewords_k02_whole_free_words.Holds := by
  w_on; o_law; k_head; (case hw => w_witness2)
  k_fill
  refine Gw.walk_at (l := PySem.Challenge.rw_gatewords_k02_whole_free_words) (st := Gw.s_law) (N := Gw.N_law) (k := 12) rfl rfl ⟨rfl, by decide, by decide⟩ (fun w h Y => PySem.W.kIn_of Y) ?F
  case F =>
    intro w mg fa h KX G hmg
    refine' Gw.all_mk KX G hmg ?a0 ?l0 ?c0 ?k0 ?a1 ?l1 ?c1 ?k1 ?a2 ?l2 ?c2 ?k2 ?a3 ?l3 ?c3 ?k3 ?a4 ?l4 ?c4 ?k4 ?a5 ?l5 ?c5 ?k5 ?a6 ?l6 ?c6 ?k6 ?a7 ?l7 ?c7 ?k7 ?a8 ?l8 ?c8 ?k8 ?a9 ?l9 ?c9 ?k9 ?a10 ?l10 ?c10 ?k10 ?a11 ?l11 ?c11 ?k11 ?a12 ?l12 ?c12 ?k12 ?a13 ?l13 ?c13 ?k13 ?a14 ?l14 ?c14 ?k14 ?a15 ?l15 ?c15 ?k15 ?a16 ?l16 ?c16 ?k16 ?a17 ?l17 ?c17 ?k17 ?a18 ?l18 ?c18 ?k18 ?a19 ?l19 ?c19 ?k19 ?a20 ?l20 ?c20 ?k20 ?g_MOST_BACK ?g_MOST_LETTERS ?z_len ?z_int ?z_bool ?z_str ?z_list ?z_tuple ?z_dict ?z_isinstance ?z_all ?z_any ?z_abs ?z_min ?z_max ?z_range ?z_enumerate ?z_repr ?z_sorted
    (case a0 => k_is)
    (case l0 => k_is)
    (case c0 => k_is)
    (case k0 => k_is)
    (case a1 => k_is)
    (case l1 => k_is)
    (case c1 => k_is)
    (case k1 => k_is)
    (case a2 => k_is)
    (case l2 => k_is)
    (case c2 => k_is)
    (case k2 => k_is)
    (case a3 => k_is)
    (case l3 => k_is)
    (case c3 => k_is)
    (case k3 => k_is)
    (case a4 => k_is)
    (case l4 => k_is)
    (case c4 => k_is)
    (case k4 => k_is)
    (case a5 => k_is)
    (case l5 => k_is)
    (case c5 => k_is)
    (case k5 => k_is)
    (case a6 => k_is)
    (case l6 => k_is)
    (case c6 => k_is)
    (case k6 => k_is)
    (case a7 => k_is)
    (case l7 => k_is)
    (case c7 => k_is)
    (case k7 => k_is)
    (case a8 => k_is)
    (case l8 => k_is)
    (case c8 => k_is)
    (case k8 => k_is)
    (case a9 => k_is)
    (case l9 => k_is)
    (case c9 => k_is)
    (case k9 => k_is)
    (case a10 => k_is)
    (case l10 => k_is)
    (case c10 => k_is)
    (case k10 => k_is)
    (case a11 => k_is)
    (case l11 => k_is)
    (case c11 => k_is)
    (case k11 => k_is)
    (case a12 => k_is)
    (case l12 => k_is)
    (case c12 => k_is)
    (case k12 => k_is)
    (case a13 => k_is)
    (case l13 => k_is)
    (case c13 => k_is)
    (case k13 => k_is)
    (case a14 => k_is)
    (case l14 => k_is)
    (case c14 => k_is)
    (case k14 => k_is)
    (case a15 => k_is)
    (case l15 => k_is)
    (case c15 => k_is)
    (case k15 => k_is)
    (case a16 => k_is)
    (case l16 => k_is)
    (case c16 => k_is)
    (case k16 => k_is)
    (case a17 => k_is)
    (case l17 => k_is)
    (case c17 => k_is)
    (case k17 => k_is)
    (case a18 => k_is)
    (case l18 => k_is)
    (case c18 => k_is)
    (case k18 => k_is)
    (case a19 => k_is)
    (case l19 => k_is)
    (case c19 => k_is)
    (case k19 => k_is)
    (case a20 => k_is)
    (case l20 => k_is)
    (case c20 => k_is)
    (case k20 => k_is)
    (case g_MOST_BACK => k_is)
    (case g_MOST_LETTERS => k_is)
    (case z_len => k_is)
    (case z_int => k_is)
    (case z_bool => k_is)
    (case z_str => k_is)
    (case z_list => k_is)
    (case z_tuple => k_is)
    (case z_dict => k_is)
    (case z_isinstance => k_is)
    (case z_all => k_is)
    (case z_any => k_is)
    (case z_abs => k_is)
    (case z_min => k_is)
    (case z_max => k_is)
    (case z_range => k_is)
    (case z_enumerate => k_is)
    (case z_repr => k_is)
    (case z_sorted => k_is)
