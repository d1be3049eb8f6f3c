import PyProof.Rows.All
import Wide.All
import OpenK.AllK
import Wide.FinOn
import PySem.Challenge.RW_gatewords_k08_claims_judged_and_what_the
import HandS.ForMost
import HandS.TupAny
import HandS.IsInst
import HandS.Conv
import PyProof.ReprReads
import HandS.Exc
import HandS.ExcOwn
import HandS.ExcValue
import HandS.Walk
import KE.GoesMore
import PyProof.EnumMake
import HandS.Style
import KE.KRevSl
import HandS.Lambda
import PyProof.ReprBulk
import PyProof.ReprRoads
import HandS.SortKw
import KE.DataMinKey
import KE.SortData
import HandS.WordsExc
import HandS.CallLocal
import HandS.ExcIs
import KE.KExcSuper
import KE.KExcIs
import HandS.ExcInit
import PyProof.InstEq
import HandS.TupMul
import HandS.EndOwn
import HandS.NestedK
import HandS.MakeKwOnly
import HandS.DictComp
import HandS.OwnEq
set_option Elab.async false
set_option linter.all false
set_option maxRecDepth 100000
set_option maxHeartbeats 4000000
namespace Gw
open PySem PySem.Spec PyProof.Rows L2

/-! ### views: G is the part of the heap that never changes -/
structure Nx (G H G' H' : Hp) : Prop where
  gg : Same G G'
  gh : Same G' H'
  hh : Same H H'
  fr : ∀ a, H a ≠ none → G' a = G a
theorem ne_none {H : Hp} {a : Addr} {o : HO} (h : H a = some o) : H a ≠ none := by rw [h]; exact fun z => nomatch z
theorem same_none {H H' : Hp} (e : Same H H') {a : Addr} (h : H a ≠ none) : H' a ≠ none := by
  cases q : H a with
  | none => exact absurd q h
  | some o => exact ne_none (e a o q)
theorem Nx.refl {G H : Hp} (h : Same G H) : Nx G H G H := ⟨Same.refl G, h, Same.refl H, fun _ _ => rfl⟩
theorem Nx.trans {G H G1 H1 G2 H2 : Hp} (a : Nx G H G1 H1) (b : Nx G1 H1 G2 H2) : Nx G H G2 H2 :=
  ⟨a.gg.trans b.gg, b.gh, a.hh.trans b.hh, fun x h => (b.fr x (same_none a.hh h)).trans (a.fr x h)⟩
theorem Nx.new {G H : Hp} {p : Addr} {o : HO} (h : Same G H) (hp : H p = none) : Nx G H (upd G p o) (upd H p o) := by
  have gp : G p = none := h.free hp
  refine ⟨fun b u e => ?_, fun b u e => ?_, fun b u e => ?_, fun b hb => ?_⟩
  · rw [upd_ne (ne_of_none e gp)]; exact e
  · by_cases hb : b = p
    · subst hb; rw [upd_same] at e ⊢; exact e
    · rw [upd_ne hb] at e ⊢; exact h b u e
  · rw [upd_ne (ne_of_none e hp)]; exact e
  · by_cases hq : b = p
    · subst hq; exact absurd hp hb
    · rw [upd_ne hq]
/-- a new object that is not told to the view -/
theorem Nx.lay {G H : Hp} {p : Addr} {o : HO} (h : Same G H) (hp : H p = none) : Nx G H G (upd H p o) :=
  ⟨Same.refl G, fun b u e => by rw [upd_ne (ne_of_none (h b u e) hp)]; exact h b u e, fun b u e => by rw [upd_ne (ne_of_none e hp)]; exact e, fun _ _ => rfl⟩
theorem same_tup {K : PySem.W.Frag} {H H' : Hp} {a : Addr} {xs : List V} (e : Same H H') (h : SqT K H a xs) : SqT K H' a xs := by
  rcases h with (h | ⟨o, h⟩) | h
  · exact .inl (.inl (e _ _ h))
  · exact .inl (.inr ⟨o, e _ _ h⟩)
  · exact .inr h

/-! ### data in a view -/
mutual
theorem dp_mono {K : PySem.W.Frag} {H H' : Hp} (e : Same H H') : ∀ (d : PyData) {v : V}, Dp K H v d → Dp K H' v d
  | .none, _, .non => .non
  | .bool b, _, .bl _ => .bl b
  | .int i, _, .int _ => .int i
  | .str x, _, .str _ => .str x
  | .list ds, _, .lst hs ha => .lst (e.seq hs) (dpa_mono e ds ha)
  | .tuple ds, _, .tup hs ha => .tup (same_tup e hs) (dpa_mono e ds ha)
theorem dpa_mono {K : PySem.W.Frag} {H H' : Hp} (e : Same H H') : ∀ (ds : List PyData) {vs : List V}, DpAll K H vs ds → DpAll K H' vs ds
  | [], _, .nil => .nil
  | d :: ds, _, .cons h t => .cons (dp_mono e d h) (dpa_mono e ds t)
end
theorem dpa_length {K : PySem.W.Frag} {H : Hp} : ∀ {vs : List V} {ds : List PyData}, DpAll K H vs ds → vs.length = ds.length
  | _, _, .nil => rfl
  | _, _, .cons _ t => by rw [List.length_cons, List.length_cons, dpa_length t]
theorem dpa_get {K : PySem.W.Frag} {H : Hp} : ∀ {vs : List V} {ds : List PyData} {i : Nat} {v : V}, DpAll K H vs ds → vs[i]? = some v → ∃ d, ds[i]? = some d ∧ Dp K H v d
  | _, _, _, _, .nil, e => by simp at e
  | _, _, 0, _, .cons r _, e => by simp at e; subst e; exact ⟨_, rfl, r⟩
  | _, _, i + 1, _, .cons _ t, e => by
    obtain ⟨u, h1, h2⟩ := dpa_get (i := i) t (by simpa using e)
    exact ⟨u, by simpa using h1, h2⟩
theorem dpa_at {K : PySem.W.Frag} {H : Hp} : ∀ {vs : List V} {ds : List PyData} {i : Nat} {d : PyData}, DpAll K H vs ds → ds[i]? = some d → ∃ v, vs[i]? = some v ∧ Dp K H v d
  | _, _, _, _, .nil, e => by simp at e
  | _, _, 0, _, .cons r _, e => by simp at e; subst e; exact ⟨_, rfl, r⟩
  | _, _, i + 1, _, .cons _ t, e => by
    obtain ⟨u, h1, h2⟩ := dpa_at (i := i) t (by simpa using e)
    exact ⟨u, by simpa using h1, h2⟩
theorem dpa_append {K : PySem.W.Frag} {H : Hp} : ∀ {vs ws : List V} {ds es : List PyData}, DpAll K H vs ds → DpAll K H ws es → DpAll K H (vs ++ ws) (ds ++ es)
  | _, _, _, _, .nil, h => h
  | _, _, _, _, .cons r t, h => .cons r (dpa_append t h)
theorem dpa_take {K : PySem.W.Frag} {H : Hp} : ∀ {vs : List V} {ds : List PyData} (n : Nat), DpAll K H vs ds → DpAll K H (vs.take n) (ds.take n)
  | _, _, 0, _ => .nil
  | _, _, _ + 1, .nil => .nil
  | _, _, n + 1, .cons r t => .cons r (dpa_take n t)
theorem dpa_drop {K : PySem.W.Frag} {H : Hp} : ∀ {vs : List V} {ds : List PyData} (n : Nat), DpAll K H vs ds → DpAll K H (vs.drop n) (ds.drop n)
  | _, _, 0, r => r
  | _, _, _ + 1, .nil => .nil
  | _, _, n + 1, .cons _ t => dpa_drop n t
theorem dpa_reverse {K : PySem.W.Frag} {H : Hp} : ∀ {vs : List V} {ds : List PyData}, DpAll K H vs ds → DpAll K H vs.reverse ds.reverse
  | _, _, .nil => .nil
  | _, _, .cons r t => by rw [List.reverse_cons, List.reverse_cons]; exact dpa_append (dpa_reverse t) (.cons r .nil)
theorem dpa_ints {K : PySem.W.Frag} {H : Hp} : ∀ ns : List Int, DpAll K H (ns.map V.int) (ns.map PyData.int)
  | [] => .nil
  | n :: ns => .cons (.int n) (dpa_ints ns)
theorem dp_int {K : PySem.W.Frag} {H : Hp} {v : V} {i : Int} (h : Dp K H v (.int i)) : v = .int i := by cases h; rfl
theorem dp_bl {K : PySem.W.Frag} {H : Hp} {v : V} {i : Bool} (h : Dp K H v (.bool i)) : v = .bl i := by cases h; rfl
theorem dp_non {K : PySem.W.Frag} {H : Hp} {v : V} (h : Dp K H v .none) : v = .non := by cases h; rfl
theorem dp_str {K : PySem.W.Frag} {H : Hp} {v : V} {i : Str} (h : Dp K H v (.str i)) : v = .str i := by cases h; rfl
theorem dpa_ints_inv {K : PySem.W.Frag} {H : Hp} : ∀ {vs : List V} {ns : List Int}, DpAll K H vs (ns.map PyData.int) → vs = ns.map V.int
  | [], [], _ => rfl
  | [], _ :: _, h => nomatch h
  | _ :: _, [], h => nomatch h
  | v :: vs, n :: ns, .cons h t => by rw [dp_int h, dpa_ints_inv t]; rfl
theorem dp_ints_l {K : PySem.W.Frag} {H : Hp} {v : V} {ns : List Int} (h : Dp K H v (.list (ns.map .int))) : ∃ a, v = .ref a ∧ SqL K H a (ns.map V.int) := by
  cases h with
  | lst hs ha => rw [dpa_ints_inv ha] at hs; exact ⟨_, rfl, hs⟩
theorem dp_ints_t {K : PySem.W.Frag} {H : Hp} {v : V} {ns : List Int} (h : Dp K H v (.tuple (ns.map .int))) : ∃ a, v = .ref a ∧ SqT K H a (ns.map V.int) := by
  cases h with
  | tup hs ha => rw [dpa_ints_inv ha] at hs; exact ⟨_, rfl, hs⟩

/-! ### what an expression evaluates to, whatever else stands in the heap -/
def EvD (K : PySem.W.Frag) (te : TE) (σ : L2.St) (G : Hp) (d : PyData) : Prop := ∀ H, Same G H → ∀ Q : VK, (∀ v G' H', Nx G H G' H' → Dp K G' v d → Q v H') → te σ H Q
def EvA (K : PySem.W.Frag) (ta : TA) (σ : L2.St) (G : Hp) (ds : List PyData) : Prop := ∀ H, Same G H → ∀ Q : List V → Hp → Prop, (∀ vs G' H', Nx G H G' H' → DpAll K G' vs ds → Q vs H') → ta σ H Q
def EvB (K : PySem.W.Frag) (tt : TT) (σ : L2.St) (G : Hp) (b : Bool) : Prop := ∀ H, Same G H → ∀ Q : Bool → Hp → Prop, (∀ G' H', Nx G H G' H' → Q b H') → tt σ H Q
def RtD (K : PySem.W.Frag) (ts : TS) (σ : L2.St) (G : Hp) (d : PyData) : Prop := ∀ H, Same G H → ∀ D : Ends, (∀ v G' H', Nx G H G' H' → Dp K G' v d → D.rt v H') → ts D σ H
/-- a greater view over the same heap -/
theorem Nx.over {G G1 H G' H' : Hp} (g : Same G G1) (h : Same G1 H) (n : Nx G H G' H') : ∃ G2, Nx G1 H G2 H' ∧ Same G' G2 := by
  refine ⟨fun a => match H a with | none => G' a | some _ => G1 a, ⟨fun a o e => ?_, fun a o e => ?_, n.hh, fun a e => ?_⟩, fun a o e => ?_⟩
  · have : H a = some o := h a o e
    simp only [this]; exact e
  · cases q : H a with
    | none => simp only [q] at e; exact n.gh a o e
    | some u =>
      simp only [q] at e
      exact n.hh a o (h a o e)
  · cases q : H a with
    | none => exact absurd q e
    | some u => rfl
  · cases q : H a with
    | none => simp only [q]; exact e
    | some u =>
      simp only [q]
      rw [n.fr a (ne_none q)] at e
      exact g a o e
section
variable {K : PySem.W.Frag} {σ : L2.St} {G G1 : Hp} {te ta tb : TE} {tt tu : TT} {tA tR : TA} {d e x y z : PyData} {ds es : List PyData} {t u : TS}
theorem EvD.mono (h : EvD K te σ G d) (g : Same G G1) : EvD K te σ G1 d := fun H s Q q => h H (g.trans s) Q fun v G' H' n hd => by
  obtain ⟨G2, n2, s2⟩ := n.over g s
  exact q v G2 H' n2 (dp_mono s2 d hd)
theorem EvA.mono (h : EvA K tA σ G ds) (g : Same G G1) : EvA K tA σ G1 ds := fun H s Q q => h H (g.trans s) Q fun v G' H' n hd => by
  obtain ⟨G2, n2, s2⟩ := n.over g s
  exact q v G2 H' n2 (dpa_mono s2 ds hd)
theorem EvB.mono {b : Bool} (h : EvB K tt σ G b) (g : Same G G1) : EvB K tt σ G1 b := fun H s Q q => h H (g.trans s) Q fun G' H' n => by
  obtain ⟨G2, n2, s2⟩ := n.over g s
  exact q G2 H' n2
theorem RtD.mono (h : RtD K t σ G d) (g : Same G G1) : RtD K t σ G1 d := fun H s D q => h H (g.trans s) D fun v G' H' n hd => by
  obtain ⟨G2, n2, s2⟩ := n.over g s
  exact q v G2 H' n2 (dp_mono s2 d hd)
theorem EvD.cast (h : EvD K te σ G d) (e : d = z) : EvD K te σ G z := e ▸ h
theorem EvB.cast {b c : Bool} (h : EvB K tt σ G b) (e : b = c) : EvB K tt σ G c := e ▸ h
theorem RtD.cast (h : RtD K t σ G d) (e : d = z) : RtD K t σ G z := e ▸ h

theorem ed_var {i : Nat} {v : V} (h : σ[i]? = some (some v)) (hd : Dp K G v d) : EvD K (tVar i) σ G d := fun H s _ q => ⟨v, h, q v G H (Nx.refl s) hd⟩
theorem ed_c {v : V} (hd : Dp K G v d) : EvD K (tC v) σ G d := fun H s _ q => q v G H (Nx.refl s) hd
theorem ed_int {i : Int} : EvD K (tC (.int i)) σ G (.int i) := ed_c (.int i)
theorem ed_bl {i : Bool} : EvD K (tC (.bl i)) σ G (.bool i) := ed_c (.bl i)
theorem ed_str {i : Str} : EvD K (tC (.str i)) σ G (.str i) := ed_c (.str i)
theorem ed_non : EvD K (tC .non) σ G .none := ed_c .non

/-- an operation on two data -/
def ROp (K : PySem.W.Frag) (r : R2) (x y z : PyData) : Prop := ∀ G H, Same G H → ∀ vx vy, Dp K G vx x → Dp K G vy y → ∀ Q : VK, (∀ v G' H', Nx G H G' H' → Dp K G' v z → Q v H') → r vx vy H Q
theorem ed_op {r : R2} (ha : EvD K ta σ G x) (hb : EvD K tb σ G y) (hr : ROp K r x y z) : EvD K (tOp r ta tb) σ G z := fun H s Q q =>
  ha H s _ fun vx G1 H1 n1 hx => (hb.mono n1.gg) H1 n1.gh _ fun vy G2 H2 n2 hy => hr G2 H2 n2.gh vx vy (dp_mono n2.gg x hx) hy Q fun v G3 H3 n3 hd => q v G3 H3 ((n1.trans n2).trans n3) hd
theorem ro_I0 {g : Int → Int → V} {i j : Int} (hz : ∀ G, Dp K G (g i j) z) : ROp K (rI0 g) (.int i) (.int j) z := fun G H s vx vy hx hy Q q => by
  rw [dp_int hx, dp_int hy]
  exact ⟨i, j, rfl, rfl, q _ G H (Nx.refl s) (hz G)⟩
theorem ro_I {C : Int → Int → Prop} {g : Int → Int → V} {i j : Int} (hc : C i j) (hz : ∀ G, Dp K G (g i j) z) : ROp K (rI C g) (.int i) (.int j) z := fun G H s vx vy hx hy Q q => by
  rw [dp_int hx, dp_int hy]
  exact ⟨i, j, rfl, rfl, hc, q _ G H (Nx.refl s) (hz G)⟩
theorem ro_i {f : Int → Int → Int} {i j : Int} : ROp K (rI0 fun i j => .int (f i j)) (.int i) (.int j) (.int (f i j)) := ro_I0 fun _ => .int _
theorem ro_b {f : Int → Int → Bool} {i j : Int} : ROp K (rI0 fun i j => .bl (f i j)) (.int i) (.int j) (.bool (f i j)) := ro_I0 fun _ => .bl _
theorem ro_ic {C : Int → Int → Prop} {f : Int → Int → Int} {i j : Int} (hc : C i j) : ROp K (rI C fun i j => .int (f i j)) (.int i) (.int j) (.int (f i j)) := ro_I hc fun _ => .int _
theorem ro_eqI {i j : Int} : ROp K rEq (.int i) (.int j) (.bool (decide (i = j))) := fun G H s vx vy hx hy Q q => by
  rw [dp_int hx, dp_int hy]
  refine ⟨rfl, ?_⟩
  have e : decide (V.int i = V.int j) = decide (i = j) := by simp
  rw [e]
  exact q _ G H (Nx.refl s) (.bl _)
theorem ro_neI {i j : Int} : ROp K rNe (.int i) (.int j) (.bool (!decide (i = j))) := fun G H s vx vy hx hy Q q => by
  rw [dp_int hx, dp_int hy]
  refine ⟨rfl, ?_⟩
  have e : decide (V.int i = V.int j) = decide (i = j) := by simp
  rw [e]
  exact q _ G H (Nx.refl s) (.bl _)
theorem ro_eqD (hx : SeqAt.shaped x = true) (hy : SeqAt.shaped y = true) : ROp K (rEqD K) x y (.bool (PyData.eqv x y)) := fun G H s vx vy dx dy Q q =>
  ⟨x, y, dp_mono s x dx, dp_mono s y dy, hx, hy, q _ G H (Nx.refl s) (.bl _)⟩
theorem ro_neD (hx : SeqAt.shaped x = true) (hy : SeqAt.shaped y = true) : ROp K (rNeD K) x y (.bool (!PyData.eqv x y)) := fun G H s vx vy dx dy Q q =>
  ⟨x, y, dp_mono s x dx, dp_mono s y dy, hx, hy, q _ G H (Nx.refl s) (.bl _)⟩
/-- s[i] -/
theorem ro_ixL {i : Int} {k : Nat} (hi : i = (k : Int)) (hk : ds[k]? = some z) : ROp K (rIxL K) (.list ds) (.int i) z := fun G H s vx vy dx dy Q q => by
  cases dx with
  | lst hs ha =>
    obtain ⟨v, h1, h2⟩ := dpa_at ha hk
    rw [dp_int dy]
    exact ⟨_, _, i, v, rfl, rfl, s.seq hs, by rw [hi]; exact atI_nat h1, q v G H (Nx.refl s) h2⟩
theorem ro_ixT {i : Int} {k : Nat} (hi : i = (k : Int)) (hk : ds[k]? = some z) : ROp K (rIxT K) (.tuple ds) (.int i) z := fun G H s vx vy dx dy Q q => by
  cases dx with
  | tup hs ha =>
    obtain ⟨v, h1, h2⟩ := dpa_at ha hk
    rw [dp_int dy]
    exact ⟨_, _, i, v, rfl, rfl, same_tup s hs, by rw [hi]; exact atI_nat h1, q v G H (Nx.refl s) h2⟩
/-- t + u -/
theorem ro_cat (hz : ds.length + es.length ≤ sizeLine) : ROp K (rCatA K) (.tuple ds) (.tuple es) (.tuple (ds ++ es)) := fun G H s vx vy dx dy Q q => by
  cases dx with
  | @tup a xs _ hs ha =>
    cases dy with
    | @tup b ys _ hs' hb =>
      have l1 := dpa_length ha
      have l2 := dpa_length hb
      refine ⟨a, b, xs, ys, rfl, rfl, same_tup s hs, same_tup s hs', by omega, fun e => ?_, fun _ e => ?_, fun _ _ p hp => ?_⟩
      · subst e; cases ha; exact q _ G H (Nx.refl s) (.tup hs' hb)
      · subst e; cases hb; rw [List.append_nil] at q; exact q _ G H (Nx.refl s) (.tup hs ha)
      · have n := Nx.new (o := .tup (xs ++ ys)) s hp
        exact q _ _ _ n (.tup (SqT.of upd_same) (dpa_append (dpa_mono n.gg _ ha) (dpa_mono n.gg _ hb)))

/-! ### arguments, displays -/
theorem ea_nil : EvA K tNil σ G [] := fun H s _ q => q [] G H (Nx.refl s) .nil
theorem ea_cons (h : EvD K te σ G d) (hr : EvA K tR σ G ds) : EvA K (tCons te tR) σ G (d :: ds) := fun H s Q q =>
  h H s _ fun v G1 H1 n1 hv => (hr.mono n1.gg) H1 n1.gh _ fun vs G2 H2 n2 hvs => q (v :: vs) G2 H2 (n1.trans n2) (.cons (dp_mono n2.gg d hv) hvs)
theorem ed_tup (h : EvA K tA σ G ds) (hz : ds.length ≤ sizeLine) : EvD K (tTup tA) σ G (.tuple ds) := fun H s Q q =>
  h H s _ fun vs G1 H1 n1 hv => ⟨by rw [dpa_length hv]; exact hz, fun p hp => by
    have n := Nx.new (o := .tup vs) n1.gh hp
    exact q _ _ _ (n1.trans n) (.tup (SqT.of upd_same) (dpa_mono n.gg _ hv))⟩
theorem ed_lst (h : EvA K tA σ G ds) (hz : ds.length ≤ sizeLine) : EvD K (tLst tA) σ G (.list ds) := fun H s Q q =>
  h H s _ fun vs G1 H1 n1 hv => ⟨by rw [dpa_length hv]; exact hz, fun p hp => by
    have n := Nx.new (o := .lst vs) n1.gh hp
    exact q _ _ _ (n1.trans n) (.lst (SqL.of upd_same) (dpa_mono n.gg _ hv))⟩

/-! ### calls of built-ins and of defs -/
def RCl (K : PySem.W.Frag) (r : List V → Hp → VK → Prop) (ds : List PyData) (z : PyData) : Prop := ∀ G H, Same G H → ∀ vs, DpAll K G vs ds → ∀ Q : VK, (∀ v G' H', Nx G H G' H' → Dp K G' v z → Q v H') → r vs H Q
theorem ed_cb {r : List V → Hp → VK → Prop} (ha : EvA K tA σ G ds) (hr : RCl K r ds z) : EvD K (tCB r tA) σ G z := fun H s Q q =>
  ha H s _ fun vs G1 H1 n1 hv => hr G1 H1 n1.gh vs hv Q fun v G2 H2 n2 hd => q v G2 H2 (n1.trans n2) hd
/-- a def's promise by data: R says of which arguments it hands back what -/
def SpD (K : PySem.W.Frag) (R : List PyData → PyData → Prop) : Sp := fun vs H Q _ => ∃ G ds d, Same G H ∧ DpAll K G vs ds ∧ R ds d ∧ ∀ v G' H', Nx G H G' H' → Dp K G' v d → Q v H'
theorem ed_call {R : List PyData → PyData → Prop} {E : XK} (ha : EvA K tA σ G ds) (hr : R ds z) : EvD K (tCall (SpD K R) [] E tA) σ G z := fun H s Q q =>
  ha H s _ fun vs G1 H1 n1 hv => ⟨G1, ds, z, n1.gh, by rw [List.append_nil]; exact hv, hr, fun v G2 H2 n2 hd => q v G2 H2 (n1.trans n2) hd⟩
/-- by keywords: the values in the order of the call, put in that of the parameters -/
theorem ed_callK {R : List PyData → PyData → Prop} {E : XK} {tk : TA} {gV : List V → List V → List V} {gd : List PyData} (ha : EvA K tA σ G ds) (hk : EvA K tk σ G es)
    (hg : ∀ G' vs zs, DpAll K G' vs ds → DpAll K G' zs es → DpAll K G' (gV vs zs) gd) (hr : R gd z) : EvD K (tCallK (SpD K R) gV E tA tk) σ G z := fun H s Q q =>
  ha H s _ fun vs G1 H1 n1 hv => (hk.mono n1.gg) H1 n1.gh _ fun zs G2 H2 n2 hz => ⟨G2, gd, z, n2.gh, hg G2 vs zs (dpa_mono n2.gg _ hv) hz, hr, fun v G3 H3 n3 hd => q v G3 H3 ((n1.trans n2).trans n3) hd⟩

/-! ### tests -/
theorem eb_test {b : Bool} (h : EvD K te σ G (.bool b)) : EvB K (tTest te) σ G b := fun H s Q q => h H s _ fun v G1 H1 n1 hv => ⟨b, dp_bl hv, q G1 H1 n1⟩
theorem eb_B {b : Bool} (h : EvD K te σ G (.bool b)) : EvB K (tB te) σ G b := fun H s Q q => h H s _ fun v G1 H1 n1 hv => ⟨b, dp_bl hv, q G1 H1 n1⟩
theorem eb_not {b : Bool} (h : EvB K tt σ G b) : EvB K (tNot tt) σ G (!b) := fun H s Q q => h H s _ fun G1 H1 n1 => q G1 H1 n1
theorem eb_and {a b : Bool} (h1 : EvB K tt σ G a) (h2 : a = true → EvB K tu σ G b) : EvB K (tAnd tt tu) σ G (a && b) := fun H s Q q => h1 H s _ fun G1 H1 n1 => by
  cases a with
  | true => exact (show tu σ H1 Q from ((h2 rfl).mono n1.gg) H1 n1.gh Q fun G2 H2 n2 => q G2 H2 (n1.trans n2))
  | false => exact (show Q false H1 from q G1 H1 n1)
theorem eb_or {a b : Bool} (h1 : EvB K tt σ G a) (h2 : a = false → EvB K tu σ G b) : EvB K (tOr tt tu) σ G (a || b) := fun H s Q q => h1 H s _ fun G1 H1 n1 => by
  cases a with
  | true => exact (show Q true H1 from q G1 H1 n1)
  | false => exact (show tu σ H1 Q from ((h2 rfl).mono n1.gg) H1 n1.gh Q fun G2 H2 n2 => q G2 H2 (n1.trans n2))
theorem ed_and {a b : Bool} (h1 : EvD K ta σ G (.bool a)) (h2 : a = true → EvD K tb σ G (.bool b)) : EvD K (tAndV ta tb) σ G (.bool (a && b)) := fun H s Q q => h1 H s _ fun v G1 H1 n1 hv => ⟨a, dp_bl hv, by
  cases a with
  | true => exact (show tb σ H1 Q from ((h2 rfl).mono n1.gg) H1 n1.gh Q fun v2 G2 H2 n2 hd => q v2 G2 H2 (n1.trans n2) hd)
  | false => exact (show Q (.bl false) H1 from q _ G1 H1 n1 (.bl _))⟩
theorem ed_or {a b : Bool} (h1 : EvD K ta σ G (.bool a)) (h2 : a = false → EvD K tb σ G (.bool b)) : EvD K (tOrV ta tb) σ G (.bool (a || b)) := fun H s Q q => h1 H s _ fun v G1 H1 n1 hv => ⟨a, dp_bl hv, by
  cases a with
  | true => exact (show Q (.bl true) H1 from q _ G1 H1 n1 (.bl _))
  | false => exact (show tb σ H1 Q from ((h2 rfl).mono n1.gg) H1 n1.gh Q fun v2 G2 H2 n2 hd => q v2 G2 H2 (n1.trans n2) hd)⟩
theorem ed_not {a : Bool} (h1 : EvD K ta σ G (.bool a)) : EvD K (tNotV ta) σ G (.bool (!a)) := fun H s Q q => h1 H s _ fun v G1 H1 n1 hv => ⟨a, dp_bl hv, q _ G1 H1 n1 (.bl _)⟩
theorem ed_if {b : Bool} (h : EvB K tt σ G b) (h1 : b = true → EvD K ta σ G d) (h2 : b = false → EvD K tb σ G d) : EvD K (tIf tt ta tb) σ G d := fun H s Q q => h H s _ fun G1 H1 n1 => by
  cases b with
  | true => exact (show ta σ H1 Q from ((h1 rfl).mono n1.gg) H1 n1.gh Q fun v2 G2 H2 n2 hd => q v2 G2 H2 (n1.trans n2) hd)
  | false => exact (show tb σ H1 Q from ((h2 rfl).mono n1.gg) H1 n1.gh Q fun v2 G2 H2 n2 hd => q v2 G2 H2 (n1.trans n2) hd)
/-- a < b < c, of ints -/
theorem ed_chain {r r' : R2} {tc : TE} {b c : Bool} (ha : EvD K ta σ G x) (hb : EvD K tb σ G y) (hr : ROp K r x y (.bool b)) (hc : b = true → EvD K tc σ G z) (hr' : b = true → ROp K r' y z (.bool c)) : EvD K (tChain r r' ta tb tc) σ G (.bool (b && c)) := fun H s Q q =>
  ha H s _ fun vx G1 H1 n1 hx => (hb.mono n1.gg) H1 n1.gh _ fun vy G2 H2 n2 hy => hr G2 H2 n2.gh vx vy (dp_mono n2.gg x hx) hy _ fun v G3 H3 n3 hd => ⟨b, dp_bl hd, by
    have n13 := (n1.trans n2).trans n3
    cases b with
    | true => exact (show tc σ H3 _ from ((hc rfl).mono n13.gg) H3 n13.gh _ fun vz G4 H4 n4 hz => (hr' rfl) G4 H4 n4.gh vy vz (dp_mono (n3.gg.trans n4.gg) y hy) hz Q fun v5 G5 H5 n5 hd5 => q v5 G5 H5 ((n13.trans n4).trans n5) hd5)
    | false => exact (show Q (.bl false) H3 from q _ G3 H3 n13 (.bl _))⟩

/-! ### statements that hand back -/
theorem rd_ret (h : EvD K te σ G d) : RtD K (tRet te) σ G d := fun H s D q => h H s _ fun v G1 H1 n hd => q v G1 H1 n hd
theorem rd_if {b : Bool} (h : EvB K tt σ G b) (h1 : b = true → RtD K t σ G d) (h2 : b = false → RtD K u σ G d) : RtD K (tIfS tt t u) σ G d := fun H s D q => h H s _ fun G1 H1 n1 => by
  cases b with
  | true => exact (show t D σ H1 from ((h1 rfl).mono n1.gg) H1 n1.gh D fun v2 G2 H2 n2 hd => q v2 G2 H2 (n1.trans n2) hd)
  | false => exact (show u D σ H1 from ((h2 rfl).mono n1.gg) H1 n1.gh D fun v2 G2 H2 n2 hd => q v2 G2 H2 (n1.trans n2) hd)
theorem rd_seqIf {b : Bool} (h : EvB K tt σ G b) (h1 : b = true → RtD K t σ G d) (h2 : b = false → RtD K u σ G d) : RtD K (tSeq (tIfS tt t tNext) u) σ G d := fun H s D q => h H s _ fun G1 H1 n1 => by
  cases b with
  | true => exact (show t { D with nx := u D } σ H1 from ((h1 rfl).mono n1.gg) H1 n1.gh { D with nx := u D } fun v2 G2 H2 n2 hd => q v2 G2 H2 (n1.trans n2) hd)
  | false => exact (show u D σ H1 from ((h2 rfl).mono n1.gg) H1 n1.gh D fun v2 G2 H2 n2 hd => q v2 G2 H2 (n1.trans n2) hd)
theorem rd_set {i : Nat} (h : EvD K te σ G e) (h1 : ∀ v G', Same G G' → Dp K G' v e → RtD K u (σ.set i (some v)) G' d) : RtD K (tSeq (tAsg te (gName i)) u) σ G d := fun H s D q => h H s _ fun v G1 H1 n1 hv =>
  h1 v G1 n1.gg hv H1 n1.gh D fun v2 G2 H2 n2 hd => q v2 G2 H2 (n1.trans n2) hd
theorem rd_drop (h : EvD K te σ G e) (h1 : RtD K u σ G d) : RtD K (tSeq (tDrop te) u) σ G d := fun H s D q => h H s _ fun v G1 H1 n1 hv =>
  (h1.mono n1.gg) H1 n1.gh D fun v2 G2 H2 n2 hd => q v2 G2 H2 (n1.trans n2) hd
/-- nothing behind the last statement: None -/
theorem rd_never (h : False) : RtD K t σ G d := h.elim
end
/-- a def whose body hands back by data -/
theorem okD {P : Program} {w : World} {K : PySem.W.Frag} {mg : Str → Option Value} {base : Heap} {x qual : Str} {st : Stmt} {f : Addr} {fd : FuncData} {N ps : List Str} {k : Nat} {R : List PyData → PyData → Prop}
    (F : Fun K x qual st f fd) (S : FnScope N ps (defScope st)) (len : ∀ ds d, R ds d → ds.length = ps.length)
    (hbody : ∀ (cdv : Value) (A : Around) (outer : List Env) (s : Shared) (H : Hp), Room k (A.deeper (envOfC qual (defScope st) s.heap.objs.size f cdv)) →
      ∃ t, PSs (cxOf CX0 P w K mg base N qual (defScope st) f cdv A outer s H E0).nox (defBody st) t ∧ ∀ G ds d vs, R ds d → DpAll K G vs ds → ∀ H, Same G H → ∀ D : Ends, (∀ v G' H', Nx G H G' H' → Dp K G' v d → D.rt v H') → (∀ σ G' H', Nx G H G' H' → d = .none → D.nx σ H') → t D (start N vs) H) : FnOk P w K mg base CX0 (k + 1) f fd ps (SpD K R) := by
  refine F.ok S (fun vs H Q E h => ?_) (fun cdv A outer s H vs Q E hr h => ?_)
  · obtain ⟨G, ds, d, _, ha, hr, _⟩ := h
    rw [dpa_length ha]; exact len ds d hr
  · obtain ⟨G, ds, d, hs, ha, hR, q⟩ := h
    obtain ⟨t, ht, hq⟩ := hbody cdv A outer s H hr
    exact ⟨t, ht, hq G ds d vs hR ha H hs _ (fun v G' H' n hd => q v G' H' n hd) (fun _ G' H' n e => q .non G' H' n (by rw [e]; exact .non))⟩
end Gw
namespace Gw
open PySem PySem.Spec PyProof.Rows L2

/-! ### kinds -/
def tyOf : PyData → String
  | .none => "NoneType" | .bool _ => "bool" | .int _ => "int" | .str _ => "str" | .list _ => "list" | .tuple _ => "tuple" | .dict _ => "dict"
theorem dp_ty {K : PySem.W.Frag} {G H : Hp} (s : Same G H) : ∀ {d : PyData} {v : V}, Dp K G v d → TyX K H v (.type (tyOf d))
  | _, _, .non => .base .non
  | _, _, .bl b => .base (.bl b)
  | _, _, .int i => .base (.int i)
  | _, _, .str x => .base (.str x)
  | _, _, .lst hs _ => by
    rcases hs with (h | ⟨o, h⟩) | ⟨o, its, n, h, c, _⟩
    · exact .base (.lst (s _ _ h))
    · exact .base (.frz (s _ _ h))
    · exact .kList h c
  | _, _, .tup hs _ => by
    rcases hs with (h | ⟨o, h⟩) | ⟨o, its, n, h, c, _⟩
    · exact .base (.tup (s _ _ h))
    · exact .fTuple (s _ _ h)
    · exact .kTuple h c
section
variable {K : PySem.W.Frag} {σ : L2.St} {G G1 : Hp} {te ta tb tl : TE} {tt tu : TT} {tA tR : TA} {d e x y z : PyData} {ds es : List PyData} {t u : TS}
theorem ed_isi {n : String} {b : Bool} (h : EvD K te σ G d) (hk : kitB (tyOf d) n = some b) : EvD K (tCB (rIsi K) (tCons te (tCons (tC (.ty n)) tNil))) σ G (.bool b) := fun H s Q q =>
  h H s _ fun v G1 H1 n1 hv => ⟨v, .ty n, .type (tyOf d), .type n, b, rfl, .ty n, dp_ty n1.gh hv, kit_ty hk, q _ G1 H1 n1 (.bl b)⟩
theorem rcl_len {K : PySem.W.Frag} {ds : List PyData} : RCl K (fun xs H Q => ∃ p ys, xs = [.ref p] ∧ (SqL K H p ys ∨ SqT K H p ys) ∧ Q (.int ys.length) H) [.tuple ds] (.int ds.length) := fun G H s vs hv Q q => by
  cases hv with
  | cons h t =>
    cases t
    cases h with
    | tup hs ha =>
      refine ⟨_, _, rfl, .inr (same_tup s hs), ?_⟩
      rw [dpa_length ha]
      exact q _ G H (Nx.refl s) (.int _)
theorem rcl_lenL {K : PySem.W.Frag} {ds : List PyData} : RCl K (fun xs H Q => ∃ p ys, xs = [.ref p] ∧ (SqL K H p ys ∨ SqT K H p ys) ∧ Q (.int ys.length) H) [.list ds] (.int ds.length) := fun G H s vs hv Q q => by
  cases hv with
  | cons h t =>
    cases t
    cases h with
    | lst hs ha =>
      refine ⟨_, _, rfl, .inl (s.seq hs), ?_⟩
      rw [dpa_length ha]
      exact q _ G H (Nx.refl s) (.int _)
theorem dpa_bools {K : PySem.W.Frag} {H : Hp} : ∀ {vs : List V} {bs : List Bool}, DpAll K H vs (bs.map PyData.bool) → vs = bs.map V.bl
  | [], [], _ => rfl
  | [], _ :: _, h => nomatch h
  | _ :: _, [], h => nomatch h
  | v :: vs, n :: ns, .cons h t => by rw [dp_bl h, dpa_bools t]; rfl
theorem rcl_all {bs : List Bool} : RCl K (rAll K) [.list (bs.map .bool)] (.bool (bs.all id)) := fun G H s vs hv Q q => by
  cases hv with
  | cons h t =>
    cases t
    cases h with
    | lst hs ha =>
      rw [dpa_bools ha] at hs
      exact ⟨_, bs, rfl, s.seq hs, q _ G H (Nx.refl s) (.bl _)⟩
theorem rcl_tupleL : RCl K (fun xs H Q => ∃ p ys, xs = [.ref p] ∧ ((SqL K H p ys ∧ ∀ l, H l = none → Q (.ref l) (upd H l (.tup ys))) ∨ (SqT K H p ys ∧ Q (.ref p) H))) [.list ds] (.tuple ds) := fun G H s vs hv Q q => by
  cases hv with
  | cons h t =>
    cases t
    cases h with
    | @lst a xs _ hs ha =>
      refine ⟨_, _, rfl, .inl ⟨s.seq hs, fun l hl => ?_⟩⟩
      have n := Nx.new (o := .tup xs) s hl
      exact q _ _ _ n (.tup (SqT.of upd_same) (dpa_mono n.gg _ ha))
theorem rcl_listL : RCl K (fun xs H Q => ∃ p ys, xs = [.ref p] ∧ (SqL K H p ys ∨ SqT K H p ys) ∧ ∀ l, H l = none → Q (.ref l) (upd H l (.lst ys))) [.list ds] (.list ds) := fun G H s vs hv Q q => by
  cases hv with
  | cons h t =>
    cases t
    cases h with
    | @lst a xs _ hs ha =>
      refine ⟨_, _, rfl, .inl (s.seq hs), fun l hl => ?_⟩
      have n := Nx.new (o := .lst xs) s hl
      exact q _ _ _ n (.lst (SqL.of upd_same) (dpa_mono n.gg _ ha))

/-! ### slices -/
def EvO (K : PySem.W.Frag) (to : TO) (σ : L2.St) (G : Hp) (o : Option Int) : Prop := ∀ H, Same G H → ∀ Q : Option Int → Hp → Prop, (∀ G' H', Nx G H G' H' → Q o H') → to σ H Q
theorem eo_none : EvO K tNoPart σ G none := fun H s _ q => q G H (Nx.refl s)
theorem eo_some {i : Int} (h : EvD K te σ G (.int i)) : EvO K (tPart te) σ G (some i) := fun H s _ q => h H s _ fun v G1 H1 n hv => ⟨i, dp_int hv, q G1 H1 n⟩
theorem EvO.mono {to : TO} {o : Option Int} (h : EvO K to σ G o) (g : Same G G1) : EvO K to σ G1 o := fun H s Q q => h H (g.trans s) Q fun G' H' n => by
  obtain ⟨G2, n2, s2⟩ := n.over g s
  exact q G2 H' n2
def cutD (xs : List PyData) (lo hi : Option Int) : List PyData := (xs.drop (HT.sIx xs.length 0 lo)).take (HT.sIx xs.length xs.length hi - HT.sIx xs.length 0 lo)
theorem dpa_cut {H : Hp} {vs : List V} (lo hi : Option Int) (h : DpAll K H vs ds) : DpAll K H (cutV vs lo hi) (cutD ds lo hi) := by
  unfold cutV cutD
  rw [dpa_length h]
  exact dpa_take _ (dpa_drop _ h)
theorem cutD_whole {lo hi : Option Int} (h : HT.sIx ds.length 0 lo = 0 ∧ HT.sIx ds.length ds.length hi = ds.length) : cutD ds lo hi = ds := by
  unfold cutD
  rw [h.1, h.2, List.drop_zero, Nat.sub_zero, List.take_length]
theorem cutD_to {k : Nat} : cutD ds none (some (k : Int)) = ds.take k := by
  unfold cutD
  rw [HT.sIx_none, HT.sIx_nat, List.drop_zero, Nat.sub_zero]
  by_cases h : k ≤ ds.length
  · rw [Nat.min_eq_left h]
  · rw [Nat.min_eq_right (by omega), List.take_length, List.take_of_length_le (by omega)]
theorem cutD_from {k : Nat} : cutD ds (some (k : Int)) none = ds.drop k := by
  unfold cutD
  rw [HT.sIx_none, HT.sIx_nat]
  by_cases h : k ≤ ds.length
  · rw [Nat.min_eq_left h, List.take_of_length_le (by rw [List.length_drop]; omega)]
  · rw [Nat.min_eq_right (by omega), Nat.sub_self, List.take_zero, List.drop_eq_nil_of_le (by omega)]
theorem cutD_mid {k j : Nat} (hkj : k ≤ j) (hj : j ≤ ds.length) : cutD ds (some (k : Int)) (some (j : Int)) = (ds.take j).drop k := by
  unfold cutD
  have hk : min k ds.length = k := Nat.min_eq_left (by omega)
  have hj' : min j ds.length = j := Nat.min_eq_left hj
  rw [HT.sIx_nat, HT.sIx_nat, hk, hj', List.drop_take]
theorem ed_slT {tl th : TO} {lo hi : Option Int} (h : EvD K te σ G (.tuple ds)) (h1 : EvO K tl σ G lo) (h2 : EvO K th σ G hi) : EvD K (tSl (rSlA K) te tl th) σ G (.tuple (cutD ds lo hi)) := fun H s Q q =>
  h H s _ fun v G1 H1 n1 hv => (h1.mono n1.gg) H1 n1.gh _ fun G2 H2 n2 => (h2.mono (n1.gg.trans n2.gg)) H2 n2.gh _ fun G3 H3 n3 => by
    have n := (n1.trans n2).trans n3
    cases hv with
    | @tup a xs _ hs ha =>
      have g3 := n2.gg.trans n3.gg
      refine ⟨_, _, rfl, same_tup (g3.trans n3.gh) hs, fun hw => ?_, fun _ p hp => ?_⟩
      · rw [dpa_length ha] at hw
        rw [cutD_whole hw] at q
        exact q _ G3 H3 n (.tup (same_tup g3 hs) (dpa_mono g3 _ ha))
      · have m := Nx.new (o := .tup (cutV xs lo hi)) n3.gh hp
        exact q _ _ _ (n.trans m) (.tup (SqT.of upd_same) (dpa_mono (g3.trans m.gg) _ (dpa_cut lo hi ha)))
theorem ed_slL {tl th : TO} {lo hi : Option Int} (h : EvD K te σ G (.list ds)) (h1 : EvO K tl σ G lo) (h2 : EvO K th σ G hi) : EvD K (tSl (rSlL K) te tl th) σ G (.list (cutD ds lo hi)) := fun H s Q q =>
  h H s _ fun v G1 H1 n1 hv => (h1.mono n1.gg) H1 n1.gh _ fun G2 H2 n2 => (h2.mono (n1.gg.trans n2.gg)) H2 n2.gh _ fun G3 H3 n3 => by
    have n := (n1.trans n2).trans n3
    cases hv with
    | @lst a xs _ hs ha =>
      have g3 := n2.gg.trans n3.gg
      refine ⟨_, _, rfl, (g3.trans n3.gh).seq hs, fun p hp => ?_⟩
      have m := Nx.new (o := .lst (cutV xs lo hi)) n3.gh hp
      exact q _ _ _ (n.trans m) (.lst (SqL.of upd_same) (dpa_mono (g3.trans m.gg) _ (dpa_cut lo hi ha)))

/-! ### comprehensions: the list stands at D, apart from the view -/
structure LcI (K : PySem.W.Frag) (G1 H1 : Hp) (D : Addr) (ds : List PyData) (Hc : Hp) : Prop where
  ex : ∃ Gi acc, Nx G1 H1 Gi Hc ∧ Gi D = none ∧ Hc D = some (.lst acc) ∧ DpAll K Gi acc ds
theorem LcI.start {H1 : Hp} {D : Addr} (s : Same G1 H1) (hD : H1 D = none) : LcI K G1 H1 D [] (upd H1 D (.lst [])) :=
  ⟨G1, [], Nx.lay s hD, s.free hD, upd_same, .nil⟩
theorem LcI.fin {H1 Hc : Hp} {D : Addr} (hD : H1 D = none) (h : LcI K G1 H1 D ds Hc) : ∃ G', Nx G1 H1 G' Hc ∧ Dp K G' (.ref D) (.list ds) := by
  obtain ⟨Gi, acc, n, g, e, ha⟩ := h.ex
  have gi : Same Gi (upd Gi D (.lst acc)) := fun b u q => by rw [upd_ne (ne_of_none q g)]; exact q
  refine ⟨upd Gi D (.lst acc), ⟨n.gg.trans gi, fun b u q => ?_, n.hh, fun b hb => ?_⟩, .lst (SqL.of upd_same) (dpa_mono gi _ ha)⟩
  · by_cases hq : b = D
    · subst hq; rw [upd_same] at q; rw [e]; exact q
    · rw [upd_ne hq] at q; exact n.gh b u q
  · by_cases hq : b = D
    · subst hq; exact absurd hD hb
    · rw [upd_ne hq]; exact n.fr b hb
/-- a new list, apart from the view -/
def EvN (K : PySem.W.Frag) (te : TE) (σ : L2.St) (G : Hp) (ds : List PyData) : Prop := ∀ H, Same G H → ∀ Q : VK, (∀ p vs G' H', Nx G H G' H' → H p = none → G' p = none → H' p = some (.lst vs) → DpAll K G' vs ds → Q (.ref p) H') → te σ H Q
theorem Nx.tell {H G' H' : Hp} {p : Addr} {o : HO} (n : Nx G H G' H') (hp : H p = none) (gp : G' p = none) (e : H' p = some o) : Nx G H (upd G' p o) H' ∧ Same G' (upd G' p o) := by
  have gi : Same G' (upd G' p o) := fun b u q => by rw [upd_ne (ne_of_none q gp)]; exact q
  refine ⟨⟨n.gg.trans gi, fun b u q => ?_, n.hh, fun b hb => ?_⟩, gi⟩
  · by_cases hq : b = p
    · subst hq; rw [upd_same] at q; rw [e]; exact q
    · rw [upd_ne hq] at q; exact n.gh b u q
  · by_cases hq : b = p
    · subst hq; exact absurd hp hb
    · rw [upd_ne hq]; exact n.fr b hb
theorem EvN.toD (h : EvN K te σ G ds) : EvD K te σ G (.list ds) := fun H s Q q => h H s Q fun p vs G' H' n hp gp e ha => by
  obtain ⟨m, gi⟩ := n.tell hp gp e
  exact q _ _ _ m (.lst (SqL.of upd_same) (dpa_mono gi _ ha))
theorem EvN.mono (h : EvN K te σ G ds) (g : Same G G1) : EvN K te σ G1 ds := fun H s Q q => h H (g.trans s) Q fun p vs G' H' n hp gp e ha => by
  have hG1 : G1 p = none := s.free hp
  refine q p vs (fun a => match H a with | none => G' a | some _ => G1 a) H' ⟨fun a o ea => ?_, fun a o ea => ?_, n.hh, fun a ea => ?_⟩ hp (by simp only [hp]; exact gp) e (dpa_mono (fun a o ea => ?_) _ ha)
  · have := s a o ea
    simp only [this]; exact ea
  · cases q2 : H a with
    | none => simp only [q2] at ea; exact n.gh a o ea
    | some u =>
      simp only [q2] at ea
      exact n.hh a o (s a o ea)
  · cases q2 : H a with
    | none => exact absurd q2 ea
    | some u => rfl
  · cases q2 : H a with
    | none => simp only [q2]; exact ea
    | some u =>
      simp only [q2]
      rw [n.fr a (ne_none q2)] at ea
      exact g a o ea
theorem EvN.cast (h : EvN K te σ G ds) (e : ds = es) : EvN K te σ G es := e ▸ h
theorem en_lst (h : EvA K tA σ G ds) (hz : ds.length ≤ sizeLine) : EvN K (tLst tA) σ G ds := fun H s Q q =>
  h H s _ fun vs G1 H1 n1 hv => ⟨by rw [dpa_length hv]; exact hz, fun p hp => by
    have hp0 : H p = none := n1.hh.free hp
    refine q p vs G1 _ (n1.trans (Nx.lay n1.gh hp)) hp0 (n1.gh.free hp) upd_same hv⟩
theorem LcI.finN {H H1 Hc : Hp} {D : Addr} {Q : VK} (n1 : Nx G H G1 H1) (hD : H1 D = none) (h : LcI K G1 H1 D ds Hc) (q : ∀ p vs G' H', Nx G H G' H' → H p = none → G' p = none → H' p = some (.lst vs) → DpAll K G' vs ds → Q (.ref p) H') : Q (.ref D) Hc := by
  obtain ⟨Gi, acc, n, g, e, ha⟩ := h.ex
  exact q D acc Gi Hc (n1.trans n) (n1.hh.free hD) g e ha
/-- one turn: b the test's answer, then the element -/
theorem LcI.turn {H1 Hc : Hp} {D : Addr} {σ2 : L2.St} {b : Bool} {e : PyData} {Nxt : Hp → Prop} (hD : H1 D = none) (h : LcI K G1 H1 D ds Hc) (hz : ds.length < sizeLine)
    (ht : ∀ Gi, Same G1 Gi → EvB K tt σ2 Gi b) (he : b = true → ∀ Gi, Same G1 Gi → EvD K te σ2 Gi e)
    (hn : ∀ H', LcI K G1 H1 D (if b = true then ds ++ [e] else ds) H' → Nxt H') :
    tt σ2 Hc fun b H3 => if b = true then te σ2 H3 fun y H4 => ∃ acc, H4 D = some (.lst acc) ∧ acc.length < sizeLine ∧ Nxt (upd H4 D (.lst (acc ++ [y]))) else Nxt H3 := by
  obtain ⟨Gi, acc, n, g, e0, ha⟩ := h.ex
  refine ht Gi n.gg Hc n.gh _ fun G3 H3 n3 => ?_
  have hDc : Hc D ≠ none := ne_none e0
  have g3 : G3 D = none := (n3.fr D hDc).trans g
  have e3 : H3 D = some (.lst acc) := n3.hh D _ e0
  cases b with
  | false =>
    refine (show Nxt H3 from hn H3 ?_)
    exact ⟨G3, acc, n.trans n3, g3, e3, dpa_mono n3.gg _ ha⟩
  | true =>
    refine (show te σ2 H3 _ from he rfl G3 (n.gg.trans n3.gg) H3 n3.gh _ fun y G4 H4 n4 hy => ?_)
    have g4 : G4 D = none := (n4.fr D (ne_none e3)).trans g3
    refine ⟨acc, n4.hh D _ e3, by rw [dpa_length ha]; exact hz, hn _ ?_⟩
    have n14 := (n.trans n3).trans n4
    refine ⟨G4, acc ++ [y], ⟨n14.gg, fun b u q => ?_, fun b u q => ?_, n14.fr⟩, g4, upd_same, dpa_append (dpa_mono (n3.gg.trans n4.gg) _ ha) (.cons hy .nil)⟩
    · rw [upd_ne (ne_of_none q g4)]; exact n4.gh b u q
    · rw [upd_ne (ne_of_none q hD)]; exact n14.hh b u q
theorem fm_take {α β : Type} (f : α → Option β) (l : List α) (i : Nat) (a : α) (h : l[i]? = some a) : (l.take (i + 1)).filterMap f = (l.take i).filterMap f ++ (f a).toList := by
  have hi := (List.getElem?_eq_some_iff.mp h)
  obtain ⟨h1, h2⟩ := hi
  rw [List.take_succ, h, List.filterMap_append]
  cases hf : f a <;> simp [List.filterMap_cons, hf]
theorem en_lcT {i : Nat} {vs : List Nat} (f : PyData → Option PyData) (h : EvD K tl σ G (.tuple ds)) (hw : ∀ v, wipe ((wipe σ vs).set i (some v)) vs = wipe σ vs) (hz : ds.length ≤ sizeLine)
    (ht : ∀ d v Gi, d ∈ ds → Same G Gi → Dp K Gi v d → EvB K tt ((wipe σ vs).set i (some v)) Gi (f d).isSome)
    (he : ∀ d v e Gi, d ∈ ds → f d = some e → Same G Gi → Dp K Gi v d → EvD K te ((wipe σ vs).set i (some v)) Gi e) : EvN K (tLc (iTup K tl) (gName i) tt te vs) σ G (ds.filterMap f) := fun H s Q q =>
  h H s _ fun v G1 H1 n1 hv => by
    cases hv with
    | @tup a xs _ hs ha =>
      refine ⟨a, rfl, ⟨xs, same_tup n1.gh hs⟩, fun D hD => ?_⟩
      refine lc_tup (K := K) (a := a) (xs := xs) (fun k Hc => LcI K G1 H1 D ((ds.take k).filterMap f) Hc) (LcI.start n1.gh hD) (fun k Hc _ p => ?_) (fun k x Hc hk p => ?_) fun Hc p => ?_
      · obtain ⟨Gi, acc, n, _⟩ := p.ex
        exact same_tup (n1.gh.trans n.hh) hs
      · obtain ⟨dk, hdk, hdx⟩ := dpa_get ha hk
        have hm : dk ∈ ds := List.mem_of_getElem? hdk
        refine ⟨hw x, ?_⟩
        refine LcI.turn (b := (f dk).isSome) (e := (f dk).getD .none) hD p (Nat.lt_of_le_of_lt (List.length_filterMap_le _ _) ?_) (fun Gi g => ht dk x Gi hm (n1.gg.trans g) (dp_mono g _ hdx)) (fun hb Gi g => ?_) fun H' p' => ?_
        · have := (List.getElem?_eq_some_iff.mp hdk).1
          rw [List.length_take]; omega
        · obtain ⟨e, hee⟩ := Option.isSome_iff_exists.mp hb
          rw [hee]
          exact he dk x e Gi hm hee (n1.gg.trans g) (dp_mono g _ hdx)
        · rw [fm_take f ds k dk hdk]
          cases hf : f dk with
          | none => rw [hf] at p'; simpa using p'
          | some e => rw [hf] at p'; simpa using p'
      · rw [dpa_length ha, List.take_length] at p
        exact p.finN n1 hD q
theorem en_lcL {i : Nat} {vs : List Nat} (f : PyData → Option PyData) (h : EvD K tl σ G (.list ds)) (hw : ∀ v, wipe ((wipe σ vs).set i (some v)) vs = wipe σ vs) (hz : ds.length ≤ sizeLine)
    (ht : ∀ d v Gi, d ∈ ds → Same G Gi → Dp K Gi v d → EvB K tt ((wipe σ vs).set i (some v)) Gi (f d).isSome)
    (he : ∀ d v e Gi, d ∈ ds → f d = some e → Same G Gi → Dp K Gi v d → EvD K te ((wipe σ vs).set i (some v)) Gi e) : EvN K (tLc (iList K tl) (gName i) tt te vs) σ G (ds.filterMap f) := fun H s Q q =>
  h H s _ fun v G1 H1 n1 hv => by
    cases hv with
    | @lst a xs _ hs ha =>
      refine ⟨a, rfl, ⟨xs, n1.gh.seq hs⟩, fun D hD => ?_⟩
      refine lc_list (K := K) (a := a) (xs := xs) (fun k Hc => LcI K G1 H1 D ((ds.take k).filterMap f) Hc) (LcI.start n1.gh hD) (fun k Hc _ p => ?_) (fun k x Hc hk p => ?_) fun Hc p => ?_
      · obtain ⟨Gi, acc, n, _⟩ := p.ex
        exact (n1.gh.trans n.hh).seq hs
      · obtain ⟨dk, hdk, hdx⟩ := dpa_get ha hk
        have hm : dk ∈ ds := List.mem_of_getElem? hdk
        refine ⟨hw x, ?_⟩
        refine LcI.turn (b := (f dk).isSome) (e := (f dk).getD .none) hD p (Nat.lt_of_le_of_lt (List.length_filterMap_le _ _) ?_) (fun Gi g => ht dk x Gi hm (n1.gg.trans g) (dp_mono g _ hdx)) (fun hb Gi g => ?_) fun H' p' => ?_
        · have := (List.getElem?_eq_some_iff.mp hdk).1
          rw [List.length_take]; omega
        · obtain ⟨e, hee⟩ := Option.isSome_iff_exists.mp hb
          rw [hee]
          exact he dk x e Gi hm hee (n1.gg.trans g) (dp_mono g _ hdx)
        · rw [fm_take f ds k dk hdk]
          cases hf : f dk with
          | none => rw [hf] at p'; simpa using p'
          | some e => rw [hf] at p'; simpa using p'
      · rw [dpa_length ha, List.take_length] at p
        exact p.finN n1 hD q
theorem en_lcR {i : Nat} {vs : List Nat} {m : Int} (f : Nat → Option PyData) (h : EvD K tl σ G (.int m)) (hw : ∀ v, wipe ((wipe σ vs).set i (some v)) vs = wipe σ vs) (hm0 : -(2 ^ 62) ≤ m) (hz : m.toNat ≤ sizeLine)
    (ht : ∀ k Gi, k < m.toNat → Same G Gi → EvB K tt ((wipe σ vs).set i (some (.int k))) Gi (f k).isSome)
    (he : ∀ k e Gi, k < m.toNat → f k = some e → Same G Gi → EvD K te ((wipe σ vs).set i (some (.int k))) Gi e) : EvN K (tLc (iRng1 (tCons tl tNil)) (gName i) tt te vs) σ G ((List.range m.toNat).filterMap f) := fun H s Q q =>
  h H s _ fun v G1 H1 n1 hv => by
    rw [dp_int hv]
    refine ⟨m, rfl, hm0, ?_, fun D hD => ?_⟩
    · have : sizeLine ≤ 2 ^ 61 := by decide
      omega
    refine lc_range (lo := 0) (n := m.toNat) (fun k Hc => LcI K G1 H1 D ((List.range k).filterMap f) Hc) (LcI.start n1.gh hD) (fun k Hc hk p => ?_) fun Hc p => ?_
    · have e0 : (0 : Int) + (k : Int) = (k : Int) := by omega
      rw [e0]
      refine ⟨hw _, ?_⟩
      refine LcI.turn (b := (f k).isSome) (e := (f k).getD .none) hD p (Nat.lt_of_le_of_lt (List.length_filterMap_le _ _) (by rw [List.length_range]; omega)) (fun Gi g => ht k Gi hk (n1.gg.trans g)) (fun hb Gi g => ?_) fun H' p' => ?_
      · obtain ⟨e, hee⟩ := Option.isSome_iff_exists.mp hb
        rw [hee]
        exact he k e Gi hk hee (n1.gg.trans g)
      · rw [List.range_succ, List.filterMap_append]
        cases hf : f k with
        | none => rw [hf] at p'; simpa [List.filterMap_cons, hf] using p'
        | some e => rw [hf] at p'; simpa [List.filterMap_cons, hf] using p'
    · exact p.finN n1 hD q
theorem eb_yes : EvB K tYes σ G true := fun H s _ q => q G H (Nx.refl s)
/-- no test -/
theorem en_lcT1 {i : Nat} {vs : List Nat} (f : PyData → PyData) (h : EvD K tl σ G (.tuple ds)) (hw : ∀ v, wipe ((wipe σ vs).set i (some v)) vs = wipe σ vs) (hz : ds.length ≤ sizeLine)
    (he : ∀ d v Gi, d ∈ ds → Same G Gi → Dp K Gi v d → EvD K te ((wipe σ vs).set i (some v)) Gi (f d)) : EvN K (tLc (iTup K tl) (gName i) tYes te vs) σ G (ds.map f) :=
  (en_lcT (fun d => some (f d)) h hw hz (fun d v Gi _ _ _ => eb_yes) (fun d v e Gi hm e1 g hd => by cases e1; exact he d v Gi hm g hd)).cast (by rw [List.filterMap_eq_map'])
theorem en_lcL1 {i : Nat} {vs : List Nat} (f : PyData → PyData) (h : EvD K tl σ G (.list ds)) (hw : ∀ v, wipe ((wipe σ vs).set i (some v)) vs = wipe σ vs) (hz : ds.length ≤ sizeLine)
    (he : ∀ d v Gi, d ∈ ds → Same G Gi → Dp K Gi v d → EvD K te ((wipe σ vs).set i (some v)) Gi (f d)) : EvN K (tLc (iList K tl) (gName i) tYes te vs) σ G (ds.map f) :=
  (en_lcL (fun d => some (f d)) h hw hz (fun d v Gi _ _ _ => eb_yes) (fun d v e Gi hm e1 g hd => by cases e1; exact he d v Gi hm g hd)).cast (by rw [List.filterMap_eq_map'])
theorem en_lcR1 {i : Nat} {vs : List Nat} {m : Int} (f : Nat → PyData) (h : EvD K tl σ G (.int m)) (hw : ∀ v, wipe ((wipe σ vs).set i (some v)) vs = wipe σ vs) (hm0 : -(2 ^ 62) ≤ m) (hz : m.toNat ≤ sizeLine)
    (he : ∀ k Gi, k < m.toNat → Same G Gi → EvD K te ((wipe σ vs).set i (some (.int k))) Gi (f k)) : EvN K (tLc (iRng1 (tCons tl tNil)) (gName i) tYes te vs) σ G ((List.range m.toNat).map f) :=
  (en_lcR (fun d => some (f d)) h hw hm0 hz (fun k Gi _ _ => eb_yes) (fun k e Gi hk e1 g => by cases e1; exact he k Gi hk g)).cast (by rw [List.filterMap_eq_map'])
end
end Gw
namespace Gw
open PySem PySem.Spec PyProof.Rows L2

/-! ### a def as it stands, and its promise -/
structure DefAt (K : PySem.W.Frag) (mg : Str → Option Value) (x : Str) (st : Stmt) (ps : List Str) (f : Addr) (fd : FuncData) : Prop where
  F : Fun K x x st f fd
  m : mg x = some (.ref f)
  b : Binds K fd ps []
def Ok (P : Program) (w : World) (K : PySem.W.Frag) (mg : Str → Option Value) (base : Heap) (x : Str) (ps : List Str) (k : Nat) (sp : Sp) : Prop :=
  ∃ (f : Addr) (fd : FuncData), mg x = some (.ref f) ∧ PySem.W.keepIn K (.ref f) = true ∧ Binds K fd ps [] ∧ FnOk P w K mg base CX0 k f fd ps sp
theorem DefAt.ok {P : Program} {w : World} {K : PySem.W.Frag} {mg : Str → Option Value} {base : Heap} {x : Str} {st : Stmt} {ps : List Str} {f : Addr} {fd : FuncData} {k : Nat} {sp : Sp}
    (D : DefAt K mg x st ps f fd) (h : FnOk P w K mg base CX0 k f fd ps sp) : Ok P w K mg base x ps k sp := ⟨f, fd, D.m, D.F.kp, D.b, h⟩
theorem Ok.imp {P : Program} {w : World} {K : PySem.W.Frag} {mg : Str → Option Value} {base : Heap} {x : Str} {ps : List Str} {k : Nat} {sp sp' : Sp} (h : Ok P w K mg base x ps k sp)
    (i : ∀ vs H Q E, sp' vs H Q E → sp vs H Q E) : Ok P w K mg base x ps k sp' := by
  obtain ⟨f, fd, a, b, c, d⟩ := h
  exact ⟨f, fd, a, b, c, d.imp i⟩
/-- names of built-ins that the text leaves alone -/
structure Bt (mg : Str → Option Value) : Prop where
  len : mg "len" = none
  int : mg "int" = none
  bool : mg "bool" = none
  str : mg "str" = none
  list : mg "list" = none
  tuple : mg "tuple" = none
  dict : mg "dict" = none
  isinstance : mg "isinstance" = none
  all : mg "all" = none
  any : mg "any" = none
  abs : mg "abs" = none
  min : mg "min" = none
  max : mg "max" = none
  range : mg "range" = none
  enumerate : mg "enumerate" = none
  repr : mg "repr" = none
  sorted : mg "sorted" = none
section
variable {X : Cx} {x : Str} {ps ks : List Str} {k : Nat} {sp : Sp} {p pos : Pos} {e : Expr} {es : List Expr} {kws : List Keyword} {t tk : TA}
theorem pe_ok (h : Ok X.prog X.w X.K X.mg X.base x ps k sp) (hr : Room k X.A) (hg : Gl X x) (ha : PA X (e :: es) t) (hdb : (x == ("__debug__" : Str)) = false := by decide)
    (he : starEach (e :: es) X.env = (false, eval e X.env) :: starEach es X.env := by rfl) (hpl : (backTo pos (starEach es X.env)).any (·.1) = false := by rfl) :
    PE X (.Call (.Name x p) (e :: es) [] pos) (tCall sp [] E0 t) := by
  obtain ⟨f, fd, hm, hk, hb, F⟩ := h
  exact pe_call F hr hg hm hk hb .nil pass0 ha hdb he hpl
theorem pe_ok0 (h : Ok X.prog X.w X.K X.mg X.base x ps k sp) (hr : Room k X.A) (hg : Gl X x) (hdb : (x == ("__debug__" : Str)) = false := by decide) :
    PE X (.Call (.Name x p) [] [] pos) (tCall sp [] E0 tNil) := by
  obtain ⟨f, fd, hm, hk, hb, F⟩ := h
  exact pe_call0 F hr hg hm hk hb .nil pass0 hdb
end
end Gw
namespace Gw
open PySem PySem.Spec PyProof.Rows L2
/-! ### an error that a clause catches and keeps -/
/-- an error of the class cls, with its own dict d, stands at a -/
def ErrAt (cls : Value) (d : Option Addr) (a : Addr) (h : Heap) : Prop := ∃ (oe : Obj) (vs : Array Value), h.get? a = some oe ∧ Zc cls d oe ∧ oe.data = .fields vs
def ErrO (cls : Value) (d : Option Addr) (a : Addr) : HO := .ext (ErrAt cls d a)
theorem err_new {P : Program} {w : World} {H : Hp} {h : Heap} {a : Addr} {cls : Value} {d : Option Addr} (e : ErrAt cls d a h) : ObjOk P w H h a (ErrO cls d a) := by
  obtain ⟨oe, vs, q, r⟩ := e
  exact ⟨⟨oe, vs, q, r⟩, ⟨oe, q⟩, fun h1 h2 ⟨o, v, q1, r1⟩ k => ⟨o, v, k o q1, r1⟩⟩
section
variable {X : Cx} {pins : List (Addr × Obj)} {σ : L2.St} {H : Hp} {s : Shared}
/-- what is pinned, and new since the beginning, is told of from now on -/
theorem Inv_track {a : Addr} {oe : Obj} {u : HO} (J : Inv X ((a, oe) :: pins) σ H s) (h0 : X.s_0.heap.get? a = none) (np : ∀ p ∈ X.pn ++ pins, p.1 ≠ a) (new : ObjOk X.prog X.w (upd H a u) s.heap a u) : Inv X pins σ (upd H a u) s := by
  have mine := J.pin (a, oe) (List.mem_append_right _ List.mem_cons_self)
  have hn : H a = none := mine.2.1
  have old : ∀ b o, X.s_0.heap.get? b = some o → b ≠ a := fun b o e z => by rw [z, h0] at e; cases e
  refine ⟨J.ok, J.os, J.bare, ⟨J.base.keep, J.base.slot, fun b o e n hx => ?_, J.base.there, fun b xs e => ?_, fun b o v e => ?_, fun b ps e => ?_⟩, J.loc, J.cell, ?_, fun x c e => ?_, fun p hp => ?_, J.hok.laidN (fun _ _ z => z) hn new, J.len⟩
  · exact (upd_ne (old b o e)).trans (J.base.free b o e n hx)
  · have := J.base.tups b xs e
    exact (upd_ne (ne_of_none this hn)).trans this
  · have := J.base.frzs b o v e
    exact (upd_ne (ne_of_none this hn)).trans this
  · obtain ⟨more, this⟩ := J.base.tbls b ps e
    exact ⟨more, (upd_ne (ne_of_none this hn)).trans this⟩
  · exact (upd_ne (Ne.symm mine.2.2.1)).trans J.free
  · refine (upd_ne fun z => ?_).trans (J.freeC x c e)
    obtain ⟨v, o, ho, hd⟩ := J.cell x c e
    rw [z, mine.1] at ho
    cases ho
    exact mine.2.2.2.2 _ hd
  · have hp' : p ∈ X.pn ++ ((a, oe) :: pins) := by
      rcases List.mem_append.mp hp with z | z
      · exact List.mem_append_left _ z
      · exact List.mem_append_right _ (List.mem_cons_of_mem _ z)
    obtain ⟨q1, q2, q3⟩ := J.pin p hp'
    exact ⟨q1, (upd_ne (np p hp)).trans q2, q3⟩
end
/-- what «except x as n: y = n» wishes of an error of the body; slots i of n, j of y -/
def wKeep (K : PySem.W.Frag) (c : Value) (i j : Nat) (Wout : WX) (D : Ends) : WX := fun cls d σ H =>
  ∃ b, PySem.W.exmOne K cls c = some b ∧ (b = true → ∀ a, H a = none → D.nx (((σ.set i (some (.ref a))).set j (some (.ref a))).set i none) (upd H a (ErrO cls d a))) ∧ (b = false → Wout cls d σ H)
section
variable {X : Cx} {x n y : Str} {c : Value} {i j : Nat} {body : List Stmt} {np yp ep ap pos pos' : Pos} {tb : WX → TS} {Wout : WX}
theorem ps_keep (hs : X.stack = X.env :: X.outer) (hf : X.env.frame = some X.env.locals) (hex : X.ex = []) (hN : X.N.Nodup) (hi : X.N[i]? = some n) (hln : X.env.kindOf n = some .local) (hj : X.N[j]? = some y) (hjl : X.env.scope.names.lookup y = some .local)
    (hvn : Vis X.env.scope n) (hdn : (n == ("__debug__" : Str)) = false) (hcn : (n == ("__classdict__" : Str)) = false) (hsw : ∀ Y : Cx, Y.env = X.env → swapsWith (.Name n ep) (some (.Name y yp)) ap.line Y.env = pure false) (hlen : i < X.N.length) (hc : Names X x c) (tk : Takes X Wout)
    (hb : ∀ (W : WX) (pn : List (Addr × Obj)) (xe : Value → Shared → Prop), Takes (X.tr pn xe) W → PassesOwn (model X.prog X.w) X.A X.env xe → PSs (X.tr pn xe) body (tb W)) :
    PS X (.Try body [.ExceptHandler (some (.Name x np)) (some n) [.Assign [.Name y yp] (.Name n ep) ap] pos'] [] [] pos) (fun D σ H => tb (wKeep X.K c i j Wout D) D σ H) := by
  refine ⟨fun pins s σ H D I h => ?_⟩
  have okX := I.ok
  have frames : X.A.frames = some (X.env :: X.outer) := okX.frames.trans (congrArg some hs)
  refine wpAny_Try_except ?_
  have run := (hb (wKeep X.K c i j Wout D) (X.pn ++ pins) (fun e s₁ => wpAny (model X.prog X.w) X.A (noteFrame e X.env) (fun _ s₂ => wpAny (model X.prog X.w) X.A (setFlight e none) (fun _ s₃ =>
    wpAny (model X.prog X.w) X.A (handleBy e X.env [.ExceptHandler (some (.Name x np)) (some n) [.Assign [.Name y yp] (.Name n ep) ap] pos']) (SP X pins D) X.xe s₃) X.xe s₂) X.xe s₁) ?caught PassesOwn.looking).run [] s σ H D (I.toTry _) h
  case caught =>
    rintro u s' ⟨a, B, sI, pins', σ', H', cls, d, rfl, Jt, ground, up, sky, na, os, ag, b, hmatch, hyes, hno⟩
    have J : Inv X pins σ' H' sI := Jt.ofTry okX
    rw [show X.tr (X.pn ++ pins) _ = X.tr (X.pn ++ pins) _ from rfl] at sky
    have sky1 : Sky B (X.env :: X.outer) a (Zc cls d) X.env.locals s'.heap := by rw [← hs]; exact sky
    show wpAny (model X.prog X.w) X.A (noteFrame (.ref a) X.env) _ _ _
    refine Sky.land Zc.steady frames hf sky1 fun g fly upg => ?_
    have Jg : Inv X pins σ' H' { s' with heap := g } := J.landed ground fly.1 (up.trans upg) os ag
    obtain ⟨oe, vs, at1, z1, dat⟩ := fly.there
    have aFr : a ∉ frs (X.env :: X.outer) := fun hm => by
      obtain ⟨_, o1, q1, notF⟩ := fly.2.2.1.mem hm
      rw [at1] at q1
      cases q1
      exact notF _ dat
    have aL : a ≠ X.env.locals := fun z => aFr (List.mem_filterMap.mpr ⟨X.env, List.mem_cons_self, hf.trans (congrArg some z.symm)⟩)
    have aF : a ∉ X.fs := fun hm => by
      obtain ⟨e, he, q⟩ := List.mem_filterMap.mp hm
      exact aFr (List.mem_filterMap.mpr ⟨e, List.mem_cons_of_mem _ he, q⟩)
    have none_I : sI.heap.get? a = none := by
      cases q : sI.heap.get? a with
      | none => rfl
      | some o =>
        have := ground a o q (by rw [hs]; exact aFr)
        rw [fly.2.1] at this
        cases this
    have none_0 : X.s_0.heap.get? a = none := by
      cases q : X.s_0.heap.get? a with
      | none => rfl
      | some o =>
        obtain ⟨o', q'⟩ := J.base.there a o q (by rw [hex]; exact List.not_mem_nil)
        rw [none_I] at q'
        cases q'
    have pinsOff : ∀ p ∈ X.pn ++ pins, p.1 ≠ a := fun p hp z => by
      have := (J.pin p hp).1
      rw [z, none_I] at this
      cases this
    have Sg := Jg.suite at1 dat na aL aF
    refine wpAny_handleBy_cons (codeAny_handlers_test ?_) (fun q => nomatch q)
    have clsOf : PySem.W.Looks (model X.prog X.w) g (typeOf (.ref a)) cls := fun A Q E s k q => wpAny_typeOf_ref (k _ _ at1) (by rw [z1.1]; exact q)
    have asks := PySem.W.exm_one (M := model X.prog X.w) Jg.kIn clsOf hmatch
    have name : ∀ {Q : Value → Shared → Prop} {E : Value → Shared → Prop}, Q c { s' with heap := g } → wpAny (model X.prog X.w) (X.A.mark (some (.ref a))) (eval (.Name x np) X.env) Q E { s' with heap := g } := fun {Q E} q => by
      rcases hc with ⟨hg, hdbg, hm | ⟨hm, hv, hnn⟩⟩
      · exact ld_glob (X := X.suite a ((a, oe) :: (X.pn ++ pins))) Sg hg hm q hdbg
      · exact ld_blt (X := X.suite a ((a, oe) :: (X.pn ++ pins))) Sg hg hm hv q hnn hdbg
    refine name (asks.here ?_)
    cases b with
    | true =>
      refine codeAny_handlers_suite_as ?_
      refine HandSPX.lands_againZ fly fun g2 fly2 up2 => ?_
      have J2 : Inv X pins σ' H' { s' with heap := g2 } := J.landed ground fly2.1 ((up.trans upg).trans up2) os ag
      obtain ⟨oe2, vs2, at2, z2, dat2⟩ := fly2.there
      refine store_ok (X := X.suite a ((a, oe2) :: (X.pn ++ pins))) (v := .ref a) (J2.suite at2 dat2 na aL aF) hN hi (.inl hln) rfl (fun s5 S5 => ?_) (.inr hln)
      have one := (pss_one (ps_set (X := X.suite a ((a, oe2) :: (X.pn ++ pins))) (pos := ap) (pos' := yp) (i := j) hN hj (.inl hjl) (pe_var (pos := ep) (i := i) hi hvn hdn hcn) (hsw _ rfl) (.inr hjl))).run [] s5 _ H' { nx := fun σ6 H6 => σ6 = (σ'.set i (some (.ref a))).set j (some (.ref a)) ∧ H6 = H', rt := fun _ _ => False } S5
        ⟨.ref a, by rw [List.getElem?_set_self (by rw [J.len]; exact hlen)], rfl, rfl⟩
      refine wpAny_mono one (fun f s6 sp => ?_) (fun _ _ z => False.elim z)
      cases f with
      | next =>
        obtain ⟨σ6, H6, S6, rfl, rfl⟩ := sp
        have pinned := S6.pin (a, oe2) (List.mem_append_left _ List.mem_cons_self)
        have Jp : Inv X ((a, oe2) :: pins) ((σ'.set i (some (.ref a))).set j (some (.ref a))) H6 s6 := (S6.unsuite okX).pins_of fun p hp => by
          rcases List.mem_cons.mp hp with e | hp
          · rw [e]; exact pinned
          · exact (S6.unsuite okX).pin p (List.mem_append_right _ hp)
        exact gone_ok Jp hN hi hln fun s7 J7 => ⟨_, _, Inv_track J7 none_0 pinsOff (err_new ⟨oe2, vs2, (J7.pin (a, oe2) (List.mem_append_right _ List.mem_cons_self)).1, z2, dat2⟩), hyes rfl a na⟩
      | brk => obtain ⟨_, _, _, z⟩ := sp; exact False.elim z
      | cont => obtain ⟨_, _, _, z⟩ := sp; exact False.elim z
      | ret u => obtain ⟨_, _, _, _, _, z⟩ := sp; exact False.elim z
    | false =>
      show wpAny _ X.A (handleBy (.ref a) X.env []) _ _ _
      refine wpAny_handleBy_nil ?_
      have fly0 := fly
      obtain ⟨_, _, _, oe', vs', T, oT, ts', at', zz, dat', f1, _⟩ := fly
      unfold PySem.passOn
      refine wpAny_bind (wpAny_field at' dat' f1 ?_)
      rw [if_neg (by simp : ¬ ((Value.ref T == Value.none) = true))]
      have out : wpAny (model X.prog X.w) X.A (setFlight (.ref a) X.env.frame) (fun _ s4 => wpAny (model X.prog X.w) X.A (throw (.ref a) : Sem Flow) (SP X pins D) X.xe s4) X.xe { s' with heap := g } := by
        rw [hf]
        refine HandSPX.setFlight_upZ fly0 fun g2 held up2 => wpAny_throw (tk _ _ ?_)
        exact ⟨a, B, sI, pins, σ', H', cls, d, rfl, J, ground, (up.trans upg).trans up2, .inr (.inr (by rw [hs]; exact held)), na, os, ag, hno rfl⟩
      first
        | exact wpAny_bind (wpAny_pure (wpAny_bind out))
        | exact wpAny_bind out
  refine wpAny_mono run (fun f s1 sp => ?_) fun _ _ z => z
  cases f with
  | next => obtain ⟨σ', H', J', q⟩ := sp; exact wpAny_execs_nil ⟨σ', H', J'.ofTry okX, q⟩
  | brk => obtain ⟨σ', H', J', q⟩ := sp; exact ⟨σ', H', J'.ofTry okX, q⟩
  | cont => obtain ⟨σ', H', J', q⟩ := sp; exact ⟨σ', H', J'.ofTry okX, q⟩
  | ret u => obtain ⟨v, σ', H', J', r, q⟩ := sp; exact ⟨v, σ', H', J'.ofTry okX, r, q⟩
end
end Gw
namespace Gw
open PySem PySem.Spec PyProof.Rows L2
open PySem.AutoSeq1 (wpAny_loadPart')
/-! ### enumerate(a tuple) -/
abbrev tupItO (l : Addr) : Obj := { cls := .type "tuple_iterator", data := .fields #[.ref l, .int 0 0] }
abbrev enO (i : Addr) : Obj := { cls := .type "enumerate", data := .fields #[.none, .bool false, .ref i, rawInt 0, .none, .none] }
set_option maxHeartbeats 1000000 in
theorem en_meets (l : Addr) (its : Array Value) (n : Nat) (dd : Option Addr) (sl : Array (Option Value)) :
    Meets (Builtin.«enumerate.__new__» ⟨[.type "enumerate", .ref l], []⟩)
      (fun _ R s => s.heap.get? l = some { cls := .type "tuple", dict := dd, data := .seq its n, slots := sl } ∧ R (.ok (.ret (.ref (s.heap.push (tupItO l)).objs.size))) { s with heap := (s.heap.push (tupItO l)).push (enO s.heap.objs.size) }) :=
  .of_wp fun pr w A R s hyp => by
    obtain ⟨hp, g, d, tk, os⟩ := s; obtain ⟨hl, hq⟩ := hyp
    have hsub := PySem.sub_enumerate
    have hT : Heap.IsTuple (Shared.heap ⟨hp, g, d, tk, os⟩) l its := ⟨_, hl, rfl, n, rfl⟩
    wp_walk using wpAny_loadPart' hl
    refine wpAny_stack_any fun st => wpAny_pure ?_
    split
    · rename_i c _ _ _ _ _
      cases (c == Value.type "enumerate") <;> (wp_walk using wpAny_loadPart' hl, wpAny_pyIter_tuple hT; exact ⟨_, rfl, hq⟩)
    · wp_walk using wpAny_loadPart' hl, wpAny_pyIter_tuple hT
      exact ⟨_, rfl, hq⟩
theorem call_enT {prog : Program} {w : World} {A : Around} {E : Value → Shared → Prop} {s : Shared} {l : Addr} {its : Array Value} {Q : Value → Shared → Prop} (hT : s.heap.IsTuple l its)
    (h : ∀ h', IsEnum h' (s.heap.objs.size + 1) s.heap.objs.size 0 .none → h'.IsTupleIter s.heap.objs.size l 0 → (∀ b o, s.heap.get? b = some o → h'.get? b = some o) → Q (.ref (s.heap.objs.size + 1)) { s with heap := h' }) :
    wpAny (model prog w) A (call (.type "enumerate") [.ref l]) Q E s := by
  obtain ⟨⟨c, dd, dt, sl⟩, hl, hc, n, hd⟩ := hT
  have hc : c = .type "tuple" := hc
  have hd : dt = .seq its n := hd
  subst hc hd
  refine callType_new F.called_enumerate (by decide) (F.typeCall_enumerate_1 _) (F.newCall_enumerate_1 _) (fun obj => F.args_object_init_2 obj _) F.entry_enumerate_new (en_meets l its n dd sl) ⟨hl, ?_⟩
  have hz : (s.heap.push (tupItO l)).objs.size = s.heap.objs.size + 1 := Heap.size_push ..
  show _ ∧ _
  rw [hz]
  have he : IsEnum ((s.heap.push (tupItO l)).push (enO s.heap.objs.size)) (s.heap.objs.size + 1) s.heap.objs.size 0 .none := by
    have q := Heap.get?_push_size (s.heap.push (tupItO l)) (o := enO s.heap.objs.size) rfl
    rw [hz] at q
    exact q
  exact ⟨⟨_, he, rfl⟩, h _ he ⟨_, Heap.get?_push_of_some _ (Heap.get?_push_size _ rfl), rfl, rfl⟩ fun b o z => Heap.get?_push_of_some _ (Heap.get?_push_of_some _ z)⟩
def IteT (K : PySem.W.Frag) (a : Addr) : It :=
  ⟨fun i H => ∃ (xs : List V) (x : V), SqT K H a xs ∧ xs[i]? = some x,
   fun i H v H' => ∃ T x, v = .ref T ∧ H T = none ∧ H' = upd H T (.tup [.int (i : Nat), x]) ∧ ∀ xs, SqT K H a xs → xs[i]? = some x,
   fun i H => ∃ xs : List V, SqT K H a xs ∧ xs.length = i⟩
theorem turn_enT {P : Program} {w : World} {K : PySem.W.Frag} {elts : List Expr} {kk : Nat} {tpos : Pos} (a e it : Addr) :
    Turn P w K (.Tuple elts kk tpos) (IteT K a) [e, it] e (fun i h => (∃ old, IsEnum h e it ((i : Nat) : Int) old) ∧ h.IsTupleIter it a i ∧ e ≠ it) where
  mem := List.mem_cons_self
  obj := fun i h st b hb => by
    obtain ⟨⟨old, he⟩, ⟨o, ho, hc, hd⟩, _⟩ := st
    rcases List.mem_cons.mp hb with z | hb
    · rw [z]; exact ⟨_, he, fun v q => by cases q⟩
    · rw [List.mem_singleton.mp hb]
      exact ⟨o, ho, fun v q => by rw [hd] at q; cases q⟩
  keep := fun i h h' st k => let ⟨⟨old, he⟩, hi, hne⟩ := st; ⟨⟨old, k e List.mem_cons_self _ he⟩, hi.at fun o q => k it (by simp) o q, hne⟩
  item := by
    intro X hP hw hK hc i pn s τ H Ex I hf st hg
    subst hP hw hK
    obtain ⟨⟨old, he⟩, hit, hne⟩ := st
    obtain ⟨xs, x, hq, hx⟩ := hg
    obtain ⟨its, rv, p, hz⟩ := I.tuple hq
    obtain ⟨u, hu, ru⟩ := rv.get hx
    have hT : s.heap.IsTuple a its.toArray := p
    have hel : e < s.heap.objs.size := Heap.lt_size he
    have hil : it < s.heap.objs.size := by obtain ⟨_, q, _⟩ := hit; exact Heap.lt_size q
    have hta : a ≠ it := fun z => by
      obtain ⟨o1, h1, h2, _⟩ := p
      obtain ⟨o2, h3, h4, _⟩ := hit
      rw [z, h3] at h1
      cases h1
      rw [h4] at h2
      exact absurd (Value.type.inj h2) (by decide)
    have hea : e ≠ a := fun z => by
      obtain ⟨o1, h1, h2, _⟩ := p
      rw [← z, show s.heap.get? e = _ from he] at h1
      cases h1
      exact absurd (Value.type.inj h2) (by decide)
    have hlt : i < its.toArray.size := by
      have := (List.getElem?_eq_some_iff.mp hu).1
      rw [List.size_toArray]; exact this
    refine wpAny_pyNext_enum_itemD (Draws.tuple (A := X.A.in1) (I.ok.hd hc) it a hta its.toArray) he ⟨hit, hT⟩ hlt hne (by simp; exact ⟨hne, hea⟩) fun y h' tk hy ho hst' hTn hsz hk => ?_
    have ey : y = u := by
      have : its.toArray[i]? = some u := by simpa using hu
      rw [this] at hy
      exact (Option.some.inj hy).symm
    subst ey
    refine ⟨_, rfl, wpAny_letOwnedTupleGo_enum (s := { s with heap := h', toks := tk + 1 }) ho fun h'' he' sb => ?_⟩
    have hT2 : h''.get? s.heap.objs.size = some { cls := .type "tuple", data := .seq #[.int i tk, y] } := (sb.2 _ (Nat.ne_of_gt hel)).trans hTn
    have fresh : ObjOk X.prog X.w (upd H s.heap.objs.size (.tup [.int (i : Nat), x])) h'' s.heap.objs.size (.tup [.int (i : Nat), x]) :=
      ⟨by show 2 ≤ sizeLine; decide, [.int i tk, y], .cons ⟨_, rfl⟩ (.cons ru .nil), ⟨_, hT2, rfl, _, rfl⟩⟩
    have I1 : Inv X pn τ (upd H s.heap.objs.size (.tup [.int (i : Nat), x])) { s with heap := h'', toks := tk + 1 } :=
      I.turnedNew (ch := [e, it]) (fun b ob hb q => (sb.2 b (fun z => hb (z ▸ List.mem_cons_self))).trans (hk b ob (fun z => hb (z ▸ List.mem_cons_self)) (fun z => hb (by simp [z])) q)) hf (Nat.le_refl _) fresh
    refine ⟨.ref s.heap.objs.size, _, I1, rfl, ⟨_, x, rfl, I.hok.fresh (Nat.le_refl _), rfl, fun ys hy => by rw [I.tuple_inj hy hq]; exact hx⟩, ⟨⟨y, ?_⟩, hst'.1.at fun o q => (sb.2 it (Ne.symm hne)).trans q, hne⟩, fun b hb => ?_⟩
    · have e1 : ((i + 1 : Nat) : Int) = (i : Int) + 1 := by omega
      rw [e1]
      exact he'
    · have hb' : b < s.heap.objs.size := by
        rcases List.mem_cons.mp hb with z | hb
        · exact z ▸ hel
        · exact (List.mem_singleton.mp hb) ▸ hil
      rw [upd_ne (Nat.ne_of_lt hb')]
      exact (hf b hb).1
  done := by
    intro X hP hw hK hc i pn s τ H Ex I hf st hg
    subst hP hw hK
    obtain ⟨⟨old, he⟩, hit, hne⟩ := st
    obtain ⟨xs, hq, hx⟩ := hg
    obtain ⟨its, rv, p, hz⟩ := I.tuple hq
    have hl := rv.length
    have hta : a ≠ it := fun z => by
      obtain ⟨o1, h1, h2, _⟩ := p
      obtain ⟨o2, h3, h4, _⟩ := hit
      rw [z, h3] at h1
      cases h1
      rw [h4] at h2
      exact absurd (Value.type.inj h2) (by decide)
    have hn : its.toArray.size = i := by rw [List.size_toArray]; omega
    obtain ⟨f0, f1, f2, f3, f4, f5⟩ := hf it (by simp)
    exact wpAny_pyNext_enum_endD (Draws.tuple (A := X.A.in1) (I.ok.hd hc) it a hta its.toArray) he ⟨by rw [hn]; exact hit, p⟩ fun h' eb => ⟨rfl, I.turned (t' := s.toks) (fun b o hb q => eb b o hb q) f0 f1 f3 f4 f5⟩
  self := fun A i s Q E st h => let ⟨⟨_, he⟩, _⟩ := st; wpAny_pyIter_enum he h
def iEnT (K : PySem.W.Frag) (ta : TA) : TI := fun σ H R => ta σ H fun vs H1 => ∃ a xs, vs = [.ref a] ∧ SqT K H1 a xs ∧ R (IteT K a) H1
theorem pi_enumT {X : Cx} {e : Expr} {ta : TA} {p pos tpos : Pos} {elts : List Expr} {kk : Nat} (hg : Gl X "enumerate") (hm : X.mg "enumerate" = none) (ha : PA X [e] ta) (hs : starEach [e] X.env = [(false, eval e X.env)] := by rfl) :
    PI X (.Tuple elts kk tpos) (.Call (.Name "enumerate" p) [e] [] pos) (iEnT X.K ta) := by
  refine ⟨fun pn s τ H R I hyp => ?_⟩
  refine Call_ (ld_blt I hg hm boot_enumerate (PyProof.Rows.callWith_type1 (thn (ha.run pos pn s τ H _ I hyp) fun us s1 ⟨vs, H1, I1, r1, q1⟩ => ?_) hs rfl))
  obtain ⟨a, xs, ex, hq, q⟩ := q1
  subst ex
  obtain _ | ⟨r, _ | _⟩ := r1
  cases r
  obtain ⟨its, rv, p', hz⟩ := I1.tuple hq
  refine call_enT (its := its.toArray) p' fun h' he hit hk => wpAny_pyIter_enum he ?_
  have I2 : Inv X pn τ H1 { s1 with heap := h' } := I1.kept (t' := s1.toks) hk
  refine ⟨s1.heap.objs.size + 1, [s1.heap.objs.size + 1, s1.heap.objs.size], _, _, H1, rfl, I2, turn_enT a (s1.heap.objs.size + 1) s1.heap.objs.size, ⟨⟨.none, he⟩, hit, Nat.succ_ne_self _⟩, fun b hb => ?_, q⟩
  have hle : s1.heap.objs.size ≤ b := by
    rcases List.mem_cons.mp hb with z | hb
    · exact z ▸ Nat.le_add_right _ _
    · exact (List.mem_singleton.mp hb) ▸ Nat.le_refl _
  exact I1.fpOk hle (I1.hok.fresh hle)
theorem walk_enT {K : PySem.W.Frag} {a : Addr} {xs : List V} : Walk (IteT K a) xs.length (fun H => SqT K H a xs) (YPair (fun i => some (.int (i : Nat))) (fun i => xs[i]?)) := by
  refine ⟨fun i _ hi q => ⟨xs, xs[i], q, by simp [hi]⟩, fun _ q => ⟨xs, q, rfl⟩, fun i H v H' _ q y => ?_⟩
  obtain ⟨T, x, h1, h2, h3, h4⟩ := y
  exact ⟨T, .int (i : Nat), x, h1, h2, h3, rfl, h4 xs q⟩
end Gw
namespace Gw
open PySem PySem.Spec PyProof.Rows L2
/-! ### t[::-1] of a tuple -/
section
variable {prog : Program} {w : World} {A : Around} {E : Value → Shared → Prop} {s : Shared}
theorem adj_rev (n : Nat) : Builtin.Slice.sliceAdjust none none (-1) (n : Int) = ((n : Int) - 1, -1) := by
  unfold Builtin.Slice.sliceAdjust
  have h1 : ((-1 : Int) < 0) := by omega
  simp only [h1, if_true]
theorem places_rev (n : Nat) : Builtin.Slice.slicePlaces ((n : Int) - 1) (-1) (-1) = n := by
  unfold Builtin.Slice.slicePlaces
  have h1 : ¬ ((-1 : Int) > 0) := by omega
  simp only [h1, if_false]
  have h2 : ∀ z : Int, z / (- -1) = z := fun z => by rw [show (- -1 : Int) = 1 from rfl, Int.ediv_one]
  split
  · rw [h2]; omega
  · omega
theorem fm_congr {α β : Type} {f g : α → Option β} : ∀ (l : List α), (∀ a ∈ l, f a = g a) → l.filterMap f = l.filterMap g
  | [], _ => rfl
  | a :: l, h => by
    rw [List.filterMap_cons, List.filterMap_cons, h a List.mem_cons_self, fm_congr l fun b hb => h b (List.mem_cons_of_mem _ hb)]
theorem applied_rev {sl : Addr} {t : Tok} {n : Nat} {Q : Int × Int × Nat → Shared → Prop} (hs : s.heap.IsSliceOf sl .none .none (.int (-1) t)) (h : Q ((n : Int) - 1, -1, n) s) :
    wpAny (model prog w) A (Builtin.Slice.sliceApplied (.ref sl) (pure (n : Int))) Q E s := by
  obtain ⟨os, ho, hc, hd⟩ := id hs
  unfold Builtin.Slice.sliceApplied Builtin.Slice.sliceFields
  refine wpAny_bind (wpAny_bind (wpAny_field ho hd (x := .none) rfl (wpAny_bind (wpAny_field ho hd (x := .none) rfl (wpAny_bind (wpAny_field ho hd (x := .int (-1) t) rfl (wpAny_pure ?_)))))))
  refine wpAny_bind (HT.slicePart_ (.int (-1) t) ?_)
  show wpAny _ _ (if ((-1 : Int) == 0) = true then _ else _) _ _ s
  rw [if_neg (by decide)]
  refine wpAny_bind (HT.slicePart_ .none (wpAny_bind (HT.slicePart_ .none (wpAny_bind (wpAny_pure ?_)))))
  show wpAny _ _ (match Builtin.Slice.sliceAdjust none none (-1) (n : Int) with | (lo, hi) => pure (lo, (-1 : Int), Builtin.Slice.slicePlaces lo hi (-1))) _ _ s
  rw [adj_rev n]
  show wpAny _ _ (pure ((n : Int) - 1, (-1 : Int), Builtin.Slice.slicePlaces ((n : Int) - 1) (-1) (-1))) _ _ s
  rw [places_rev]
  exact wpAny_pure h
theorem pick_rev (xs : Array Value) : ((List.range xs.size).filterMap fun (k : Nat) => xs[(((xs.size : Nat) : Int) - 1 + (k : Int) * (-1)).toNat]?).toArray = xs.toList.reverse.toArray := by
  congr 1
  apply List.ext_getElem?
  intro i
  have e : (List.range xs.size).filterMap (fun (k : Nat) => xs[(((xs.size : Nat) : Int) - 1 + (k : Int) * (-1)).toNat]?) = (List.range xs.size).map (fun k => xs.getD (xs.size - 1 - k) .none) := by
    rw [← List.filterMap_eq_map']
    refine fm_congr _ fun k hk => ?_
    have hk := List.mem_range.mp hk
    have e2 : (((xs.size : Nat) : Int) - 1 + (k : Int) * (-1)).toNat = xs.size - 1 - k := by omega
    rw [e2]
    have h3 : xs.size - 1 - k < xs.size := by omega
    rw [Array.getElem?_eq_getElem h3]
    simp [Array.getD, h3]
  rw [e]
  by_cases hi : i < xs.size
  · have h3 : xs.size - 1 - i < xs.size := by omega
    rw [List.getElem?_map, List.getElem?_range hi, List.getElem?_reverse (by simpa using hi)]
    simp [Array.getD, h3]
  · rw [List.getElem?_eq_none (by simp; omega), List.getElem?_eq_none (by simp; omega)]
theorem getItem_tup_rev {t sl : Addr} {items : Array Value} {u : Tok} {Q : Value → Shared → Prop} (ht : IsTup s.heap t items) (hs : s.heap.IsSliceOf sl .none .none (.int (-1) u))
    (h : Q (.ref s.heap.objs.size) { s with heap := s.heap.push { cls := .type "tuple", data := .seq items.toList.reverse.toArray } }) (hsz : items.size ≤ sizeLine) :
    wpAny (model prog w) A (getItem (.ref t) (.ref sl)) Q E s := by
  have hz : sizeOk (.seq items.toList.reverse.toArray) := by
    show items.toList.reverse.toArray.size ≤ sizeLine
    rw [List.size_toArray, List.length_reverse, Array.length_toList]
    exact hsz
  obtain ⟨os, ho, hc, hd⟩ := id hs
  have hTs : s.TypeIs (.ref sl) "slice" := ⟨os, ho, hc⟩
  unfold getItem
  try with_reducible refine wpAny_holding ?_
  first | refine wpAny_bind (wpAny_pure ?_) | skip
  refine wpAny_bind (wpAny_sequenceKey ht.typeIs (by decide) ?_)
  refine wpAny_bind (wpAny_callSpecial?_slot (name := Str.ofString "__getitem__") ht.typeIs PyProof.Rows.slot_tuple_getitem (wpAny_call_entry PyProof.Rows.slot_tuple_getitem ht.typeIs entry_tuple_getitem ?_ (args_tuple_getitem _ _)))
  show wpAny _ _ (Builtin.Tuple.tupleItemsOf (.ref t) >>= _) _ _ s
  refine wpAny_bind (tupleItemsOf_ ht ?_)
  refine wpAny_bind (wpAny_typeOf hTs ?_)
  rw [if_pos (by decide)]
  refine wpAny_bind (applied_rev hs ?_)
  have hno : ¬ ((((items.size : Nat) : Int) - 1 == 0 && (-1 : Int) == 1 && items.size == items.size) = true) := by
    intro q
    rw [Bool.and_eq_true, Bool.and_eq_true] at q
    exact absurd q.1.2 (by decide)
  show wpAny _ _ (if (((items.size : Nat) : Int) - 1 == 0 && (-1 : Int) == 1 && items.size == items.size) = true then _ else _) _ _ s
  rw [if_neg hno, pick_rev]
  first
    | exact wpAny_bind (m := Builtin.Tuple.tupleExact _) (wpAny_newObj_type (wpAny_pure ⟨_, rfl, wpAny_pure h⟩) hz)
    | exact wpAny_bind (m := Builtin.Tuple.tupleExact _) (wpAny_newObj_type (wpAny_bind (wpAny_pure (wpAny_pure ⟨_, rfl, wpAny_pure h⟩))) hz)
    | exact wpAny_bind (wpAny_bind (m := Builtin.Tuple.tupleExact _) (wpAny_newObj_type (wpAny_pure (wpAny_pure ⟨_, rfl, wpAny_pure h⟩)) hz))
    | exact wpAny_bind (wpAny_bind (m := Builtin.Tuple.tupleExact _) (wpAny_newObj_type (wpAny_pure ⟨_, rfl, wpAny_pure h⟩) hz))
end
def tRevT (K : PySem.W.Frag) (te : TE) : TE := fun σ H Q => te σ H fun x H1 => ∃ a xs, x = .ref a ∧ SqT K H1 a xs ∧ ∀ p, H1 p = none → Q (.ref p) (upd H1 p (.tup xs.reverse))
theorem vals_rev : ∀ {xs : List V} {us : List Value}, Vals xs us → Vals xs.reverse us.reverse
  | _, _, .nil => .nil
  | _, _, .cons r t => by rw [List.reverse_cons, List.reverse_cons]; exact (vals_rev t).append (.cons r .nil)
theorem pe_revT {X : Cx} {e : Expr} {te : TE} {k : Nat} {p1 p2 p3 pos : Pos} (he : PE X e te) : PE X (.Subscript e (.Slice none none (some (.UnaryOp .USub (.Constant (.int 1) k p1) p2)) p3) pos) (tRevT X.K te) := by
  refine ⟨fun pn s τ H Q I hyp => ?_⟩
  refine Subscript_ (thn (he.run pn s τ H _ I hyp) fun v s1 ⟨x, H1, I1, r1, q1⟩ => ?_)
  obtain ⟨a, xs, ex, hx, q⟩ := q1
  subst ex
  cases r1
  have hst : PO X (some (.UnaryOp .USub (.Constant (.int 1) k p1) p2)) (tPart (tUn (rU fun i => .int (-i)) (tC (.int 1)))) := po_some (pe_un un_neg pe_int)
  refine wpAny_Slice (thn (po_none.run pn s1 τ H1 (fun o H2 => o = none ∧ H2 = H1) I1 ⟨rfl, rfl⟩) fun vl s2 ⟨l, H2, I2, pl, el, e2⟩ => ?_)
  subst el e2
  refine thn (po_none.run pn s2 τ H2 (fun o H3 => o = none ∧ H3 = H2) I2 ⟨rfl, rfl⟩) fun vu s3 ⟨u, H3, I3, pu, eu, e3⟩ => ?_
  subst eu e3
  refine thn (hst.run pn s3 τ H3 (fun o H4 => o = some (-1) ∧ H4 = H3) I3 ⟨1, rfl, -1, rfl, rfl, rfl⟩) fun vs s4 ⟨o, H4, I4, ps, eo, e4⟩ => ?_
  subst eo e4
  cases pl
  cases pu
  obtain _ | ⟨_, tk⟩ := ps
  have I5 : Inv X pn τ H4 { s4 with heap := s4.heap.push { cls := .type "slice", data := .fields #[.none, .none, .int (-1) tk] } } := I4.kept (t' := s4.toks) fun b ob z => Heap.get?_push_of_some _ z
  obtain ⟨its, r, ht, hz⟩ := I5.tuple hx
  have hlen := r.length
  show wpAny (model X.prog X.w) X.A (subscriptTail e (.Slice none none (some (.UnaryOp .USub (.Constant (.int 1) k p1) p2)) p3) (.ref a) (.ref s4.heap.objs.size)) (EP X pn τ Q) X.xe { s4 with heap := s4.heap.push { cls := .type "slice", data := .fields #[.none, .none, .int (-1) tk] } }
  refine tail_any (ops := [.ref a, .ref s4.heap.objs.size]) ht.typeIs PyProof.Rows.slot_tuple_getitem.lookup ?_ (by with_unfolding_all rfl)
  refine getItem_tup_rev ht (Heap.IsSliceOf.new _ .none .none (.int (-1) tk)) ?_ (by rw [List.size_toArray]; omega)
  have er : its.toArray.toList.reverse.toArray = its.reverse.toArray := by simp
  rw [er]
  refine ⟨.ref _, _, I5.laid (t' := s4.toks) (o := .tup xs.reverse) (fun b ob z => Heap.get?_push_of_some _ z) (Nat.le_refl _) ?_, rfl, q _ (I5.hok.fresh (Nat.le_refl _))⟩
  exact ⟨by rw [List.length_reverse]; exact hz, its.reverse, vals_rev r, ⟨_, Heap.get?_push_size _ rfl, rfl, _, rfl⟩⟩
section
variable {K : PySem.W.Frag} {σ : L2.St} {G : Hp} {te : TE} {ds : List PyData}
theorem ed_revT (h : EvD K te σ G (.tuple ds)) : EvD K (tRevT K te) σ G (.tuple ds.reverse) := fun H s Q q => h H s _ fun v G1 H1 n1 hv => by
  cases hv with
  | @tup a xs _ hs ha =>
    refine ⟨a, xs, rfl, same_tup n1.gh hs, fun p hp => ?_⟩
    have m := Nx.new (o := .tup xs.reverse) n1.gh hp
    exact q _ _ _ (n1.trans m) (.tup (SqT.of upd_same) (dpa_mono m.gg _ (dpa_reverse ha)))
end
/-! ### [.. for i, x in enumerate(t)] -/
section
variable {K : PySem.W.Frag} {σ : L2.St} {G G1 : Hp} {te tl : TE} {ds es : List PyData}
theorem LcI.lay {H1 Hc : Hp} {D T : Addr} {o : HO} (h : LcI K G1 H1 D ds Hc) (hT : Hc T = none) : LcI K G1 H1 D ds (upd Hc T o) := by
  obtain ⟨Gi, acc, n, g, e0, ha⟩ := h.ex
  have hne : D ≠ T := ne_of_none e0 hT
  exact ⟨Gi, acc, n.trans (Nx.lay n.gh hT), g, by rw [upd_ne hne]; exact e0, ha⟩
theorem en_lcEn {i j : Nat} {vs : List Nat} (f : Nat → PyData → PyData) (h : EvD K tl σ G (.tuple ds)) (hw : ∀ v u, wipe (((wipe σ vs).set i (some v)).set j (some u)) vs = wipe σ vs) (hz : ds.length ≤ sizeLine)
    (he : ∀ k d v Gi, ds[k]? = some d → Same G Gi → Dp K Gi v d → EvD K te (((wipe σ vs).set i (some (.int (k : Nat)))).set j (some v)) Gi (f k d)) :
    EvN K (tLc (iEnT K (tCons tl tNil)) (gTup K 2 (gCons (gName i) (gCons (gName j) gNil))) tYes te vs) σ G (ds.mapIdx f) := fun H s Q q =>
  h H s _ fun v G1 H1 n1 hv => by
    cases hv with
    | @tup a xs _ hs ha =>
      refine ⟨a, xs, rfl, same_tup n1.gh hs, fun D hD => ?_⟩
      refine lc_it (walk_enT (K := K) (a := a) (xs := xs)) (fun k Hc => LcI K G1 H1 D ((ds.mapIdx f).take k) Hc) (LcI.start n1.gh hD) (fun k Hc _ p => ?_) (fun k x Hc H' hk p hy => ?_) fun Hc p => ?_
      · obtain ⟨Gi, acc, n, _⟩ := p.ex
        exact same_tup (n1.gh.trans n.hh) hs
      · obtain ⟨T, x1, x2, rfl, hT, rfl, e1, e2⟩ := hy
        cases e1
        obtain ⟨dk, hdk, hdx⟩ := dpa_get ha e2
        have p' := p.lay (o := .tup [.int (k : Nat), x2]) hT
        refine ⟨T, _, rfl, SqT.of upd_same, rfl, _, _, rfl, _, _, rfl, rfl, ?_⟩
        refine ⟨hw _ _, ?_⟩
        have hlt := (List.getElem?_eq_some_iff.mp hdk).1
        refine LcI.turn (b := true) (e := f k dk) hD p' (by rw [List.length_take, List.length_mapIdx]; omega) (fun Gi g => eb_yes) (fun _ Gi g => he k dk x2 Gi hdk (n1.gg.trans g) (dp_mono g _ hdx)) fun H' pq => ?_
        have e3 : (ds.mapIdx f)[k]? = some (f k dk) := by rw [List.getElem?_mapIdx, hdk]; rfl
        rw [List.take_succ, e3]
        exact pq
      · rw [dpa_length ha, List.take_of_length_le (by rw [List.length_mapIdx]; exact Nat.le_refl _)] at p
        exact p.finN n1 hD q
end
end Gw
namespace Gw
open PySem PySem.Spec PyProof.Rows L2
/-! ### repr of data, where no repr is under way -/
def rRepr (K : PySem.W.Frag) : List V → Hp → VK → Prop := fun xs H Q => ∃ v d, xs = [v] ∧ Dp K H v d ∧ d.showable = true ∧ d.hasDict = false ∧ d.shown.length ≤ sizeLine ∧ d.depth ≤ 60 ∧ Q (.str d.shown) H
theorem cr_repr {X : Cx} (hG : X.A.guards = some []) (hu : X.A.units + 64 < cLine) : CallR X (.builtin "repr") (rRepr X.K) := by
  intro pn s τ H xs us Q I r hyp
  obtain ⟨v, d, rfl, hd, h1, h2, h3, h4, q⟩ := hyp
  obtain ⟨u, rfl, rv⟩ : ∃ u, us = [u] ∧ RelV v u := by obtain _ | ⟨r1, _ | _⟩ := r; exact ⟨_, rfl, r1⟩
  have hr := Dp.reads I d v u hd rv
  have go : ∀ (h' : Heap) (t tk : Tok), (∀ b o, s.heap.get? b = some o → h'.get? b = some o) → EP X pn τ Q (.str d.shown t) { s with heap := h', toks := tk } := fun h' t tk k => ⟨.str d.shown, H, I.kept (t' := tk) k, ⟨_, rfl⟩, q⟩
  cases hd with
  | non => cases rv; exact PySem.P.repr_of_none (go s.heap _ _ fun _ _ e => e)
  | bl b => cases rv; exact PySem.P.repr_of_bool (go s.heap _ _ fun _ _ e => e)
  | int i =>
    obtain ⟨t, rfl⟩ := rv
    exact PySem.P.repr_of_int (of_decide_eq_true h1) (go s.heap _ _ fun _ _ e => e)
  | str x =>
    obtain ⟨t, rfl⟩ := rv
    exact PySem.P.repr_of_str (go s.heap _ _ fun _ _ e => e) h3
  | lst hs ha =>
    cases rv
    obtain ⟨as, hr⟩ := hr
    exact PySem.repr_of_reads' hr h1 (fun e => by rw [h2] at e; cases e) hG (by omega) (fun _ _ e => e) (fun h' t tk k => go h' t tk k) h3
  | tup hs ha =>
    cases rv
    obtain ⟨as, hr⟩ := hr
    exact PySem.repr_of_reads' hr h1 (fun e => by rw [h2] at e; cases e) hG (by omega) (fun _ _ e => e) (fun h' t tk k => go h' t tk k) h3
/-- data that may be shown -/
structure Showy (d : PyData) : Prop where
  s : d.showable = true
  n : d.hasDict = false
  z : d.shown.length ≤ sizeLine
  p : d.depth ≤ 60
section
variable {K : PySem.W.Frag} {σ : L2.St} {G : Hp} {te : TE} {d : PyData}
theorem ed_repr (h : EvD K te σ G d) (hd : Showy d) : EvD K (tCB (rRepr K) (tCons te tNil)) σ G (.str d.shown) := fun H s Q q => h H s _ fun v G1 H1 n1 hv =>
  ⟨v, d, rfl, dp_mono n1.gh _ hv, hd.s, hd.n, hd.z, hd.p, q _ G1 H1 n1 (.str _)⟩
end
theorem ro_eqS {K : PySem.W.Frag} {i j : Str} : ROp K rEq (.str i) (.str j) (.bool (decide (i = j))) := fun G H s vx vy hx hy Q q => by
  rw [dp_str hx, dp_str hy]
  refine ⟨rfl, ?_⟩
  have e : decide (V.str i = V.str j) = decide (i = j) := by simp
  rw [e]
  exact q _ G H (Nx.refl s) (.bl _)
theorem ro_neS {K : PySem.W.Frag} {i j : Str} : ROp K rNe (.str i) (.str j) (.bool (!decide (i = j))) := fun G H s vx vy hx hy Q q => by
  rw [dp_str hx, dp_str hy]
  refine ⟨rfl, ?_⟩
  have e : decide (V.str i = V.str j) = decide (i = j) := by simp
  rw [e]
  exact q _ G H (Nx.refl s) (.bl _)

/-! ### the law's own call: told where it is made, so that what runs around is known -/
/-- the law's def, at the place where it is called: its body's reading, the script at a -/
def LawAt (P : Program) (w : World) (K : PySem.W.Frag) (mg : Str → Option Value) (x : Str) (st : Stmt) (N : List Str) (k : Nat) (f : Addr) (fd : FuncData) : Prop :=
  ∃ (S : FnScope N ["script"] (defScope st)), Fun K x x st f fd ∧ Binds K fd ["script"] [] ∧
    ∀ (base : Heap), K.In base → base.Ns mainGlobals mg → ∀ (cdv : Value) (s : Shared) (H : Hp) (a : Addr) (ns : List Int), Room k (callerA.deeper (envOfC x (defScope st) s.heap.objs.size f cdv)) → Only H → SqL K H a (ns.map V.int) → ns.length ≤ 63 →
      ∃ t, PSs (cxOf CX0 P w K mg base N x (defScope st) f cdv callerA [] s H E0).nox (defBody st) t ∧ t { nx := fun _ _ => V.non = V.bl true, rt := fun v _ => v = .bl true } (start N [.ref a]) H
/-- only the script's address may be told of in H -/
def ScriptHp (H : Hp) (a : Addr) (o : Obj) (ns : List Int) : Prop := ∀ b u, H b = some u → b = a ∧ u = .frz o (.lst (ns.map V.int))
theorem law_at {P : Program} {w : World} {K : PySem.W.Frag} {mg mb : Str → Option Value} {x : Str} {st : Stmt} {N : List Str} {k : Nat} {f a : Addr} {fd : FuncData} {s1 : Shared} {vs : List Value} {ns : List Int}
    (KX : K.In s1.heap) (hns : s1.heap.Ns mainGlobals mg) (hb : s1.heap.Ns builtinsNs mb) (hbb : ∀ y : Str, y ≠ "__name__" → mb y = bootBuiltins y) (hlim : s1.heap.NoLimit) (hgen : s1.gens = #[])
    (ha : s1.heap.get? a = some { cls := .type "list", data := .seq vs.toArray }) (hi : IntsAre vs ns) (h63 : ns.length ≤ 63) (hr : Room (k + 1) callerA) (L : LawAt P w K mg x st N k f fd) :
    codeAny (model P w) callerA (.call (.ref f) ⟨[.ref a], []⟩) (fun r s' => r = .ok (.ret (.bool true)) ∧ OldK s1.heap s'.heap ∧ s'.os = s1.os ∧ AllBare s'.gens) s1 := by
  obtain ⟨S, F, B, body⟩ := L
  have rv := vals_ints hi
  have lv := hi.length
  have hz : (ns.map V.int).length ≤ sizeLine := by rw [List.length_map]; exact Nat.le_trans h63 (by decide)
  have main : ∀ H : Hp, ScriptHp H a { cls := .type "list", data := .seq vs.toArray } ns → SqL K H a (ns.map V.int) → (H a ≠ none → K.lookup a = none) →
      codeAny (model P w) callerA (.call (.ref f) ⟨[.ref a], []⟩) (fun r s' => r = .ok (.ret (.bool true)) ∧ OldK s1.heap s'.heap ∧ s'.os = s1.os ∧ AllBare s'.gens) s1 := by
    intro H hH hS hK
    have only : Only H := fun b => by
      cases q : H b with
      | none => exact .inl rfl
      | some u => obtain ⟨_, rfl⟩ := hH b u q; exact .inr ⟨_, _, rfl⟩
    have ok : HOk P w H s1.heap := fun b u q => by
      obtain ⟨rfl, rfl⟩ := hH b u q
      exact ⟨ha, hz, vs, 0, rv, ha⟩
    have out : ∀ {b : Addr} {o : Obj}, s1.heap.get? b = some o → (b = a → H a = none) → (hidT s1.heap H).get? b = some o := fun {b o} e n => hidT_get e (by
      cases q : H b with
      | none => rfl
      | some u =>
        have e2 := (hH b u q).1
        rw [e2, n e2] at q
        cases q)
    have kin : K.In (hidT s1.heap H) := fun b o e => out (KX b o e) fun z => by
      cases q : H a with
      | none => rfl
      | some u =>
        have z2 := hK (by rw [q]; exact fun z => nomatch z)
        rw [z, z2] at e
        cases e
    have nsp : ∀ {b : Addr} {m : Str → Option Value}, s1.heap.Ns b m → (hidT s1.heap H).Ns b m := fun {b m} ⟨o, es, ep, e, d, r⟩ => ⟨o, es, ep, out e (fun z => by
      rw [z, ha] at e
      cases e
      cases d), d, r⟩
    have mod : Mod K mg (hidT s1.heap H) := ⟨kin, nsp hns, ⟨mb, nsp hb, hbb⟩, let ⟨mc, h1, h2⟩ := hlim; ⟨mc, nsp h1, h2⟩⟩
    have e0 : Env0 P w K mg (hidT s1.heap H) callerA [] s1 H := ⟨rfl, mod, fun _ _ e => of_hidT e, Nat.le_of_eq (hidT_size _ _), trivial, fun b z => absurd (show b ∈ ([] : List Addr) from z) List.not_mem_nil, ok, .of_eq hgen⟩
    obtain ⟨oc, od, kV, doc, pm, an, cdv, ct, osl, rfl, lk, hcd⟩ := F.ex
    have bt := B s1 [.ref a] KX rfl
    refine codeAny_mono (LamX.run_ofS (CX := CX0) (Q := fun v _ => v = .bl true) (E := E0) lk hcd S hr e0 bt (.cons rfl .nil : Vals [.ref a] [.ref a]) rfl fun hr2 => ?_) fun r s' hq => ?_
    · obtain ⟨t, h1, h2⟩ := body _ kin (nsp hns) cdv s1 H a ns hr2 only hS h63
      exact ⟨t, h1.nox, h2⟩
    · cases r with
      | error e => exact (show False from hq).elim
      | ok fl =>
        cases fl with
        | next => exact (show False from hq).elim
        | brk => exact (show False from hq).elim
        | cont => exact (show False from hq).elim
        | ret u =>
          obtain ⟨v, H2, hos, bare, un, ok2, ru, e⟩ := hq
          have e : v = .bl true := e
          subst e
          cases ru
          refine ⟨rfl, OldK.of_keep fun b o eb => ?_, hos, bare⟩
          cases q : H b with
          | none => exact un.keep b o eb q (fun z => nomatch z) (fun z => nomatch z)
          | some u =>
            obtain ⟨rfl, rfl⟩ := hH b u q
            obtain ⟨g1, _⟩ := ok _ _ q
            obtain ⟨g2, _⟩ := ok2 _ _ (un.frzs _ _ _ q)
            rw [eb] at g1
            cases g1
            exact g2
  cases hk : K.lookup a with
  | some o =>
    have e := KX a o hk
    rw [ha] at e
    cases e
    exact main (fun _ => none) (fun _ _ z => nomatch z) (.inr ⟨_, vs.toArray, _, hk, rfl, rfl, rfl, by rw [List.size_toArray, lv]; exact Nat.le_trans h63 (by decide), by simpa using rv⟩) (fun z => absurd rfl z)
  | none =>
    refine main (fun b => if b = a then some (.frz { cls := .type "list", data := .seq vs.toArray } (.lst (ns.map V.int))) else none) (fun b u q => ?_) (.inl (.inr ⟨_, if_pos rfl⟩)) fun _ => hk
    have q : (if b = a then some (HO.frz { cls := .type "list", data := .seq vs.toArray } (.lst (ns.map V.int))) else none) = some u := q
    by_cases hba : b = a
    · rw [if_pos hba] at q
      cases q
      exact ⟨hba, rfl⟩
    · rw [if_neg hba] at q
      cases q
end Gw
namespace Gw
open PySem PySem.Spec PyProof.Rows L2
/-- the goal that the head leaves -/
theorem walk_at {l : PySem.W.OpenLaw} {k : Nat} {q : Program} {loose : List Str} {XP : (Str → Option Value) → Heap → Prop} {YP : World → Heap → Prop} {d : DefRec} {K : Params → PySem.W.Frag} {st : Stmt} {N : List Str} (hn : l.most = some 63) (hdf : d.params.defaults = []) (hr : Room (k + 1) callerA)
    (hY : ∀ (w : World) (h : Heap), YP w h → (K w.params).In h)
    (F : ∀ (w : World) (mg : Str → Option Value) (fa : Addr) (h : Heap), (K w.params).In h → h.Ns mainGlobals mg → mg d.name = some (.ref fa) → ∃ fd : FuncData, LawAt l.prog w (K w.params) mg d.name st N k fa fd) :
    PySem.W.WalkO q loose XP YP l.row.toRowW d [] (fun f vs => PySem.call f vs) := by
  refine Att.attach_call hn hdf fun w s0 s1 mg mb fa o pm cd doc a vs ns G Y ho hd hcd hmg hobj hints hlen hg => ?_
  have KX := hY w _ Y
  obtain ⟨fd, L⟩ := F w mg fa _ KX G.T.g hmg
  exact law_at KX G.T.g G.T.b G.T.builtins G.T.nolimit hg hobj hints hlen hr L
end Gw
namespace Gw
open PySem PySem.Spec PyProof.Rows L2
/-! ### the rules with the written part named, so that they stand within a comprehension -/
def rLenQ (K : PySem.W.Frag) : List V → Hp → VK → Prop := fun xs H Q => ∃ p ys, xs = [.ref p] ∧ (SqL K H p ys ∨ SqT K H p ys) ∧ Q (.int ys.length) H
def rListQ (K : PySem.W.Frag) : List V → Hp → VK → Prop := fun xs H Q => ∃ p ys, xs = [.ref p] ∧ (SqL K H p ys ∨ SqT K H p ys) ∧ ∀ l, H l = none → Q (.ref l) (upd H l (.lst ys))
def rTupQ (K : PySem.W.Frag) : List V → Hp → VK → Prop := fun xs H Q => ∃ p ys, xs = [.ref p] ∧ ((SqL K H p ys ∧ ∀ l, H l = none → Q (.ref l) (upd H l (.tup ys))) ∨ (SqT K H p ys ∧ Q (.ref p) H))
section
variable (K : PySem.W.Frag) {X : Cx}
theorem q_len (e : X.K = K) : CallR X (.builtin "len") (rLenQ K) := by subst e; exact call_len_seq
theorem q_list (e : X.K = K) : CallR X (.type "list") (rListQ K) := by subst e; exact call_list_of
theorem q_tuple (e : X.K = K) : CallR X (.type "tuple") (rTupQ K) := by subst e; exact call_tuple_of
theorem q_isi (e : X.K = K) : CallR X (.builtin "isinstance") (rIsi K) := by subst e; exact call_isi
theorem q_all (e : X.K = K) (hc : X.calm = true) : CallR X (.builtin "all") (rAll K) := by subst e; exact cr_all hc
theorem q_any (e : X.K = K) (hc : X.calm = true) : CallR X (.builtin "any") (rAny K) := by subst e; exact cr_any hc
theorem q_min (e : X.K = K) (hc : X.calm = true) : CallR X (.builtin "min") (rMin K) := by subst e; exact cr_min hc
theorem q_repr (e : X.K = K) (hG : X.A.guards = some []) (hu : X.A.units + 64 < cLine) : CallR X (.builtin "repr") (rRepr K) := by subst e; exact cr_repr hG hu
theorem q_ixT (e : X.K = K) : IxR X (rIxT K) := by subst e; exact ix_tup
theorem q_ixL (e : X.K = K) : IxR X (rIxL K) := by subst e; exact ix_list
theorem q_slT (e : X.K = K) : SlR X (rSlA K) := by subst e; exact sl_tupA
theorem q_slL (e : X.K = K) : SlR X (rSlL K) := by subst e; exact sl_list
theorem q_catT (e : X.K = K) : OpR X (binaryOp .Add) (rCatA K) := by subst e; exact op_catA
theorem q_eqD (e : X.K = K) (hu : X.A.units + 64 < cLine) : OpR X (compareOp .Eq) (rEqD K) := by subst e; exact op_eqD hu
theorem q_neD (e : X.K = K) (hu : X.A.units + 64 < cLine) : OpR X (compareOp .NotEq) (rNeD K) := by subst e; exact op_neD hu
theorem q_in (e : X.K = K) : OpR X (compareOp .In) (rIn K false) := by subst e; exact op_in_seq
theorem q_notin (e : X.K = K) : OpR X (compareOp .NotIn) (rIn K true) := by subst e; exact op_notIn_seq
theorem q_gT {es : List Expr} {k : Nat} {pos : Pos} {t : TGs} (n : Nat) (e : X.K = K) (hc : X.calm = true) (h : PGs X es t) (hn : (assignEach es X.env).length = n := by rfl) (hst : (assignEach es X.env).findIdx? (·.1) = none := by rfl) :
    PG X (.Tuple es k pos) (gTup K n t) := by subst e; exact pg_tup hc h hn hst
theorem q_iL {tg l : Expr} {tl : TE} (e : X.K = K) (h : PE X l tl) : PI X tg l (iList K tl) := by subst e; exact pi_list h
theorem q_iT {tg l : Expr} {tl : TE} (e : X.K = K) (h : PE X l tl) : PI X tg l (iTup K tl) := by subst e; exact pi_tup h
theorem q_revT {e : Expr} {te : TE} {k : Nat} {p1 p2 p3 pos : Pos} (ek : X.K = K) (he : PE X e te) : PE X (.Subscript e (.Slice none none (some (.UnaryOp .USub (.Constant (.int 1) k p1) p2)) p3) pos) (tRevT K te) := by subst ek; exact pe_revT he
theorem q_revL {e : Expr} {te : TE} {k : Nat} {p1 p2 p3 pos : Pos} (ek : X.K = K) (he : PE X e te) : PE X (.Subscript e (.Slice none none (some (.UnaryOp .USub (.Constant (.int 1) k p1) p2)) p3) pos) (tRevL K te) := by subst ek; exact pe_revL he
theorem q_iEnT {e : Expr} {ta : TA} {p pos tpos : Pos} {elts : List Expr} {kk : Nat} (ek : X.K = K) (hg : Gl X "enumerate") (hm : X.mg "enumerate" = none) (ha : PA X [e] ta) (hs : starEach [e] X.env = [(false, eval e X.env)] := by rfl) :
    PI X (.Tuple elts kk tpos) (.Call (.Name "enumerate" p) [e] [] pos) (iEnT K ta) := by subst ek; exact pi_enumT hg hm ha hs
theorem q_iEnL {e : Expr} {ta : TA} {p pos tpos : Pos} {elts : List Expr} {kk : Nat} (ek : X.K = K) (hg : Gl X "enumerate") (hm : X.mg "enumerate" = none) (ha : PA X [e] ta) (hs : starEach [e] X.env = [(false, eval e X.env)] := by rfl) :
    PI X (.Tuple elts kk tpos) (.Call (.Name "enumerate" p) [e] [] pos) (iEnum K ta) := by subst ek; exact pi_enum hg hm ha hs
end
end Gw
namespace Gw
open PySem PySem.Spec PyProof.Rows L2
/-! ### min by a key that is a def: its length and itself, of rows of ints -/
/-- the promise of the key -/
def spRank (K : PySem.W.Frag) : Sp := fun vs H Q _ => ∃ (a : Addr) (xs : List V), vs = [.ref a] ∧ SqT K H a xs ∧ ∀ p, H p = none → Q (.ref p) (upd H p (.tup [.int xs.length, .ref a]))
def keyD (r : List Int) : PyData := .tuple [.int r.length, .tuple (r.map .int)]
def btR (rows : Nat → List Int) (i j : Nat) : Bool := PySem.W.dataLt (keyD (rows i)) (keyD (rows j))
def only1 (H : Hp) (r : Addr) : Hp := fun b => if b = r then H b else none
theorem only1_ne {H : Hp} {r b : Addr} (h : b ≠ r) : only1 H r b = none := if_neg h
theorem only1_same {H : Hp} {r : Addr} : only1 H r r = H r := if_pos rfl
theorem only1_none {H : Hp} {r b : Addr} (h : H b = none) : only1 H r b = none := by
  unfold only1
  split
  · exact h
  · rfl
theorem only1_le {H : Hp} {r b : Addr} {o : HO} (h : only1 H r b = some o) : b = r ∧ H b = some o := by
  unfold only1 at h
  split at h
  · exact ⟨by assumption, h⟩
  · cases h
theorem only1_tup {K : PySem.W.Frag} {H : Hp} {r : Addr} {xs : List V} (h : SqT K H r xs) : SqT K (only1 H r) r xs := by
  unfold SqT Rd at h ⊢
  rw [only1_same]
  exact h
section
variable {X : Cx} {pins : List (Addr × Obj)} {σ : L2.St} {H : Hp} {s : Shared} {f : Addr} {fd : FuncData} {ps : List Str} {k : Nat}
theorem tup_obj (I : Inv X pins σ H s) {r : Addr} {xs : List V} {u : HO} (h : SqT X.K H r xs) (e : H r = some u) : u = .tup xs ∨ ∃ o, u = .frz o (.tup xs) := by
  rcases h with (h | ⟨o, h⟩) | ⟨o, its, n, hk, _⟩
  · rw [e] at h; exact .inl (Option.some.inj h)
  · rw [e] at h; exact .inr ⟨o, Option.some.inj h⟩
  · have := (I.bs r o (I.ok.mod.kin r o hk)).2
    rw [e] at this; cases this
theorem only1_hok (I : Inv X pins σ H s) {r : Addr} {xs : List V} (h : SqT X.K H r xs) : HOk X.prog X.w (only1 H r) s.heap := fun b u e => by
  obtain ⟨rfl, e1⟩ := only1_le e
  have ok := I.hok b u e1
  rcases tup_obj I h e1 with rfl | ⟨o, rfl⟩
  · exact ok
  · exact ok
/-- the key is asked of one item: all else stands -/
theorem key_turn (F : FnOk X.prog X.w X.K X.mg X.base CX0 k f fd ps (spRank X.K)) (hb : Binds X.K fd ps []) (hr : Room k X.A.in1) (I : Inv X pins σ H s) {r : Addr} {ns : List Int} (h : SqT X.K H r (ns.map V.int)) {Q E : Value → Shared → Prop}
    (q : ∀ (p : Addr) (t : Tok) (s' : Shared), Inv X pins σ H s' → s.heap.get? p = none → IsTup s'.heap p #[.int ns.length t, .ref r] → (∀ b o, b ≠ r → s.heap.get? b = some o → ∃ sl, s'.heap.get? b = some { o with slots := sl }) →
      (∀ b o, H b = none → s.heap.get? b = some o → ∃ sl, s'.heap.get? b = some { o with slots := sl }) → (∀ b o, H b = none → b ∉ frs X.stack → s.heap.get? b = some o → s'.heap.get? b = some o) → Q (.ref p) s') :
    wpAny (model X.prog X.w) X.A.in1 (call (.ref f) [.ref r]) Q E s := by
  have e0 := I.env0.in1
  have e1 : Env0 X.prog X.w X.K X.mg X.base X.A.in1 X.stack s (only1 H r) := ⟨e0.frames, e0.mod, fun b o e => ⟨(e0.bs b o e).1, only1_none (e0.bs b o e).2⟩, e0.bsz, e0.funs, fun b hb => only1_none (e0.frf b hb), only1_hok I h, e0.bare⟩
  let Qc : VK := fun v H' => ∃ p, v = .ref p ∧ only1 H r p = none ∧ H' = upd (only1 H r) p (.tup [.int (ns.map V.int).length, .ref r])
  have hs : spRank X.K [.ref r] (only1 H r) Qc (fun _ _ _ => False) := ⟨r, ns.map V.int, rfl, only1_tup h, fun p hp => ⟨p, rfl, hp, rfl⟩⟩
  have hl : ([Value.ref r] ++ []).length = ps.length := (F.len _ _ _ _ hs)
  have rr0 : Vals [V.ref r] ([Value.ref r] ++ []) := .cons rfl .nil
  refine wpAny_call (codeAny_mono (F.run X.A.in1 X.stack s (only1 H r) ⟨[.ref r], []⟩ ([Value.ref r] ++ []) [.ref r] Qc (fun _ _ _ => False) hr e1 (hb s [.ref r] I.kIn hl) rr0 hs) fun rr s' hq => ?_)
  cases rr with
  | error e => exact False.elim hq
  | ok fl =>
    cases fl with
    | next => exact False.elim hq
    | brk => exact False.elim hq
    | cont => exact False.elim hq
    | ret u =>
      obtain ⟨v', H', os, bare, un, hok, rv, p, rfl, hp, rfl⟩ := (show CE X.stack X.prog X.w (only1 H r) s Qc u s' from hq)
      cases rv
      have np : s.heap.get? p = none := by
        cases z : s.heap.get? p with
        | none => rfl
        | some o =>
          have := un.free p o z hp (by simp)
          rw [upd_same] at this; cases this
      have hHp : H p = none := I.hok.gone np
      have slots : ∀ b o, only1 H r b = none → s.heap.get? b = some o → ∃ sl, s'.heap.get? b = some { o with slots := sl } := fun b o n e => un.any e n (by simp)
      have keep : ∀ b o, only1 H r b = none → b ∉ frs X.stack → s.heap.get? b = some o → s'.heap.get? b = some o := fun b o n hf e => un.keep b o e n hf (by simp)
      have hok2 : HOk X.prog X.w H s'.heap := fun b u e => by
        by_cases hbr : b = r
        · subst hbr
          have e2 : only1 H b b = some u := only1_same.trans e
          have pb : b ≠ p := fun z => by rw [z] at e; rw [hHp] at e; cases e
          rcases tup_obj I h e with rfl | ⟨o, rfl⟩
          · exact hok b _ ((upd_ne pb).trans e2)
          · exact hok b _ ((upd_ne pb).trans e2)
        · refine (I.hok b u e).stay (fun c v hc z => keep c v ?_ ?_ z) (fun _ z => z) fun _ _ z => z
          · rcases hc with z | z
            · rw [z]; exact only1_ne hbr
            · refine only1_ne fun z2 => ?_
              subst z2
              rcases tup_obj I h z with z3 | ⟨o, z3⟩
              · cases z3
              · cases z3
          · intro z2
            have := I.stkFree c z2
            rcases hc with z | z
            · rw [z, e] at this; cases this
            · rw [z] at this; cases this
      have I2 : Inv X pins σ H s' := I.call' os ⟨fun b o e n hf hx => un.keep b o e (only1_none n) hf hx, fun b o e n hf hx => un.slot b o e (only1_none n) hf hx, fun b o e n _ => n, fun b o e hx => un.there b o e hx, fun _ _ z => z, fun _ _ _ z => z, fun _ ps' z => ⟨#[], by rw [z]; simp⟩⟩ hok2 bare (fun b z => absurd z (by simp))
      obtain ⟨_, its, rits, pt⟩ := hok p _ upd_same
      obtain ⟨u1, u2, rfl, ⟨t, rfl⟩, r2⟩ := vals2 rits
      cases r2
      rw [List.length_map] at pt
      exact q p t s' I2 np pt (fun b o hb e => slots b o (only1_ne hb) e) (fun b o hb e => slots b o (only1_none hb) e) fun b o hb hf e => keep b o (only1_none hb) hf e
theorem reads_row (I : Inv X pins σ H s) {r : Addr} {ns : List Int} (h : SqT X.K H r (ns.map V.int)) : ∃ as, Reads s.heap (.ref r) (.tuple (ns.map .int)) as :=
  Dp.reads I _ (.ref r) (.ref r) (.tup h (dpa_ints ns)) rfl
theorem reads_key (I : Inv X pins σ H s) {r p : Addr} {t : Tok} {ns : List Int} (h : SqT X.K H r (ns.map V.int)) (hp : IsTup s.heap p #[.int ns.length t, .ref r]) : ∃ as, Reads s.heap (.ref p) (keyD ns) as := by
  obtain ⟨as, hr⟩ := reads_row I h
  obtain ⟨o, e, c, n, d⟩ := hp
  exact ⟨_, .tuple e c d (.cons (.int _ _) (.cons hr .nil))⟩
theorem alike_ints : ∀ (a b : List Int), PySem.W.alikeAll (a.map PyData.int) (b.map PyData.int) = true
  | [], _ => by simp [PySem.W.alikeAll]
  | _ :: _, [] => by simp [PySem.W.alikeAll]
  | x :: a, y :: b => by
    show (PySem.W.alike (.int x) (.int y) && PySem.W.alikeAll (a.map PyData.int) (b.map PyData.int)) = true
    rw [alike_ints a b]
    simp [PySem.W.alike]
theorem alike_key (a b : List Int) : PySem.W.alike (keyD a) (keyD b) = true := by
  show (PySem.W.alike (.int a.length) (.int b.length) && (PySem.W.alike (.tuple (a.map .int)) (.tuple (b.map .int)) && PySem.W.alikeAll [] [])) = true
  have e : PySem.W.alike (.tuple (a.map .int)) (.tuple (b.map .int)) = PySem.W.alikeAll (a.map PyData.int) (b.map PyData.int) := by simp [PySem.W.alike]
  rw [e, alike_ints]
  simp [PySem.W.alike, PySem.W.alikeAll]
/-- what is walked: a list or a tuple of rows -/
structure Walked (X : Cx) (a it : Addr) (its : List Value) (St : Nat → Shared → Prop) : Prop where
  W : WalksS X.prog X.w X.A.in1 it [it, a] [it] (fun a b => b = a) its.toArray.size (fun i v => its.toArray[i]? = some v) St
  stay : ∀ i s s', St i s → (∀ b o, b ∈ [it, a] → s.heap.get? b = some o → ∃ sl, s'.heap.get? b = some { o with slots := sl }) → St i s'
  here : ∀ i s, St i s → ∃ o, s.heap.get? it = some o
theorem min_core (F : FnOk X.prog X.w X.K X.mg X.base CX0 k f fd ps (spRank X.K)) (hb : Binds X.K fd ps []) (hr : Room (k + 1) X.A) (I : Inv X pins σ H s) {a : Addr} {xs : List V} {its : List Value} {rows : Nat → List Int} (rv : Vals xs its)
    (hx : ∀ i x, xs[i]? = some x → ∃ r, x = .ref r ∧ SqT X.K H r ((rows i).map V.int)) (hn : 0 < xs.length) (hne : ∀ (i : Nat) (r : Addr), xs[i]? = some (V.ref r) → r ≠ a) {o : Obj} {St : Nat → Shared → Prop} (L : Walked X a s.heap.objs.size its St) {s₂ : Shared}
    (e2 : s₂ = { s with heap := s.heap.push o }) (st : St 0 s₂) (hfp : ∀ b ∈ [s.heap.objs.size, a], b < s₂.heap.objs.size) {Q : VK} (q : ∀ x, xs[argBest (btR rows) (xs.length - 1)]? = some x → Q x H) :
    ∃ I' fp wr G n P St' J V' bt, (.ref s.heap.objs.size : Value) = .ref I' ∧ WalksS X.prog X.w X.A.in1 I' fp wr G n P St' ∧ St' 0 s₂ ∧ (∀ b ∈ fp, b < s₂.heap.objs.size) ∧ 0 < n ∧
      KeyRun X.prog X.w X.A.in1 (.ref f) .Lt s₂.heap.objs.size wr G n P St' J V' bt ∧ J s₂ ∧ ∀ v s', P (argBest bt (n - 1)) v → J s' → EP X pins σ Q v s' := by
  have hsz : s₂.heap.objs.size = s.heap.objs.size + 1 := by rw [e2]; exact Heap.size_push _ _
  have I2 : Inv X pins σ H s₂ := by rw [e2]; exact I.kept (t' := s.toks) fun b u e => Heap.get?_push_of_some _ e
  have fI : FpOk X pins H s.heap.objs.size := I.fpOk (Nat.le_refl _) (I.hok.fresh (Nat.le_refl _))
  have fS : FpOk X pins H s₂.heap.objs.size := I.fpOk (by omega) (I.hok.fresh (by omega))
  have hlen : its.toArray.size = xs.length := by rw [List.size_toArray, rv.length]
  have moved : ∀ s1 s', Inv X pins σ H s1 → Moved (s₂.heap.objs.size :: [s.heap.objs.size]) (fun a b => b = a) s1 s' → Inv X pins σ H s' := fun s1 s' I1 m => by
    have z := I1.turnedL (h' := s'.heap) (t' := s'.toks) (ch := [s₂.heap.objs.size, s.heap.objs.size]) (fun b o hb e => m.heap b o hb e) (fun b hb => by
      rcases List.mem_cons.mp hb with rfl | hb
      · exact fS
      · rw [List.mem_singleton.mp hb]; exact fI)
    obtain ⟨h', g', d', t', o'⟩ := s'
    have g1 : g' = s1.gens := m.gens
    have g2 : d' = s1.drawn := m.drawn
    have g3 : o' = s1.os := m.os
    subst g1; subst g2; subst g3
    exact z
  refine ⟨_, _, _, _, _, _, St, fun s' => Inv X pins σ H s', fun i v s' => ∃ p r t, v = .ref p ∧ p ≠ s₂.heap.objs.size ∧ p ≠ s.heap.objs.size ∧ H p = none ∧ xs[i]? = some (.ref r) ∧ IsTup s'.heap p #[.int (rows i).length t, .ref r], btR rows, rfl, L.W, st, hfp, by omega, ⟨?_, ?_, ?_, ?_⟩, I2, ?_⟩
  · exact fun s1 s' J m => moved s1 s' J m
  · rintro i v s1 s' ⟨p, r, t, rfl, h1, h2, h3, h4, o, e, c, n, d⟩ m
    exact ⟨p, r, t, rfl, h1, h2, h3, h4, o, m.heap p o (by simp [h1, h2]) e, c, n, d⟩
  · intro i v s1 ob Q1 E1 hi hP J hst hS hq
    rw [hlen] at hi
    obtain ⟨x, hxi⟩ : ∃ x, xs[i]? = some x := ⟨_, List.getElem?_eq_getElem hi⟩
    obtain ⟨r, rfl, hrow⟩ := hx i x hxi
    obtain ⟨u, hu, ru⟩ := rv.get hxi
    cases ru
    have hv : v = .ref r := by
      have : its[i]? = some v := by simpa using hP
      rw [hu] at this; exact (Option.some.inj this).symm
    subst hv
    refine key_turn F hb hr.in1 J hrow fun p t s' J' np pt others slots lits => ?_
    have ra : r ≠ a := hne i r hxi
    have hit : ∃ o, s1.heap.get? s.heap.objs.size = some o := L.here _ _ hst
    refine hq _ _ J' (L.stay _ _ _ hst fun b o hb e => ?_) ?_ ⟨p, r, t, rfl, ?_, ?_, J.hok.gone np, hxi, pt⟩ ?_
    · rcases List.mem_cons.mp hb with rfl | hb
      · exact slots _ o fI.1 e
      · rw [List.mem_singleton.mp hb] at e ⊢
        exact others a o (Ne.symm ra) e
    · refine lits _ ob fS.1 (fun z => ?_) hS
      rcases List.mem_cons.mp (J.stkSub _ z) with e | e
      · exact fS.2.1 e
      · exact fS.2.2.1 e
    · rintro rfl
      rw [np] at hS; cases hS
    · rintro rfl
      obtain ⟨o, e⟩ := hit
      rw [np] at e; cases e
    · rintro j k' ⟨p', r', t', rfl, h1, h2, h3, h4, o, e, c, n, d⟩
      obtain ⟨sl, e'⟩ := slots p' o h3 e
      exact ⟨p', r', t', rfl, h1, h2, h3, h4, _, e', c, n, d⟩
  · rintro i j ki kj s1 Q1 E1 J ⟨p, r, t, rfl, _, _, _, hi, pt⟩ ⟨p', r', t', rfl, _, _, _, hj, pt'⟩ hq
    obtain ⟨r1, z1, row1⟩ := hx i _ hi
    obtain ⟨r2, z2, row2⟩ := hx j _ hj
    cases z1
    cases z2
    obtain ⟨as1, rd1⟩ := reads_key J row1 pt
    obtain ⟨as2, rd2⟩ := reads_key J row2 pt'
    refine PySem.W.rcLt_alike _ _ _ s1 _ _ _ _ rd1 rd2 (alike_key _ _) (fun z => nomatch z) ?_ X.prog X.w E1 Q1 hq
    have dp : ∀ ns : List Int, PyData.depthAll (ns.map PyData.int) = 0 := fun ns => by
      induction ns with
      | nil => rfl
      | cons n r ih => rw [List.map_cons, PyData.depthAll, ih]; rfl
    have dk : (keyD (rows i)).depth ≤ 4 := by
      unfold keyD
      simp [PyData.depth, PyData.depthAll, dp]
    have := Nat.min_le_left (keyD (rows i)).depth (keyD (rows j)).depth
    have hu := hr.in1.units
    omega
  · intro v s' hP J
    have hP' : its.toArray[argBest (btR rows) (its.toArray.size - 1)]? = some v := hP
    rw [hlen] at hP'
    have hv : its[argBest (btR rows) (xs.length - 1)]? = some v := by simpa using hP'
    obtain ⟨x, hx1, hx2⟩ : ∃ x, xs[argBest (btR rows) (xs.length - 1)]? = some x ∧ RelV x v := by
      have hl : argBest (btR rows) (xs.length - 1) < xs.length := by
        have z := (List.getElem?_eq_some_iff.mp hv).1
        have z2 := rv.length
        omega
      obtain ⟨u, hu, ru⟩ := rv.get (List.getElem?_eq_getElem hl)
      rw [hv] at hu
      cases hu
      exact ⟨_, List.getElem?_eq_getElem hl, ru⟩
    exact ⟨x, H, J, hx2, q x hx1⟩
def rMinKey (K : PySem.W.Frag) (f : Addr) : List V → List V → Hp → VK → Prop := fun vs zs H Q => ∃ (a : Addr) (xs : List V) (rows : Nat → List Int), vs = [V.ref a] ∧ zs = [V.ref f] ∧ (SqL K H a xs ∨ SqT K H a xs) ∧ 0 < xs.length ∧
  (∀ i x, xs[i]? = some x → ∃ r, x = .ref r ∧ SqT K H r ((rows i).map V.int)) ∧ ∀ x, xs[argBest (btR rows) (xs.length - 1)]? = some x → Q x H
theorem cr_minKey (F : FnOk X.prog X.w X.K X.mg X.base CX0 k f fd ps (spRank X.K)) (hb : Binds X.K fd ps []) (hr : Room (k + 1) X.A) : CallRK X (.builtin "min") [Str.ofString "key"] (rMinKey X.K f) := by
  intro pins s σ H vs zs us ws Q I rv rz h
  obtain ⟨a, xs, rows, rfl, rfl, hs, hn, hx, q⟩ := h
  obtain rfl := Vals.ref1 rv
  obtain ⟨w1, rfl, e1⟩ := vals1 rz
  obtain rfl : w1 = Value.ref f := e1
  show wpAny (model X.prog X.w) X.A (call (.builtin "min") [.ref a] [(Str.ofString "key", .ref f)]) _ _ s
  refine PySem.call_min_walkK ?_
  rcases hs with hs | hs
  · obtain ⟨its, r, pl, z⟩ := I.list hs
    have alt : a < s.heap.objs.size := by obtain ⟨o, _, e, _⟩ := pl; exact Heap.lt_size e
    refine PySem.W.iter_listW (A := X.A.in1) hr.hd pl.isList fun s₂ e W st hfp hw hk => ?_
    refine min_core F hb hr I r hx hn (fun i b hi z => ?_) ⟨W, ?_, ?_⟩ e st hfp q
    · subst z
      obtain ⟨_, h1, h2⟩ := hx i _ hi
      cases h1
      obtain ⟨_, _, ⟨o, e, c, _⟩, _⟩ := I.tuple h2
      obtain ⟨o', e', c', _⟩ := pl.isList
      rw [e] at e'
      cases e'
      rw [c] at c'
      exact absurd (Value.type.inj c') (by decide)
    · rintro i s1 s1' ⟨⟨o, e, c, d⟩, ⟨o2, e2, c2, n2, d2⟩⟩ hk
      obtain ⟨sl, e'⟩ := hk _ o (by simp) e
      obtain ⟨sl2, e2'⟩ := hk _ o2 (by simp) e2
      exact ⟨⟨_, e', c, d⟩, ⟨_, e2', c2, n2, d2⟩⟩
    · rintro i s1 ⟨⟨o, e, _⟩, _⟩
      exact ⟨o, e⟩
  · obtain ⟨its, r, pl, z⟩ := I.tuple hs
    have hl : s.heap.IsTuple a its.toArray := pl
    refine PySem.W.iter_tupleW (A := X.A.in1) hr.hd hl fun s₂ e W st hfp hw hk => ?_
    refine min_core F hb hr I r hx hn (fun i b hi z => ?_) ⟨W, ?_, ?_⟩ e st hfp q
    · subst z
      obtain ⟨_, h1, h2⟩ := hx i _ hi
      cases h1
      have := I.tuple_inj hs h2
      rw [this] at hi
      rw [List.getElem?_map] at hi
      cases z : (rows i)[i]? with
      | none => rw [z] at hi; cases hi
      | some v => rw [z] at hi; cases hi
    · rintro i s1 s1' ⟨⟨o, e, c, d⟩, ⟨o2, e2, c2, n2, d2⟩⟩ hk
      obtain ⟨sl, e'⟩ := hk _ o (by simp) e
      obtain ⟨sl2, e2'⟩ := hk _ o2 (by simp) e2
      exact ⟨⟨_, e', c, d⟩, ⟨_, e2', c2, n2, d2⟩⟩
    · rintro i s1 ⟨⟨o, e, _⟩, _⟩
      exact ⟨o, e⟩
end
end Gw
namespace PySem.W
open PySem PySem.Calls PyProof.Rows PySem.SeqAt
section
variable {prog : Program} {w : World} {A : Around} {s : Shared} {E : Value → Shared → Prop}
/-- () < () by the tuples' own comparison -/
theorem gw_lt_none {l b : Addr} (hl : s.heap.IsTuple l #[]) (hb : s.heap.IsTuple b #[]) {Q : Value → Shared → Prop} (h : Q (.bool false) s) : wpAny (model prog w) A (call (.builtin "tuple.__lt__") [.ref l, .ref b]) Q E s := by
  obtain ⟨⟨cls, dd, data, sl⟩, ho, hc, n, hd⟩ := id hl
  obtain ⟨⟨cls2, dd2, data2, sl2⟩, ho2, hc2, n2, hd2⟩ := id hb
  simp only at hc hd hc2 hd2
  subst hc hd hc2 hd2
  exact call_meets F.slot_tuple_lt ⟨_, ho, rfl⟩ F.entry_tuple_lt (F.args_tuple_lt_2 _ _) (tuple_ltAt l b #[] #[] n n2 dd dd2 sl sl2 (fun _ => true) fun _ => true) ⟨ho, ho2, fun j h1 => absurd h1 (Nat.not_lt_zero _), fun j h1 => absurd h1 (Nat.not_lt_zero _), h⟩
theorem gw_reads_none {h : Heap} {v : Value} {as : List Addr} (r : Reads h v (.tuple []) as) : ∃ a, v = .ref a ∧ h.IsTuple a #[] := by
  cases r with
  | @tuple a o xs n _ _ h1 h2 h3 h4 =>
    cases q : xs.toList with
    | nil =>
      have : xs = #[] := by
        apply Array.ext'
        simpa using q
      subst this
      exact ⟨a, rfl, o, h1, h2, n, h3⟩
    | cons f fr => rw [q] at h4; cases h4
/-- rows without items can be sorted -/
theorem gw_sorts_none {vs : List Value} {ds : List PyData} (e : EachIs (fun v d => ∃ as, Reads s.heap v d as) vs ds) (hd : ∀ d, d ∈ ds → d = .tuple []) (hu : A.units + 1 < cLine) : SortsAt prog w A s (dataKind s.heap ds) vs := by
  have hal : AllAlike ds := fun d h d' h' => by rw [hd d h, hd d' h']; simp [alike, alikeAll]
  have ht : ∀ v, v ∈ vs → ∃ a, v = .ref a ∧ s.heap.IsTuple a #[] := fun v hv => by
    obtain ⟨d, m, as, r⟩ := e.left v hv
    rw [hd d m] at r
    exact gw_reads_none r
  refine ⟨fun v hv => ?_, oneType', ?_, fun h2 E Q hq => ?_⟩
  · obtain ⟨d, m, as, r⟩ := e.left v hv
    exact ⟨_, dataKind_some hal m r⟩
  · intro E x y a b Q ha hb hq
    obtain ⟨d, as, m, ra, rfl⟩ := dataKind_inv ha
    obtain ⟨d', as', m', rb, rfl⟩ := dataKind_inv hb
    rw [hd d m] at ra hq
    rw [hd d' m'] at rb hq
    obtain ⟨p, rfl, hp⟩ := gw_reads_none ra
    obtain ⟨p', rfl, hp'⟩ := gw_reads_none rb
    have hq' : Q (dataLt (.tuple []) (.tuple [])) s := hq
    rw [show dataLt (.tuple []) (.tuple []) = false from lex_irrefl _] at hq'
    rw [keyLt'_oneType, oneLt'_eq]
    simp only [if_true]
    refine wpAny_bind (wpAny_cRoomFor (by omega) ?_)
    refine wpAny_bind (wpAny_callSpecialIfBound?_slot (T := "tuple") (by obtain ⟨o, h1, h2, _⟩ := hp; exact ⟨_, h1, h2⟩) F.slot_tuple_lt (gw_lt_none hp hp' ?_))
    exact wpAny_truthy_bool hq'
  · have hty : ∀ v ∈ vs, Looks (model prog w) s.heap (typeOf v) (Value.type "tuple") := fun v hv => by
      obtain ⟨a, rfl, o, h1, h2, _⟩ := ht v hv
      show Looks _ s.heap (typeOf (Value.ref _)) (Value.type "tuple")
      exact h2 ▸ (Looks.ld h1).andThen .now
    obtain ⟨v₁, v₂, rest, rfl⟩ : ∃ v₁ v₂ rest, vs = v₁ :: v₂ :: rest := by
      match vs, h2 with
      | [], h2 => simp at h2
      | [_], h2 => simp at h2
      | v₁ :: v₂ :: rest, _ => exact ⟨v₁, v₂, rest, rfl⟩
    rw [keyKind'_eq, List.mapM_toArray, map_eq_pure_bind]
    refine wpAny_bind (wpAny_bind (kas_mapM (r := none) _ (fun v hv Q' hq => ?_) (wpAny_pure ?_)))
    · rw [kas_first_eq]
      refine wpAny_bind ((hty v hv).here ?_)
      rw [if_neg (by decide)]
      obtain ⟨a, rfl, o, h1, h2, n, h3⟩ := ht v hv
      refine wpAny_bind (listItems_at h1 h3 (wpAny_pure ?_))
      exact hq
    · rw [if_neg (by simp), if_neg (by simp)]
      rw [oneTypeOnly'_eq, List.mapM_toArray, map_eq_pure_bind]
      refine wpAny_bind (wpAny_bind (wpAny_bind (kas_mapM (r := Value.type "tuple") _ (fun v hv Q' hq => (hty v hv).here hq) (wpAny_pure ?_))))
      have hall : ((List.map (fun _ => Value.type "tuple") (v₁ :: v₂ :: rest)).toArray.all fun x => x == Value.type "tuple") = true := by
        simp only [List.all_toArray, List.all_map, List.all_eq_true]
        intro _ _
        exact beq_self_eq_true _
      have h0 : (List.map (fun _ => Value.type "tuple") (v₁ :: v₂ :: rest)).toArray[0]? = some (Value.type "tuple") := by simp
      rw [h0]
      simp only [hall, if_true]
      exact wpAny_pure (wpAny_pure hq)
end
end PySem.W

namespace Gw
open PySem PySem.Spec PyProof.Rows L2 PySem.Calls
open PySem.W (EachIs sortingHeap sorting_copy_old copyHeap)
/-- sorted(l) of rows of ints of one length: the first one is the least -/
def rSortRows (K : PySem.W.Frag) : List V → Hp → VK → Prop := fun vs H Q => ∃ (a : Addr) (ys : List V) (rows : Nat → List Int) (L : Nat), vs = [V.ref a] ∧ SqL K H a ys ∧ (∀ i x, ys[i]? = some x → (rows i).length = L ∧ ∃ r, x = V.ref r ∧ SqT K H r ((rows i).map V.int)) ∧
  ∀ p zs, H p = none → zs.length = ys.length → (0 < ys.length → ∃ (j : Nat) (x : V), zs[0]? = some x ∧ ys[j]? = some x ∧ ∀ i, i < ys.length → ¬ rows i < rows j) → Q (.ref p) (upd H p (.lst zs))
section
variable {X : Cx} {pins : List (Addr × Obj)} {σ : L2.St} {H : Hp} {s : Shared}
theorem each_of {α β : Type} {R : α → β → Prop} : ∀ {as : List α} {bs : List β}, as.length = bs.length → (∀ (i : Nat) a b, as[i]? = some a → bs[i]? = some b → R a b) → EachIs R as bs
  | [], [], _, _ => .nil
  | a :: as, b :: bs, hl, h => .cons (h 0 a b rfl rfl) (each_of (by simpa using hl) fun i x y e1 e2 => h (i + 1) x y (by simpa using e1) (by simpa using e2))
  | [], _ :: _, hl, _ => by simp at hl
  | _ :: _, [], hl, _ => by simp at hl
theorem dataLe_rowsT (rows : Nat → List Int) : PySem.W.dataLe false (fun i => PyData.tuple ((rows i).map .int)) = fun p q => !decide (rows q < rows p) := by
  funext a b
  show (!PySem.W.dataLt (.tuple ((rows b).map .int)) (.tuple ((rows a).map .int))) = _
  rw [PySem.W.dataLt_tuple]
  exact congrArg (!·) (PySem.W.dataLt_ints (rows b) (rows a))
theorem sort_first (rows : Nat → List Int) {n : Nat} (hn : 0 < n) : ∃ j, ((List.range n).mergeSort (fun p q => !decide (rows q < rows p)))[0]? = some j ∧ j < n ∧ ∀ i, i < n → ¬ rows i < rows j := by
  have hs := List.pairwise_mergeSort (le := fun p q => !decide (rows q < rows p)) (fun a b c h1 h2 => by
      have h1 : ¬ rows b < rows a := by simpa using h1
      have h2 : ¬ rows c < rows b := by simpa using h2
      have := List.le_trans (show rows a ≤ rows b from h1) (show rows b ≤ rows c from h2)
      simpa using (show ¬ rows c < rows a from this)) (fun a b => by
      rcases List.le_total (rows a) (rows b) with h | h
      · have h : ¬ rows b < rows a := h
        simp [h]
      · have h : ¬ rows a < rows b := h
        simp [h]) (List.range n)
  have hp := List.mergeSort_perm (List.range n) (fun p q => !decide (rows q < rows p))
  generalize (List.range n).mergeSort (fun p q => !decide (rows q < rows p)) = l at hs hp
  cases l with
  | nil =>
    have := hp.length_eq
    simp at this
    omega
  | cons j l =>
    refine ⟨j, rfl, ?_, fun i hi => ?_⟩
    · have := hp.mem_iff.mp (List.mem_cons_self (a := j) (l := l))
      simpa using this
    · have hm : i ∈ j :: l := hp.mem_iff.mpr (by simpa using hi)
      rcases List.mem_cons.mp hm with rfl | hm
      · exact List.lt_irrefl _
      · have := (List.pairwise_cons.mp hs).1 i hm
        simpa using this
theorem cr_sortRows (hu : X.A.units + 64 < cLine) : CallR X (.builtin "sorted") (rSortRows X.K) := by
  intro pins s σ H vs us Q I rv h
  obtain ⟨a, ys, rows, L, rfl, hs, hx, q⟩ := h
  obtain rfl := Vals.ref1 rv
  obtain ⟨its, r, pl, z⟩ := I.list hs
  have hl : s.heap.IsList a its.toArray := pl.isList
  have n0 : its.length = ys.length := r.length.symm
  let enc : Nat → PyData := fun i => .tuple ((rows i).map .int)
  let R : Value → Nat → Prop := fun v i => ∃ x, ys[i]? = some x ∧ RelV x v
  have bl : (List.range ys.length).length = ys.length := by simp
  have item : ∀ (i : Nat) v b, its[i]? = some v → (List.range ys.length)[i]? = some b → b = i ∧ R v i ∧ ∃ as, Reads s.heap v (enc i) as := fun i v b h1 h2 => by
    have hi : i < ys.length := by rw [← n0]; exact (List.getElem?_eq_some_iff.mp h1).1
    have hb : b = i := by
      rw [List.getElem?_range hi] at h2
      exact (Option.some.inj h2).symm
    obtain ⟨u, hu, ru⟩ := r.get (List.getElem?_eq_getElem hi)
    rw [h1] at hu
    cases hu
    obtain ⟨_, p, e, hr⟩ := hx i _ (List.getElem?_eq_getElem hi)
    refine ⟨hb, ⟨_, List.getElem?_eq_getElem hi, ru⟩, ?_⟩
    rw [e] at ru
    cases ru
    exact reads_row I hr
  have e : EachIs R its (List.range ys.length) := each_of (by rw [bl, n0]) fun i v b h1 h2 => by
    obtain ⟨rfl, h3, _⟩ := item i v b h1 h2
    exact h3
  have er : EachIs (fun v b => ∃ as, Reads s.heap v (enc b) as) its (List.range ys.length) := each_of (by rw [bl, n0]) fun i v b h1 h2 => by
    obtain ⟨rfl, _, h3⟩ := item i v b h1 h2
    exact h3
  have dp : ∀ ns : List Int, PyData.depthAll (ns.map PyData.int) = 0 := fun ns => by
    induction ns with
    | nil => rfl
    | cons n r ih => rw [List.map_cons, PyData.depthAll, ih]; rfl
  have hlen : ∀ i, i < ys.length → (rows i).length = L := fun i hi => (hx i _ (List.getElem?_eq_getElem hi)).1
  have fin : ∀ out : List Value, out.length = ys.length → EachIs R out ((List.range ys.length).mergeSort (PySem.W.dataLe false enc)) → EP X pins σ Q (.ref (s.heap.objs.size + 1)) { s with heap := sortedAll s.heap its (List.toArray out) } := fun out ho he => by
    obtain ⟨zs, hz1, hz2⟩ : ∃ zs : List V, Vals zs out ∧ ∀ (i : Nat) (v : Value) (b : Nat), out[i]? = some v → ((List.range ys.length).mergeSort (PySem.W.dataLe false enc))[i]? = some b → ∃ x, zs[i]? = some x ∧ ys[b]? = some x := by
      clear ho
      generalize (List.range ys.length).mergeSort (PySem.W.dataLe false enc) = bs at he
      induction he with
      | nil => exact ⟨[], .nil, fun i v b h => by simp at h⟩
      | cons h t ih =>
        obtain ⟨zs, k1, k2⟩ := ih
        obtain ⟨x, h1, h2⟩ := h
        refine ⟨x :: zs, .cons h2 k1, fun i v b e1 e2 => ?_⟩
        cases i with
        | zero =>
          have : b = _ := (Option.some.inj e2).symm
          subst this
          exact ⟨x, rfl, h1⟩
        | succ i => exact k2 i v b (by simpa using e1) (by simpa using e2)
    obtain ⟨ep, he'⟩ := sortedAll_at s.heap its (List.toArray out)
    have zl : zs.length = ys.length := by rw [hz1.length, ho]
    refine ⟨.ref _, upd H (s.heap.objs.size + 1) (.lst zs), I.laid (t' := s.toks) (fun _ _ => sortedAll_old) (Nat.le_succ _) ⟨by omega, out, ep, hz1, he'⟩, rfl, q _ _ (I.hok.fresh (Nat.le_succ _)) zl fun hn => ?_⟩
    rw [dataLe_rowsT] at hz2
    obtain ⟨j, h1, h2, h3⟩ := sort_first rows hn
    obtain ⟨v, hv⟩ : ∃ v, out[0]? = some v := ⟨_, List.getElem?_eq_getElem (by omega)⟩
    obtain ⟨x, k1, k2⟩ := hz2 0 v j hv h1
    exact ⟨j, x, k1, k2, h3⟩
  have hal : PySem.W.AllAlike ((List.range ys.length).map enc) := fun d hd d' hd' => by
    obtain ⟨i, _, rfl⟩ := List.mem_map.mp hd
    obtain ⟨j, _, rfl⟩ := List.mem_map.mp hd'
    have e : PySem.W.alike (enc i) (enc j) = PySem.W.alikeAll ((rows i).map PyData.int) ((rows j).map PyData.int) := by simp [enc, PySem.W.alike]
    rw [e, alike_ints]
  have hdep : ∀ i, (enc i).depth ≤ 2 := fun i => by
    show (PyData.tuple ((rows i).map .int)).depth ≤ 2
    simp [PyData.depth, dp]
  rcases Nat.eq_zero_or_pos L with h0 | h0
  · subst h0
    have er' : EachIs (fun v b => ∃ as, Reads (sortingHeap (copyHeap s.heap its) (s.heap.objs.size + 1) its) v (enc b) as) its (List.range ys.length) := er.mono fun _ _ ⟨as, r⟩ => ⟨as, PyProof.Rows.Reads.keeps (fun _ _ => sorting_copy_old) r⟩
    refine PySem.W.sorted_vals (κ := PySem.W.dataKind (sortingHeap (copyHeap s.heap its) (s.heap.objs.size + 1) its) ((List.range ys.length).map enc)) hl (PySem.W.gw_sorts_none (s := { s with heap := sortingHeap (copyHeap s.heap its) (s.heap.objs.size + 1) its }) (PySem.W.each_map (R := fun v d => ∃ as, Reads (sortingHeap (copyHeap s.heap its) (s.heap.objs.size + 1) its) v d as) enc er') (fun d hd => ?_) ?_) (by omega) ?_
    · obtain ⟨i, hi, rfl⟩ := List.mem_map.mp hd
      have := hlen i (by simpa using hi)
      show PyData.tuple ((rows i).map .int) = _
      rw [List.eq_nil_of_length_eq_zero this]
      rfl
    · show X.A.units + 1 + 1 + 1 < cLine
      omega
    · exact fin _ (by rw [PySem.W.sortVals_length false rfl]; exact n0) (PySem.W.sortVals_data false e er' hal)
  · refine PySem.W.sorted_data (enc := enc) (R := R) hl e er hal (.inl fun d hd => ?_) (by rw [bl]; exact z) (fun b _ => ?_) fun out ho he => fin out (by rw [ho, bl]) he
    · obtain ⟨i, hi, rfl⟩ := List.mem_map.mp hd
      have := hlen i (by simpa using hi)
      cases hr : rows i with
      | nil => rw [hr] at this; simp at this; omega
      | cons y r => exact ⟨.int y, r.map .int, by show PyData.tuple ((rows i).map .int) = _; rw [hr]; rfl⟩
    · have := hdep b
      omega
end
end Gw
namespace Gw
open PySem PySem.Spec PyProof.Rows L2
/-! ### calls by keywords alone -/
def OkF (P : Program) (w : World) (K : PySem.W.Frag) (mg : Str → Option Value) (base : Heap) (x : Str) (st : Stmt) (ps : List Str) (k : Nat) (sp : Sp) : Prop :=
  ∃ (f : Addr) (fd : FuncData), DefAt K mg x st ps f fd ∧ FnOk P w K mg base CX0 k f fd ps sp
theorem OkF.ok {P : Program} {w : World} {K : PySem.W.Frag} {mg : Str → Option Value} {base : Heap} {x : Str} {st : Stmt} {ps : List Str} {k : Nat} {sp : Sp} (h : OkF P w K mg base x st ps k sp) : Ok P w K mg base x ps k sp := by
  obtain ⟨f, fd, D, F⟩ := h
  exact D.ok F
theorem DefAt.okF {P : Program} {w : World} {K : PySem.W.Frag} {mg : Str → Option Value} {base : Heap} {x : Str} {st : Stmt} {ps : List Str} {f : Addr} {fd : FuncData} {k : Nat} {sp : Sp}
    (D : DefAt K mg x st ps f fd) (h : FnOk P w K mg base CX0 k f fd ps sp) : OkF P w K mg base x st ps k sp := ⟨f, fd, D, h⟩
/-- how a def's parameters are bound by keywords -/
def KwOf (x : Str) (st : Stmt) (ps ks : List Str) (g : List Value → List Value → List Value) (gV : List V → List V → List V) : Prop := ∀ (K : PySem.W.Frag) (f : Addr) (fd : FuncData), Fun K x x st f fd → KBinds K fd ps ks g gV
def g21 {α : Type} : List α → List α → List α
  | [], [a, b] => [b, a]
  | _, _ => []
def g1 {α : Type} : List α → List α → List α
  | [], [a] => [a]
  | _, _ => []
theorem g21_rel {vs : List V} {us : List Value} {zs : List V} {ws : List Value} (h : Vals vs us) (h' : Vals zs ws) : Vals (g21 vs zs) (g21 us ws) := by
  cases h with
  | cons _ _ => exact .nil
  | nil =>
    cases h' with
    | nil => exact .nil
    | cons a t =>
      cases t with
      | nil => exact .nil
      | cons b t =>
        cases t with
        | nil => exact .cons b (.cons a .nil)
        | cons _ _ => exact .nil
theorem g1_rel {vs : List V} {us : List Value} {zs : List V} {ws : List Value} (h : Vals vs us) (h' : Vals zs ws) : Vals (g1 vs zs) (g1 us ws) := by
  cases h with
  | cons _ _ => exact .nil
  | nil =>
    cases h' with
    | nil => exact .nil
    | cons a t =>
      cases t with
      | nil => exact .cons a .nil
      | cons _ _ => exact .nil
theorem kw21 {x p1 p2 : Str} {st : Stmt} (h : ∀ (kV doc pm : Value) (an : Option Addr) (cdv ct a b : Value), bindArgs (PySem.W.fnOf x x (defArgs st) (defBody st) (defScope st) .none kV doc pm an cdv ct) ⟨[], [(p2, a), (p1, b)]⟩ = pure [(p1, b), (p2, a)]) :
    KwOf x st [p1, p2] [p2, p1] g21 g21 := fun K f fd F => by
  obtain ⟨oc, od, kV, doc, pm, an, cdv, ct, osl, rfl, lk, hcd⟩ := F.ex
  refine ⟨fun s us ws _ hl => ?_, fun r r' => g21_rel r r'⟩
  match us, ws, hl with
  | [], [a, b], _ => exact .of_eq (h kV doc pm an cdv ct a b)
theorem kw1 {x p1 : Str} {st : Stmt} (h : ∀ (kV doc pm : Value) (an : Option Addr) (cdv ct a : Value), bindArgs (PySem.W.fnOf x x (defArgs st) (defBody st) (defScope st) .none kV doc pm an cdv ct) ⟨[], [(p1, a)]⟩ = pure [(p1, a)]) :
    KwOf x st [p1] [p1] g1 g1 := fun K f fd F => by
  obtain ⟨oc, od, kV, doc, pm, an, cdv, ct, osl, rfl, lk, hcd⟩ := F.ex
  refine ⟨fun s us ws _ hl => ?_, fun r r' => g1_rel r r'⟩
  match us, ws, hl with
  | [], [a], _ => exact .of_eq (h kV doc pm an cdv ct a)
section
variable {X : Cx} {x : Str} {st : Stmt} {ps ks : List Str} {k : Nat} {sp : Sp} {p pos : Pos} {e : Expr} {es : List Expr} {kws : List Keyword} {t tk : TA} {g : List Value → List Value → List Value} {gV : List V → List V → List V}
theorem pe_okK0 (h : OkF X.prog X.w X.K X.mg X.base x st ps k sp) (hb : KwOf x st ps ks g gV) (hr : Room k X.A) (hg : Gl X x) (hkw : PK X kws tk) (hall : (backToKw pos (keywordEach kws X.env)).all (·.1.isSome) = true := by rfl)
    (hks : (backToKw pos (keywordEach kws X.env)).filterMap (·.1) = ks := by rfl) (hdb : (x == ("__debug__" : Str)) = false := by decide)
    (hpl : ((backTo pos (starEach [] X.env)).any (·.1) || (backToKw pos (keywordEach kws X.env)).any (·.1.isNone)) = false := by rfl) : PE X (.Call (.Name x p) [] kws pos) (tCallK sp gV E0 tNil tk) := by
  obtain ⟨f, fd, D, F⟩ := h
  refine ⟨fun pins s σ H Q I h => ?_⟩
  refine wpAny_Call_Name_kw (ld_glob I hg D.m ?_ hdb)
  refine PySem.W.callWith_KW0 (h₀ := X.base) I.ok.mod.kin D.F.kp hall (thn (hkw.run pos pins s σ H _ I h) fun ws s2 ⟨zs, H2, I2, rz, q2⟩ => ⟨I2.kIn, ?_⟩) hpl
  rw [hks]
  exact run_fnk F hr (hb _ _ _ D.F) pass0 I2 .nil rz q2
end
/-! ### a < b of data -/
def rLtD (K : PySem.W.Frag) : R2 := fun x y H Q => ∃ dx dy, Dp K H x dx ∧ Dp K H y dy ∧ PySem.W.alike dx dy = true ∧ dx ≠ .none ∧ dx.depth ≤ 16 ∧ Q (.bl (PySem.W.dataLt dx dy)) H
theorem op_ltD {X : Cx} (hu : X.A.units + 64 < cLine) : OpR X (compareOp .Lt) (rLtD X.K) := by
  intro pins s σ H x y v u Q I rx ry h
  obtain ⟨dx, dy, hx, hy, ha, hn, hd, q⟩ := h
  obtain ⟨as, ra⟩ := Dp.reads I dx x v hx rx
  obtain ⟨bs, rb⟩ := Dp.reads I dy y u hy ry
  refine PySem.W.lt_data ra rb ha hn ?_ ⟨.bl (PySem.W.dataLt dx dy), H, I, rfl, q⟩
  have := Nat.min_le_left dx.depth dy.depth
  omega
theorem q_ltD (K : PySem.W.Frag) {X : Cx} (e : X.K = K) (hu : X.A.units + 64 < cLine) : OpR X (compareOp .Lt) (rLtD K) := by subst e; exact op_ltD hu
theorem ro_ltD {K : PySem.W.Frag} {x y : PyData} (ha : PySem.W.alike x y = true) (hn : x ≠ .none) (hd : x.depth ≤ 16) : ROp K (rLtD K) x y (.bool (PySem.W.dataLt x y)) := fun G H s vx vy dx dy Q q =>
  ⟨x, y, dp_mono s x dx, dp_mono s y dy, ha, hn, hd, q _ G H (Nx.refl s) (.bl _)⟩
end Gw
namespace Gw
open PySem PySem.Spec PyProof.Rows L2
/-! ### defs that may raise, error classes -/
structure Err (K : PySem.W.Frag) (mg : Str → Option Value) (x : Str) (C : Addr) : Prop where
  g : mg x = some (.ref C)
  x : PySem.W.excIn K C [.type "ValueError", .type "Exception", .type "BaseException", .type "object"] "ValueError.__new__" = true
  k : PySem.W.keepIn K (.ref C) = true
  b : PySem.W.subIn K (.ref C) (.type "BaseException") = some true
  t : PySem.W.typeIn K (.ref C) = some (.type "type")
def OkX (P : Program) (w : World) (K : PySem.W.Frag) (mg : Str → Option Value) (base : Heap) (x : Str) (st : Stmt) (ps : List Str) (k : Nat) (sp : Sp) : Prop :=
  ∃ (f : Addr) (fd : FuncData), DefAt K mg x st ps f fd ∧ FnOk P w K mg base (L2.CX P w) k f fd ps sp
theorem DefAt.okX {P : Program} {w : World} {K : PySem.W.Frag} {mg : Str → Option Value} {base : Heap} {x : Str} {st : Stmt} {ps : List Str} {f : Addr} {fd : FuncData} {k : Nat} {sp : Sp}
    (D : DefAt K mg x st ps f fd) (h : FnOk P w K mg base (L2.CX P w) k f fd ps sp) : OkX P w K mg base x st ps k sp := ⟨f, fd, D, h⟩
section
variable {X : Cx} {x : Str} {st : Stmt} {ps ks : List Str} {k : Nat} {sp : Sp} {p pos : Pos} {e : Expr} {es : List Expr} {kws : List Keyword} {t tk : TA} {g : List Value → List Value → List Value} {gV : List V → List V → List V} {E : XK}
theorem pe_okX (h : OkX X.prog X.w X.K X.mg X.base x st ps k sp) (hx : Passes (L2.CX X.prog X.w) X E) (hr : Room k X.A) (hg : Gl X x) (ha : PA X (e :: es) t) (hdb : (x == ("__debug__" : Str)) = false := by decide)
    (he : starEach (e :: es) X.env = (false, eval e X.env) :: starEach es X.env := by rfl) (hpl : (backTo pos (starEach es X.env)).any (·.1) = false := by rfl) : PE X (.Call (.Name x p) (e :: es) [] pos) (tCall sp [] E t) := by
  obtain ⟨f, fd, D, F⟩ := h
  exact pe_call F hr hg D.m D.F.kp D.b .nil hx ha hdb he hpl
theorem pe_okXK0 (h : OkX X.prog X.w X.K X.mg X.base x st ps k sp) (hb : KwOf x st ps ks g gV) (hx : Passes (L2.CX X.prog X.w) X E) (hr : Room k X.A) (hg : Gl X x) (hkw : PK X kws tk) (hall : (backToKw pos (keywordEach kws X.env)).all (·.1.isSome) = true := by rfl)
    (hks : (backToKw pos (keywordEach kws X.env)).filterMap (·.1) = ks := by rfl) (hdb : (x == ("__debug__" : Str)) = false := by decide)
    (hpl : ((backTo pos (starEach [] X.env)).any (·.1) || (backToKw pos (keywordEach kws X.env)).any (·.1.isNone)) = false := by rfl) : PE X (.Call (.Name x p) [] kws pos) (tCallK sp gV E tNil tk) := by
  obtain ⟨f, fd, D, F⟩ := h
  refine ⟨fun pins s σ H Q I h => ?_⟩
  refine wpAny_Call_Name_kw (ld_glob I hg D.m ?_ hdb)
  refine PySem.W.callWith_KW0 (h₀ := X.base) I.ok.mod.kin D.F.kp hall (thn (hkw.run pos pins s σ H _ I h) fun ws s2 ⟨zs, H2, I2, rz, q2⟩ => ⟨I2.kIn, ?_⟩) hpl
  rw [hks]
  exact run_fnk F hr (hb _ _ _ D.F) hx I2 .nil rz q2
end
/-! ### things of any kind: data, or a new dict -/
theorem ty_mono {K : PySem.W.Frag} {H H' : Hp} (s : Same H H') {p : Addr} {kvs : List (Key × V)} (h : H p = some (.dK kvs)) : TyX K H' (.ref p) (.type "dict") := .base (.dK (s _ _ h))
def Th (K : PySem.W.Frag) (G : Hp) (v : V) (x : PyData) : Prop := Dp K G v x ∨ (x = .dict [] ∧ ∃ p, v = .ref p ∧ G p = some (.dK []))
theorem Th.mono {K : PySem.W.Frag} {G G' : Hp} (s : Same G G') {v : V} {x : PyData} (h : Th K G v x) : Th K G' v x := h.imp (dp_mono s x) fun ⟨e, p, e1, e2⟩ => ⟨e, p, e1, s _ _ e2⟩
theorem Th.ty {K : PySem.W.Frag} {G H : Hp} (s : Same G H) {v : V} {x : PyData} (h : Th K G v x) : TyX K H v (.type (tyOf x)) := by
  rcases h with h | ⟨rfl, p, rfl, e⟩
  · exact dp_ty s h
  · exact ty_mono s e
theorem Th.tup {K : PySem.W.Frag} {G : Hp} {v : V} {xs : List PyData} (h : Th K G v (.tuple xs)) : Dp K G v (.tuple xs) := h.elim id fun z => nomatch z.1
theorem ed_isiTh {K : PySem.W.Frag} {σ : L2.St} {G : Hp} {i : Nat} {v : V} {x : PyData} {n : String} {b : Bool} (h : σ[i]? = some (some v)) (hv : Th K G v x) (hk : kitB (tyOf x) n = some b) : EvD K (tCB (rIsi K) (tCons (tVar i) (tCons (tC (.ty n)) tNil))) σ G (.bool b) := fun H s Q q =>
  ⟨v, h, v, .ty n, .type (tyOf x), .type n, b, rfl, .ty n, hv.ty s, kit_ty hk, q _ G H (Nx.refl s) (.bl b)⟩
end Gw
namespace Gw
open PySem PySem.Spec PyProof.Rows L2 LamX
/-! ### a lambda as a value -/
/-- at f stands the lambda with the closure cl, its code at c' -/
def LamAt (f : Addr) (q : Str) (params : Arguments) (body : Expr) (scope : Scope) (cl : List (Str × Addr)) (c' : Addr) (h : Heap) : Prop := ∃ (pm ctv : Value), h.get? f = some (PySem.W.kla_obj "<lambda>" q params body scope cl pm c' ctv)
def LamO (f : Addr) (q : Str) (params : Arguments) (body : Expr) (scope : Scope) (cl : List (Str × Addr)) (c' : Addr) : HO := .ext (LamAt f q params body scope cl c')
theorem lam_new {P : Program} {w : World} {H : Hp} {h : Heap} {f : Addr} {q : Str} {params : Arguments} {body : Expr} {scope : Scope} {cl : List (Str × Addr)} {c' : Addr} (e : LamAt f q params body scope cl c' h) : ObjOk P w H h f (LamO f q params body scope cl c') := by
  obtain ⟨pm, ctv, e⟩ := e
  exact ⟨⟨pm, ctv, e⟩, ⟨_, e⟩, fun h1 h2 ⟨a, b, e1⟩ k => ⟨a, b, k _ e1⟩⟩
def tLamV (T : List (Addr × Str)) (q : Str) (params : Arguments) (body : Expr) (scope : Scope) (cl : List (Str × Addr)) : TE := fun σ H Q =>
  Tabs T H ∧ ∀ f c' H1, ExtN H H1 → Tabs T H1 → H f = none → H1 f = some (LamO f q params body scope cl c') → H1 c' = some (CodeO c' q) → Q (.ref f) H1
section
variable {X : Cx} {T : List (Addr × Str)} {c P : Addr} {params : Arguments} {body : Expr} {scope : Scope} {pos : Pos}
theorem pe_lamV (TB : TabB X.base X.mg c P) (hcode : X.env.code = .ref c) (hm : (P, X.env.qual ++ "<lambda>") ∈ T) (hu : ∀ p ∈ T, p.1 = P → p.2 = X.env.qual ++ "<lambda>") (L : LamS X.env.scope scope) (hdef : defaultsOf params X.env = ([], [])) :
    PE X (.Lambda params body scope pos) (tLamV T (X.env.qual ++ "<lambda>") params body scope (cloFrom X.env.cells scope.names [])) := by
  refine ⟨fun pins s σ H Q I h => ?_⟩
  obtain ⟨hT, h⟩ := h
  obtain ⟨ps, hP, okp, known⟩ := hT _ hm
  have cells := L.has I.ok
  have bmP := TB.bm.keeps I.bk
  have tabP : s.heap.get? P = some { cls := .none, data := .fields ps } := I.hok P _ hP
  refine PySem.W.kla_eval hdef ?_
  cases hit : codeAmong pos ps.toList with
  | some cv =>
    obtain ⟨c', rfl, hco⟩ := known pos cv hit
    refine PySem.W.kla_makeFunctionHit (mg := X.mg) (c := c) (P := P) (ps := ps) (closure_ok cells) I.ok.glob (I.mod.glob.keeps I.bk) hcode (TB.code.keeps I.bk) tabP okp hit bmP fun ctv h' tk keep big => ?_
    have J := I.kept (h' := h') (t' := tk) keep
    have nf : H h'.objs.size = none := I.hok.fresh big
    have J2 := J.laid (t' := tk) (h' := h'.push (PySem.W.kla_obj "<lambda>" (X.env.qual ++ "<lambda>") params body scope (cloFrom X.env.cells scope.names []) ((X.mg "__name__").getD .none) c' ctv)) (a := h'.objs.size) (o := LamO h'.objs.size (X.env.qual ++ "<lambda>") params body scope (cloFrom X.env.cells scope.names []) c')
      (fun b u e => Heap.get?_push_of_some _ e) (Nat.le_refl _) (lam_new ⟨_, ctv, Heap.get?_push_size _ rfl⟩)
    have ext : ∀ b o, H b = some o → upd H h'.objs.size (LamO h'.objs.size (X.env.qual ++ "<lambda>") params body scope (cloFrom X.env.cells scope.names []) c') b = some o := fun b o e => (upd_ne (ne_of_none e nf)).trans e
    exact ⟨.ref h'.objs.size, _, J2, rfl, h _ c' _ (ExtN.of ext) (hT.ext ext) nf upd_same (ext _ _ hco)⟩
  | none =>
    refine PySem.W.kla_makeFunction (mg := X.mg) (c := c) (P := P) (ps := ps) (closure_ok cells) I.ok.glob (I.mod.glob.keeps I.bk) hcode (TB.code.keeps I.bk) tabP okp hit TB.gP bmP fun c' ctv h' tk keep big lt rec tab => ?_
    obtain ⟨c2, oc, vs, t, e2, at2, d2, n2⟩ := rec
    cases e2
    have nc : H c' = none := I.hok.fresh big
    have nPc : P ≠ c' := ne_of_none hP nc
    have J := inv_table (t' := tk) (more := #[rawInt pos.line, rawInt pos.col, .ref c']) (h' := h') I hP (fun b o hb e => keep b o hb e) tab big ⟨oc, vs, t, at2, d2, n2⟩
    generalize hH1 : upd (upd H P (.tbl (ps ++ #[rawInt pos.line, rawInt pos.col, .ref c']))) c' (CodeO c' (X.env.qual ++ "<lambda>")) = H1 at J
    have atc : H1 c' = some (CodeO c' (X.env.qual ++ "<lambda>")) := by rw [← hH1]; exact upd_same
    have atP : H1 P = some (.tbl (ps ++ #[rawInt pos.line, rawInt pos.col, .ref c'])) := by rw [← hH1, upd_ne nPc]; exact upd_same
    have other : ∀ b o, b ≠ P → H b = some o → H1 b = some o := fun b o hb e => by rw [← hH1, upd_ne (ne_of_none e nc), upd_ne hb]; exact e
    have e1 : ExtN H H1 := fun b o e n => other b o (fun z => n ps (Option.some.inj (e.symm.trans (by rw [z]; exact hP)))) e
    have T1 : Tabs T H1 := fun p hp => by
      by_cases hb : p.1 = P
      · rw [hu p hp hb, hb]
        have eL : (ps ++ #[rawInt pos.line, rawInt pos.col, Value.ref c']).toList = ps.toList ++ [rawInt pos.line, rawInt pos.col, .ref c'] := by simp
        refine ⟨_, atP, by rw [eL]; exact PySem.TriplesOk_snoc _ _ _ _ okp, fun p' cv hcv => ?_⟩
        rw [eL] at hcv
        rcases among_app _ okp hcv with z | z
        · obtain ⟨c0, z1, z2⟩ := known p' cv z
          exact ⟨c0, z1, e1 _ _ z2 codeO_ne⟩
        · exact ⟨c', z, atc⟩
      · obtain ⟨ps', z1, z2, z3⟩ := hT p hp
        refine ⟨ps', other _ _ hb z1, z2, fun p' cv hcv => ?_⟩
        obtain ⟨c0, y1, y2⟩ := z3 p' cv hcv
        exact ⟨c0, y1, e1 _ _ y2 codeO_ne⟩
    have nf1 : H1 h'.objs.size = none := J.hok.fresh (Nat.le_refl _)
    have bigf : s.heap.objs.size ≤ h'.objs.size := Nat.le_trans big (Nat.le_of_lt lt)
    have J2 := J.laid (t' := tk) (h' := h'.push (PySem.W.kla_obj "<lambda>" (X.env.qual ++ "<lambda>") params body scope (cloFrom X.env.cells scope.names []) ((X.mg "__name__").getD .none) c' ctv)) (a := h'.objs.size) (o := LamO h'.objs.size (X.env.qual ++ "<lambda>") params body scope (cloFrom X.env.cells scope.names []) c')
      (fun b u e => Heap.get?_push_of_some _ e) (Nat.le_refl _) (lam_new ⟨_, ctv, Heap.get?_push_size _ rfl⟩)
    have ext : ∀ b o, H1 b = some o → upd H1 h'.objs.size (LamO h'.objs.size (X.env.qual ++ "<lambda>") params body scope (cloFrom X.env.cells scope.names []) c') b = some o := fun b o e => (upd_ne (ne_of_none e nf1)).trans e
    exact ⟨.ref h'.objs.size, _, J2, rfl, h _ c' _ (e1.trans (ExtN.of ext)) (T1.ext ext) (I.hok.fresh bigf) upd_same (ext _ _ atc)⟩
end
end Gw
namespace Gw
open PySem PySem.Spec PyProof.Rows L2 LamX
/-! ### a def that calls what it got, called with a lambda that is a value -/
section
variable {X : Cx} {pins : List (Addr × Obj)} {σ : L2.St} {H : Hp} {s : Shared}
/-- what was told of is told of no more -/
theorem Inv_forget {f : Addr} {φ : Heap → Prop} (I : Inv X pins σ H s) (hf : H f = some (.ext φ)) : Inv X pins σ (delH H f) s := by
  have off : ∀ b o, H b = some o → (∀ ψ, o ≠ .ext ψ) → delH H f b = some o := fun b o e n => (delH_ne fun z => n φ (Option.some.inj (e.symm.trans (by rw [z]; exact hf)))).trans e
  have nn : ∀ b, H b = none → delH H f b = none := fun b e => by
    by_cases z : b = f
    · rw [z]; exact delH_same
    · exact (delH_ne z).trans e
  refine ⟨I.ok, I.os, I.bare, ⟨I.base.keep, I.base.slot, fun b o e n hx => nn b (I.base.free b o e n hx), I.base.there, fun b xs e => off b _ (I.base.tups b xs e) (fun _ z => nomatch z), fun b o u e => off b _ (I.base.frzs b o u e) (fun _ z => nomatch z), fun b ps e => ?_⟩, I.loc, I.cell, nn _ I.free, fun x c e => nn _ (I.freeC x c e), fun p hp => ?_, fun b u e => ?_, I.len⟩
  · obtain ⟨more, z⟩ := I.base.tbls b ps e
    exact ⟨more, off b _ z fun _ z => nomatch z⟩
  · obtain ⟨q1, q2, q3⟩ := I.pin p hp
    exact ⟨q1, nn _ q2, q3⟩
  · have hb : b ≠ f := fun z => by rw [z, delH_same] at e; cases e
    rw [delH_ne hb] at e
    exact (I.hok b u e).stay (fun _ _ _ z => z) (fun c z => off c _ z fun _ z => nomatch z) fun c xs z => off c _ z fun _ z => nomatch z
/-- which lambdas may come, and how their bodies read -/
structure Lams (X : Cx) (k : Nat) (Cand : Arguments → Expr → Scope → (XK → TE) → Prop) : Prop where
  sc : ∀ params body scope t, Cand params body scope t → LamS X.env.scope scope
  bind : ∀ params body scope t, Cand params body scope t → ∀ (q : Str) (cl : List (Str × Addr)) (pm cv ctv : Value), bindArgs (PySem.W.kla_fn "<lambda>" q params body scope cl pm cv ctv) ⟨[], []⟩ = pure []
  body : ∀ params body scope t, Cand params body scope t → ∀ (A : Around) (outer : List Env) (s : Shared) (H : Hp) (E : XK) (f c' : Addr), Room k (A.deeper (lamEnv X scope s.heap.objs.size f c')) → PE (lamCx X A outer s H E scope f c') body (t E)
def tGiv (X : Cx) (Cand : Arguments → Expr → Scope → (XK → TE) → Prop) (TT : (XK → Hp → VK → Prop) → Hp → VK → Prop) (te : TE) : TE := fun σ H Q => te σ H fun v H1 => ∃ (f c' : Addr) (params : Arguments) (body : Expr) (scope : Scope) (t : XK → TE),
  Cand params body scope t ∧ v = .ref f ∧ H1 f = some (LamO f (X.env.qual ++ "<lambda>") params body scope (cloFrom X.env.cells scope.names []) c') ∧ H1 c' = some (CodeO c' (X.env.qual ++ "<lambda>")) ∧ c' ≠ f ∧ TT (fun E H' Q' => t E σ H' Q') (delH H1 f) Q
theorem pe_giv {Cand : Arguments → Expr → Scope → (XK → TE) → Prop} {TT : (XK → Hp → VK → Prop) → Hp → VK → Prop} {x a : Str} {g : Addr} {k : Nat} {pg : Arguments} {bg : List Stmt} {sg : Scope} {dV kV doc pm cdv ct oc : Value} {an od : Option Addr} {osl : Array (Option Value)} {Ng : List Str}
    {e : Expr} {te : TE} {p pos : Pos} (hg : Gl X x) (hm : X.mg x = some (.ref g)) (hk : PySem.W.keepIn X.K (.ref g) = true)
    (lk : X.K.lookup g = some ⟨oc, od, .func (PySem.W.fnOf x x pg bg sg dV kV doc pm an cdv ct), osl⟩) (hcg : PySem.W.codeIn X.K cdv x = true) (hb : L2.Binds X.K (PySem.W.fnOf x x pg bg sg dV kV doc pm an cdv ct) [a] []) (Sg : FnScope Ng [a] sg) (hNg : Ng[0]? = some a) (hva : Vis sg a)
    (hG : GivesTo X Ng x sg g cdv bg a (X.env.qual ++ "<lambda>") TT) (hr : Room (k + 2) X.A) (hex : X.ex = []) (C : Lams X k Cand) (he : PE X e te) (hst : starEach [e] X.env = [(false, eval e X.env)] := by rfl)
    (hdb : (x == ("__debug__" : Str)) = false := by decide) (hd : (a == ("__debug__" : Str)) = false := by decide) (hcd : (a == ("__classdict__" : Str)) = false := by decide) :
    PE X (.Call (.Name x p) [e] [] pos) (tGiv X Cand TT te) := by
  refine ⟨fun pins s σ H Q I h => ?_⟩
  refine wpAny_Call_Name_kw (ld_glob I hg hm ?_ hdb)
  refine PySem.W.callWith_K (h₀ := X.base) I.ok.mod.kin hk ?_ hst (by rfl)
  rw [hst]
  show wpAny _ _ (spliced ((false, eval e X.env) :: backTo pos (starEach [] X.env))) _ _ s
  refine Calls.spliced_cons (thn (he.run pins s σ H _ I h) fun u s' ⟨v, H1, I1, rv, f, c', params, body, scope, t, hC, ev, hf, hco, hne, htt⟩ => ?_)
  subst ev
  cases rv
  refine Calls.spliced_nil ⟨I1.kIn, ?_⟩
  obtain ⟨⟨pm', ctv, at1⟩, _⟩ := I1.hok f _ hf
  have I2 := Inv_forget I1 hf
  have fr : f ∉ frs X.stack := fun z => by
    have := I1.stkFree f z
    rw [hf] at this
    cases this
  have hco2 : delH H1 f c' = some (CodeO c' (X.env.qual ++ "<lambda>")) := (delH_ne hne).trans hco
  have rc : codeAny (model X.prog X.w) X.A (.call (.ref g) ⟨[.ref f], []⟩) (CR C8.CX0 X.stack X.prog X.w (delH H1 f) s' Q C8.E0) s' := by
    refine run_ofS (N := Ng) (ps := [a]) (us := [.ref f]) (vs := [.ref f]) lk hcg Sg hr I2.env0 (hb s' [.ref f] I1.kIn rfl) (.cons rfl .nil) rfl fun hr' => ?_
    obtain ⟨t', ht', hq'⟩ := hG f c' s' (delH H1 f) Q (fun E H' Q' => t E σ H' Q') (fun W pn xe E p1 p2 tk hW => pe_act (i := 0) I2 (C.sc _ _ _ _ hC) at1 delH_same fr (C.bind _ _ _ _ hC _ _ _ _ _) tk hW hr' (fun A outer s H hr2 => C.body _ _ _ _ hC A outer s H E f c' hr2) hNg hva hd hcd) hco2 htt
    exact ⟨t', ht'.nox, hq'⟩
  refine wpAny_call (codeAny_mono rc fun r s2 hq => ?_)
  cases r with
  | error e => exact (show False from hq).elim
  | ok fl =>
    cases fl with
    | ret u => exact I2.after hq
    | next => exact False.elim hq
    | brk => exact False.elim hq
    | cont => exact False.elim hq
end
end Gw
namespace Gw
open PySem PySem.Spec PyProof.Rows L2
/-! ### isinstance of None or of an error that was kept -/
def rIsC (K : PySem.W.Frag) : List V → Hp → VK → Prop := fun xs H Q => (∃ (C : Addr) (b : Bool), xs = [.non, .ref C] ∧ PySem.W.kitOne K (.type "NoneType") (.ref C) = some b ∧ Q (.bl b) H) ∨
  ∃ (a D C : Addr) (b : Bool), xs = [.ref a, .ref C] ∧ H a = some (ErrO (.ref D) none a) ∧ ExcC K D ∧ PySem.W.kitOne K (.ref D) (.ref C) = some b ∧ Q (.bl b) H
theorem cr_isC {X : Cx} : CallR X (.builtin "isinstance") (rIsC X.K) := by
  intro pins s σ H xs us Q I r h
  rcases h with ⟨C, b, rfl, e, q⟩ | ⟨a, D, C, b, rfl, ha, T, e, q⟩
  · exact call_isi pins s σ H _ us Q I r ⟨.non, .ref C, .type "NoneType", .ref C, b, rfl, .own C, .base .non, e, q⟩
  · obtain ⟨u1, u2, rfl, r1, r2⟩ := vals2 r
    cases r1
    cases r2
    obtain ⟨⟨oe, vs, at1, ⟨z1, z2⟩, d1⟩, _⟩ := I.hok a _ ha
    have J : PySem.W.InstAt s.heap a oe D none := by
      obtain ⟨oc, od, dat, osl⟩ := oe
      dsimp only at z1 z2 d1
      subst z1 z2 d1
      exact ⟨at1, rfl, rfl, trivial⟩
    exact PySem.W.kia_one (PySem.W.handS_kitx_exc T.hg T.hk T.hs T.hd T.ha T.hn T.ht T.hm) I.kIn J e (fun z => nomatch z) fun tk => ⟨.bl b, H, I.tok tk, rfl, q⟩
end Gw
namespace Gw
open PySem PySem.Spec PyProof.Rows L2 LamX
/-- every lambda whose body reads so -/
def Good (X : Cx) (k : Nat) : Arguments → Expr → Scope → (XK → TE) → Prop := fun params body scope t => LamS X.env.scope scope ∧ (∀ (q : Str) (cl : List (Str × Addr)) (pm cv ctv : Value), bindArgs (PySem.W.kla_fn "<lambda>" q params body scope cl pm cv ctv) ⟨[], []⟩ = pure []) ∧
  ∀ (A : Around) (outer : List Env) (s : Shared) (H : Hp) (E : XK) (f c' : Addr), Room k (A.deeper (lamEnv X scope s.heap.objs.size f c')) → PE (lamCx X A outer s H E scope f c') body (t E)
theorem lams_good {X : Cx} {k : Nat} : Lams X k (Good X k) := ⟨fun _ _ _ _ h => h.1, fun _ _ _ _ h => h.2.1, fun _ _ _ _ h => h.2.2⟩
end Gw
namespace Gw
open PySem PySem.Spec PyProof.Rows L2
/-- one of several defs that may raise, all of one promise, held by a name -/
structure HeldX (P : Program) (w : World) (K : PySem.W.Frag) (mg : Str → Option Value) (base : Heap) (k : Nat) (sp : Sp) (f : Addr) : Prop where
  ex : ∃ (fd : FuncData) (ps : List Str), FnOk P w K mg base (L2.CX P w) k f fd ps sp ∧ PySem.W.keepIn K (.ref f) = true ∧ Binds K fd ps []
theorem OkX.held {P : Program} {w : World} {K : PySem.W.Frag} {mg : Str → Option Value} {base : Heap} {x : Str} {st : Stmt} {ps : List Str} {k : Nat} {sp : Sp} (h : OkX P w K mg base x st ps k sp) : ∃ f, mg x = some (.ref f) ∧ HeldX P w K mg base k sp f := by
  obtain ⟨f, fd, D, F⟩ := h
  exact ⟨f, D.m, ⟨fd, ps, F, D.F.kp, D.b⟩⟩
def tHeld (i : Nat) (S : Addr → Prop) (sp : Sp) (E : XK) (t : TA) : TE := fun σ H Q => ∃ f, σ[i]? = some (some (.ref f)) ∧ S f ∧ t σ H fun vs H1 => sp (vs ++ []) H1 Q E
theorem pe_held {X : Cx} {S : Addr → Prop} {sp : Sp} {E : XK} {k i : Nat} {x : Str} {p pos : Pos} {e : Expr} {es : List Expr} {t : TA} (A : ∀ f, S f → HeldX X.prog X.w X.K X.mg X.base k sp f) (hx : Passes (L2.CX X.prog X.w) X E) (hr : Room k X.A) (hN : X.N[i]? = some x) (hv : Vis X.env.scope x) (ha : PA X (e :: es) t)
    (hdb : (x == ("__debug__" : Str)) = false := by decide) (hcd : (x == ("__classdict__" : Str)) = false := by decide)
    (he : starEach (e :: es) X.env = (false, eval e X.env) :: starEach es X.env := by rfl) (hpl : (backTo pos (starEach es X.env)).any (·.1) = false := by rfl) : PE X (.Call (.Name x p) (e :: es) [] pos) (tHeld i S sp E t) := by
  refine ⟨fun pins s σ H Q I h => ?_⟩
  obtain ⟨f, hs, hS, ht⟩ := h
  obtain ⟨fd, ps, F, hk, hb⟩ := (A f hS).ex
  exact (pe_callL (i := i) (f := f) (sp := sp) (dvs := []) (E := E) F hr hN hv hk hb .nil hx ha hdb hcd he hpl).run pins s σ H Q I ⟨hs, ht⟩
end Gw
namespace PySem
namespace SupX
open PySem.W PySem.Calls PyProof.Rows PySem.HandSPX
/-! ### own errors whose __init__ calls super().__init__(text) and keeps one thing -/
def eA (f : Str) (p1 p2 : Pos) : Arguments := { posonlyargs := [], args := [{ arg := "self", annotation := none, pos := p1 }, { arg := f, annotation := none, pos := p2 }], vararg := none, kwonlyargs := [], kw_defaults := [], kwarg := none, defaults := [] }
def eB (f txt : Str) (q1 q2 q3 q4 q5 q6 r1 r2 r3 r4 : Pos) : List Stmt :=
  [.Expr (.Call (.Attribute (.Call (.Name "super" q1) [] [] q2) "__init__" q3) [.Constant (.str txt) 0 q4] [] q5) q6, .Assign [.Attribute (.Name "self" r1) f r2] (.Name f r3) r4]
def eS (f : Str) : Scope := { kind := .function, names := [("self", .local), (f, .local), ("__class__", .free), ("super", .globalImplicit)], isGenerator := false, isCoroutine := false, more := [] }
/-- what is asked of the name of the thing that is kept -/
structure FldOk (f : Str) : Prop where
  l1 : (eS f).names.lookup ("self" : Str) = some .local
  l2 : (eS f).names.lookup f = some .local
  l3 : (eS f).names.lookup ("__class__" : Str) = some .free
  l4 : (eS f).names.lookup ("super" : Str) = some .globalImplicit
  nc : ∀ x ∈ (eS f).names, x.2 ≠ .cell
  nd : (f == ("__debug__" : Str)) = false
  ns : (f == ("self" : Str)) = false
  bd : ∀ (qn : Str) (p1 p2 : Pos) (b : List Stmt) (doc pm : Value) (an : Option Addr) (cd ct : Value) (cc : Addr) (a v : Value), bindArgs (ksFn "__init__" qn (eA f p1 p2) b (eS f) .none .none doc pm an cd ct cc) ⟨[a, v], []⟩ = pure [(("self" : Str), a), (f, v)]
theorem fld_part : FldOk "part" := ⟨rfl, rfl, rfl, rfl, by decide, rfl, rfl, fun _ _ _ _ _ _ _ _ _ _ _ _ => rfl⟩
theorem fld_most : FldOk "most" := ⟨rfl, rfl, rfl, rfl, by decide, rfl, rfl, fun _ _ _ _ _ _ _ _ _ _ _ _ => rfl⟩
structure SupTxt (prog : Program) (K : Frag) (mg : Str → Option Value) (x f : Str) (C fI : Addr) : Prop where
  gC : mg x = some (.ref C)
  cls : ∃ nm q N bs bm sn sub ab col dd k0 k1 k2 k3 k5, K.lookup C = some (excClassObj nm q C N bs bm true sn sub ab col dd k0 k1 k2 k3 k5 "ValueError.__new__") ∧ refsVE bm = true
  sa : findIn K (.ref C) "__setattr__" = some (some (.builtin "object.__setattr__"))
  ga : findIn K (.ref C) "__getattribute__" = some (some (.builtin "BaseException.__getattribute__"))
  gg : findIn K (.ref C) "__getattr__" = some none
  noN : findIn K (.ref C) f = some none
  iC : findIn K (.ref C) "__init__" = some (some (.ref fI))
  tC : typeIn K (.ref fI) = some (.type "function")
  kC : keepIn K (.ref C) = true
  exC : subIn K (.ref C) (.type "BaseException") = some true
  veC : subIn K (.ref C) (.type "ValueError") = some true
  tyC : typeIn K (.ref C) = some (.type "type")
  hdC : hasDictIn K C = true
  mC : mroIn K C (.ref C) = some true
  sup : ks_superIn K C C "__init__" = some (some (.builtin "ValueError.__init__"))
  op : nsIn K cStatics "thirdparty.any" = some none
  noS : mg "super" = none
  top : (prog.main.scope.names.lookup ("super" : Str)).isSome = false
  nf : FldOk f
  fn : ∃ (oc : Value) (od : Option Addr) (doc pm : Value) (an : Option Addr) (cda : Addr) (ct : Value) (osl : Array (Option Value)) (cc : Addr) (p1 p2 : Pos) (txt : Str) (q1 q2 q3 q4 q5 q6 r1 r2 r3 r4 : Pos) (qn : Str) (ccl cl : Value) (cdd cld : Option Addr) (vs : Array Value) (ccs csl : Array (Option Value)) (file : Str) (tf : Tok), (q3.endLine == q5.line) = true ∧
    K.lookup fI = some ⟨oc, od, .func (ksFn "__init__" qn (eA f p1 p2) (eB f txt q1 q2 q3 q4 q5 q6 r1 r2 r3 r4) (eS f) .none .none doc pm an (.ref cda) ct cc), osl⟩ ∧ codeIn K (.ref cda) qn = true ∧
    K.lookup cda = some ⟨ccl, cdd, .fields vs, ccs⟩ ∧ vs[2]? = some (.str file tf) ∧ ((prog.main.file : Str) == file) = true ∧ K.lookup cc = some ⟨cl, cld, .cell (some (.ref C)), csl⟩
theorem sup_he {env : Env} {txt : Str} {q1 q2 q3 q4 q5 : Pos} (hq : (q3.endLine == q5.line) = true) : eval (.Call (.Attribute (.Call (.Name "super" q1) [] [] q2) "__init__" q3) [.Constant (.str txt) 0 q4] [] q5) env = (do
      let ov ← attributeBase (.Call (.Name "super" q1) [] [] q2) "__init__" env (eval (.Call (.Name "super" q1) [] [] q2) env)
      standAt q3.atName
      let (f, first) ← holding [ov] (getMethod ov "__init__" (do return (← importBound (.Call (.Name "super" q1) [] [] q2) env).getD true))
      callWith q5 f first (backTo q5 (starEach [.Constant (.str txt) 0 q4] env)) []) := by
  have e : methodCallPos true (.Call (.Name "super" q1) [] [] q2) env q3 q5 = pure q5 := if_pos (by rw [hq]; rfl)
  show (do
      let ov ← attributeBase (.Call (.Name "super" q1) [] [] q2) "__init__" env (eval (.Call (.Name "super" q1) [] [] q2) env)
      standAt q3.atName
      let (f, first) ← holding [ov] (getMethod ov "__init__" (do return (← importBound (.Call (.Name "super" q1) [] [] q2) env).getD true))
      let callPos ← methodCallPos true (.Call (.Name "super" q1) [] [] q2) env q3 q5
      callWith callPos f first (backTo q5 (starEach [.Constant (.str txt) 0 q4] env)) []) = _
  rw [e]
  simp only [pure_bind]
/-! the bound __init__ of ValueError, called -/
section
variable {prog : Program} {w : World} {A : Around} {E : Value → Shared → Prop} {h : Heap} {g : Array GenState} {d : Drawn} {t : Nat} {os : OsState}
variable {nm q : Str} {C N : Addr} {bs bm : List Value} {hdct : Bool} {sn : List Str} {sub : List Value} {ab : Bool} {col : Option Bool} {dd : Option Addr} {k0 k1 k2 k3 k5 : Option Value}
theorem call_mw {u e t0 : Addr} {rest : List Value} {Q : Value → Shared → Prop}
    (hC : h.get? C = some (excClassObj nm q C N bs bm hdct sn sub ab col dd k0 k1 k2 k3 k5 "ValueError.__new__")) (he : h.get? e = some (excO C t0)) (hu : h.get? u = some (kxs_mw "ValueError.__init__" e)) (hrest : rest.length ≤ sizeLine)
    (hq : ∀ h' t1, (∀ b o, b ≠ e → h.get? b = some o → h'.get? b = some o) → h'.get? e = some (excO C t1) → Q .none ⟨h', g, d, t, os⟩) :
    wpAny (model prog w) A (call (.ref u) rest) Q E ⟨h, g, d, t, os⟩ := by
  refine wpAny_call (codeAny_of_tree ?_)
  show wpAny _ A.in1 (callAny (.ref u) ⟨rest, []⟩) _ _ _
  simp only [callAny]
  refine wpAny_bind (wpAny_load hu ?_)
  simp only [kxs_mw, show (Value.type "method-wrapper" == Value.type "method" || Value.type "method-wrapper" == Value.type "builtin_function_or_method" || Value.type "method-wrapper" == Value.type "method-wrapper") = true by decide, if_true]
  refine W.KFB.if_so (by decide) ?_
  refine wpAny_bind (check_bound_init F.excBase_ValueError.toExcCallFacts hC he rfl ?_)
  refine wpAny_bind (wpAny_pure (wpAny_pure ?_))
  refine ⟨plainId_quiet F.excBase_ValueError.init.plain _, codeAny_builtin F.excBase_ValueError.initEntry ?_⟩
  exact exc_init_tree (cls := .ref C) (t0 := t0) (dv := none) (c2 := .none) (c3 := .none) (b4 := .bool false) he hrest fun h' k e' _ => hq h' _ k e'
end
structure InitEnd (h h' : Heap) (x C dx t1 : Addr) (f : Str) (v : Value) : Prop where
  keep : ∀ b o, b ≠ x → h.get? b = some o → h'.get? b = some o
  obj : h'.get? x = some { cls := .ref C, dict := some dx, data := .fields #[.ref t1, .none, .none, .none, .bool false, .none] }
  dbig : h.objs.size ≤ dx
  dne : dx ≠ x
  ns : h'.Ns1 dx (fun y => if y = f then some v else none)
theorem one_size (v : Value) : [v].length ≤ sizeLine := by
  rw [sizeLine_eq]
  exact (by decide : 1 ≤ 16777216)
theorem kept_but {K : Frag} {h h' : Heap} {x : Addr} (X : K.In h) (hx : K.lookup x = none) (k : ∀ b o, b ≠ x → h.get? b = some o → h'.get? b = some o) : K.In h' := fun a o e =>
  k a o (fun z => by rw [z, hx] at e; cases e) (X a o e)
section
variable {prog : Program} {w : World} {A : Around} {E : Value → Shared → Prop} {R : Result → Shared → Prop} {s : Shared} {K : Frag} {mg mb : Str → Option Value} {xn f : Str} {C fI : Addr}
theorem sup_init (T : SupTxt prog K mg xn f C fI) {x t0 : Addr} {v : Value} (X : K.In s.heap) (hg : s.heap.Ns mainGlobals mg) (hb : s.heap.Ns builtinsNs mb) (hbb : ∀ y : Str, y ≠ "__name__" → mb y = bootBuiltins y) (hlim : s.heap.NoLimit) (hx : s.heap.get? x = some (excO C t0)) (hnx : K.lookup x = none) (hroom : A.depth < recursionLimit)
    (hq : ∀ h' tk dx t1, InitEnd s.heap h' x C dx t1 f v → R (.ok (.ret .none)) { s with heap := h', toks := tk }) :
    codeAny (model prog w) A (.call (.ref fI) ⟨[.ref x, v], []⟩) R s := by
  obtain ⟨oc, od, doc, pm, an, cda, ct, osl, cc, p1, p2, txt, q1, q2, q3, q4, q5, q6, r1, r2, r3, r4, qn, ccl, cl, cdd, cld, vs, ccs, csl, file, tf, hpos, ho, hcd, hcode, hvs, hfile, hcell⟩ := T.fn
  obtain ⟨nm, q, N, bs, bm, sn, sub, ab, col, dd, k0, k1, k2, k3, k5, hC, hbm⟩ := T.cls
  have hcl : clsIn K C = some { name := nm, bases := bs, mro := .ref C :: bm, ns := N, qualname := q, hasDict := true, slotNames := sn, subclasses := sub, abstract := ab, collection := col, hasDel := false } := by unfold clsIn; rw [hC] <;> rfl
  refine ks_codeAny_call_defAt (binds := [(("self" : Str), .ref x), (f, v)]) hroom (X _ _ ho) rfl hlim (codeRec_of X hcd) rfl (BindsTo.of_eq (T.nf.bd _ _ _ _ _ _ _ _ _ _ _ _)) T.nf.nc ?l (fun h₁ hns k => ?_) rfl rfl rfl
  case l =>
    intro y hy
    rcases List.mem_cons.mp hy with rfl | hy
    · exact T.nf.l1
    · rw [List.mem_singleton.mp hy]; exact T.nf.l2
  have X₁ : K.In h₁ := X.keeps k
  have hx₁ := k _ _ hx
  have hxL : s.heap.objs.size ≠ x := Nat.ne_of_gt (Heap.lt_size hx)
  obtain ⟨hp, g, d, tk0, os⟩ := s
  dsimp only at X hg hb hlim hx hns k hxL ⊢
  have m1 : [(("self" : Str), Value.ref x), (f, v)].reverse.lookup ("self" : Str) = some (.ref x) := by
    have : (("self" : Str) == f) = false := by
      have := T.nf.ns
      rw [beq_eq_false_iff_ne] at this ⊢
      exact fun z => this z.symm
    show [(f, v), (("self" : Str), Value.ref x)].lookup ("self" : Str) = _
    simp [List.lookup, this]
  have m2 : [(("self" : Str), Value.ref x), (f, v)].reverse.lookup f = some v := by
    show [(f, v), (("self" : Str), Value.ref x)].lookup f = _
    simp [List.lookup]
  show _root_.PySem.wpAt _ _ (.func (eB f txt q1 q2 q3 q4 q5 q6 r1 r2 r3 r4) (ksEnv qn (eS f) hp.objs.size fI (.ref cda) cc)) (execs (eB f txt q1 q2 q3 q4 q5 q6 r1 r2 r3 r4) (ksEnv qn (eS f) hp.objs.size fI (.ref cda) cc)) _ _ _
  refine ks_wpAt_execs_cons (ks_wpAt_Expr_any (ks_wpAt_MethodCall ?_ (sup_he hpos)))
  refine ks_wpAt_super_base (env := ksEnv qn (eS f) hp.objs.size fI (.ref cda) cc) T.nf.l4 T.nf.l3 (by decide) rfl (X₁ _ _ ho) rfl rfl rfl (X₁ _ _ hcode) rfl hvs hfile T.top ?_
  refine ks_loadName_global rfl T.nf.l4 (loadGlobal_builtin (env := ksEnv qn (eS f) hp.objs.size fI (.ref cda) cc) (hg.keeps k) T.noS (hb.keeps k) ((hbb _ (by decide +kernel)).trans (by first | boot_by_name | rfl | kernel_rfl)) ⟨rfl, ?_⟩)
  refine wpAny_loadName_free rfl T.nf.l3 rfl ⟨_, X₁ _ _ hcell, rfl⟩ ?_
  refine wpAny_loadName_local rfl T.nf.l1 hns m1 ?_
  refine ks_wpAny_isType_cls (X₁ _ _ hC) rfl ⟨rfl, ?_⟩
  refine ks_wpAny_call_super (X₁ _ _ hC) rfl hx₁ rfl (fun c e => by cases e) (looks_mroIn X₁ T.mC) (fun h₂ eso k₂ => ?_)
  have X₂ : K.In h₂ := X₁.keeps k₂
  have hx₂ := k₂ _ _ hx₁
  have I₂ : InstAt h₂ x (excO C t0) C none := ⟨hx₂, rfl, rfl, trivial⟩
  have hsup : alongIn K "__init__" (((Value.ref C :: bm).dropWhile (· != .ref C)).drop 1) = some (some (.builtin "ValueError.__init__")) := by
    have e := T.sup
    unfold ks_superIn at e
    rw [hcl] at e
    exact e
  refine kxs_getMethod kxs_ValueError eso (looks_opaque X₂ T.op) (l₀ := Value.ref C :: bm) (fun A Q E s k q => wpAny_bind ((looks_clsIn X₂ hcl) A _ E s k (wpAny_pure q))) rfl X₂ hsup (I₂.type.andThen (looks_subIn X₂ T.veC)) (ks_ne X₂ I₂ hcl) (by decide) ?_
  have k₃ : ∀ b o, h₂.get? b = some o → (h₂.push (kxs_mw "ValueError.__init__" x)).get? b = some o := fun b o e => Heap.get?_push_of_some _ e
  have hx₃ := k₃ _ _ hx₂
  have hmw : (h₂.push (kxs_mw "ValueError.__init__" x)).get? h₂.objs.size = some (kxs_mw "ValueError.__init__" x) := Heap.get?_push_at rfl rfl
  refine kxs_callWith (i := "ValueError.__init__") (x := x) (by rfl) (evalArgs_plain ?_)
  refine spliced_cons (Constant_str (pos := q4) (k := 0) (spliced_nil ⟨hmw, ?_⟩))
  refine call_mw (X₂.keeps k₃ _ _ hC) hx₃ hmw (one_size _) fun h₄ t1 k₄ hx₄ => ?_
  have X₄ : K.In h₄ := kept_but (X₂.keeps k₃) hnx k₄
  have hns₄ : h₄.Ns hp.objs.size (fun y => [(("self" : Str), Value.ref x), (f, v)].reverse.lookup y) := ((hns.keeps k₂).keeps k₃).at fun o q => k₄ _ _ hxL q
  refine ks_wpAt_execs_cons (wpAt_of_wpAny (plainObj_wpAny_Assign_Attribute ?_))
  refine wpAny_Name (wpAny_loadName_local rfl T.nf.l2 hns₄ m2 ?_) T.nf.nd
  refine wpAny_Name (wpAny_loadName_local rfl T.nf.l1 hns₄ m1 ?_) (by decide)
  refine set_plain X₄ (ox := excO C t1) (od := none) ⟨hx₄, rfl, rfl, trivial⟩ T.sa ?_
  refine exc_osa X₄ hx₄ hcl (show refsVE (.ref C :: bm) = true from hbm) rfl T.noN (fun h₅ tk₅ dx k₅ dn dne hx₅ hn₅ => ?_)
  refine wpAt_of_wpAny (wpAny_execs_nil (hq h₅ tk₅ dx t1 ⟨fun b o hb e => k₅ b o hb (k₄ b o hb (k₃ _ _ (k₂ _ _ (k b o e)))), hx₅, ?_, dne, hn₅⟩))
  exact Nat.le_of_lt (Nat.lt_of_lt_of_le hns₄.lt dn)
/-- a made error -/
structure OwnMade (h h' : Heap) (e C d : Addr) (f : Str) (v : Value) : Prop where
  keep : ∀ b o, h.get? b = some o → h'.get? b = some o
  new : h.objs.size ≤ e
  obj : ∃ oe vs, h'.get? e = some oe ∧ oe.cls = .ref C ∧ oe.dict = some d ∧ oe.data = .fields vs ∧ vs[1]? = some .none
  dbig : h.objs.size ≤ d
  dne : d ≠ e
  ns : h'.Ns1 d (fun y => if y = f then some v else none)
theorem sup_made (T : SupTxt prog K mg xn f C fI) {v : Value} (X : K.In s.heap) (hg : s.heap.Ns mainGlobals mg) (hb : s.heap.Ns builtinsNs mb) (hbb : ∀ y : Str, y ≠ "__name__" → mb y = bootBuiltins y) (hlim : s.heap.NoLimit) (hroom : A.depth + 1 < recursionLimit)
    (hq : ∀ h' tk e d, OwnMade s.heap h' e C d f v → R (.ok (.ret (.ref e))) { s with heap := h', toks := tk }) :
    codeAny (model prog w) A (.call (.ref C) ⟨[v], []⟩) R s := by
  obtain ⟨nm, q, N, bs, bm, sn, sub, ab, col, dd, k0, k1, k2, k3, k5, hC, hbm⟩ := T.cls
  obtain ⟨hp, g, dr, tk, os⟩ := s
  have k : ∀ b o, hp.get? b = some o → ((hp.push (kdv_tup [v])).push (excO C hp.objs.size)).get? b = some o := fun b o e => Heap.get?_push_of_some _ (Heap.get?_push_of_some _ e)
  have hget : ((hp.push (kdv_tup [v])).push (excO C hp.objs.size)).get? (hp.objs.size + 1) = some (excO C hp.objs.size) := by heap_get
  have hnx : K.lookup (hp.objs.size + 1) = none := by
    cases e : K.lookup (hp.objs.size + 1) with
    | none => rfl
    | some o =>
      have z : hp.get? (hp.objs.size + 1) = some o := X _ _ e
      exact absurd (Nat.lt_of_succ_lt (Heap.lt_size z)) (Nat.lt_irrefl _)
  refine call_own F.excBase_ValueError (fun X => refsVE_contains X bm hbm) (X _ _ hC) (looks_findIn X T.iC) (fun self => bind_fn X self T.tC) (one_size v) ?_
  refine sup_init (s := ⟨(hp.push (kdv_tup [v])).push (excO C hp.objs.size), g, dr, tk, os⟩) T (X.keeps k) (hg.keeps k) (hb.keeps k) hbb (hlim.keeps k) hget hnx ?_ fun h' tk' dx t1 ⟨k', hx, dn, dne, hns⟩ => ?_
  · show A.depth + 1 < recursionLimit
    exact hroom
  · have old : ∀ b o, hp.get? b = some o → h'.get? b = some o := fun b o e => k' b o (Nat.ne_of_lt (Nat.lt_succ_of_lt (Heap.lt_size e))) (k b o e)
    have z : hp.objs.size + 1 + 1 ≤ dx := by
      have q := dn; rw [Heap.size_push, Heap.size_push] at q; exact q
    exact ⟨rfl, hq h' tk' (hp.objs.size + 1) dx ⟨old, Nat.le_succ _, ⟨_, _, hx, rfl, rfl, rfl, rfl⟩, Nat.le_trans (Nat.le_trans (Nat.le_succ _) (Nat.le_succ _)) z, dne, hns⟩⟩
end
end SupX
end PySem
namespace Gw
open PySem PySem.Spec PyProof.Rows L2
theorem relO_fld {f : Str} {v : V} {v' : Value} (r : RelV v v') (y : Str) : RelO (List.lookup y [(f, v)]) (if y = f then some v' else none) := by
  by_cases hw : y = f
  · subst hw
    rw [if_pos rfl]
    have q : List.lookup y [(y, v)] = some v := by simp [List.lookup]
    rw [q]
    exact r
  · rw [if_neg hw]
    have qw : (y == f) = false := by simpa using hw
    have q2 : List.lookup y [(f, v)] = none := by simp [List.lookup, qw]
    rw [q2]
    trivial
section
variable {X : Cx} {C fI : Addr} {x f : Str}
/-- C(e): the error's own dict is new -/
def tMkSup (C : Addr) (f : Str) (ta : TA) : L2.St → Hp → XK → Prop := fun σ H Q => ta σ H fun vs H1 => ∃ v, vs = [v] ∧ ∀ d, H1 d = none → Q (.ref C) (some d) (upd H1 d (.xd [(f, v)]))
theorem pmk_sup {a : Expr} {ta : TA} {p pos : Pos} {k : Nat} (T : PySem.SupX.SupTxt X.prog X.K X.mg x f C fI) (hr : Room k X.A) (ha : PA X [a] ta) (hg : Gl X x) (hdb : (x == ("__debug__" : Str)) = false := by decide)
    (he : starEach (a :: []) X.env = (false, eval a X.env) :: starEach [] X.env := by rfl) (hpl : (backTo pos (starEach [] X.env)).any (·.1) = false := by rfl) :
    PMk X (.Call (.Name x p) [a] [] pos) (tMkSup C f ta) := by
  intro pins s σ H Q I h
  refine wpAny_Call_Name_kw (ld_glob I hg T.gC ?_ hdb)
  refine PySem.W.callWith_K (h₀ := X.base) I.ok.mod.kin T.kC (thn (ha.run pos pins s σ H _ I h) fun us s1 hh => ?_) he hpl
  obtain ⟨vs, H1, I1, r1, v, ev, q1⟩ := hh
  subst ev
  refine ⟨I1.kIn, ?_⟩
  cases r1 with
  | cons rv rn =>
    rename_i v' us'
    cases rn
    show wpAny _ _ (call (.ref C) [v']) _ _ _
    have hlim := I1.nolimit
    obtain ⟨mb, hb, hbb⟩ := I1.mod.blt
    have hgl := I1.mod.glob.keeps I1.bk
    have hbl := hb.keeps I1.bk
    obtain ⟨hp, g, dr, tk, os⟩ := s1
    refine wpAny_call (PySem.SupX.sup_made T I1.kIn hgl hbl hbb hlim (by have := hr.dp; omega) fun h' tk' e d M => ?_)
    show MkP X pins σ Q (.ref e) ⟨h', g, dr, tk', os⟩
    obtain ⟨oe, fv, hoe, hc, hd, hdat, h1⟩ := M.obj
    have hns := M.ns
    obtain ⟨G', g1, g2⟩ := restrict h' fun b => decide (b ≠ e)
    have gk : ∀ b, b ≠ e → G'.get? b = h'.get? b := fun b hb => g1 b (decide_eq_true hb)
    have ge : G'.get? e = none := g2 e (by simp)
    have old : ∀ b o, hp.get? b = some o → G'.get? b = some o := fun b o q => (gk b (Nat.ne_of_lt (Nat.lt_of_lt_of_le (Heap.lt_size q) M.new))).trans (M.keep b o q)
    have ob : ObjOk X.prog X.w (upd H1 d (.xd [(f, v)])) G' d (.xd [(f, v)]) :=
      ⟨_, hns.at (fun o q => (gk d M.dne).trans q), fun y => relO_fld rv y⟩
    have J : Inv X pins σ (upd H1 d (.xd [(f, v)])) ⟨G', g, dr, tk', os⟩ := I1.laid (t' := tk') old M.dbig ob
    refine ⟨e, oe, fv, ⟨G', g, dr, tk', os⟩, _, .ref C, some d, rfl, J, fun b o q => ?_, ge, hoe, ⟨hc, hd⟩, hdat, h1, ?_, rfl, I1.bare, raises_own T.exC T.tyC, q1 d (I1.hok.fresh M.dbig)⟩
    · by_cases hb : b = e
      · have q' : G'.get? b = some o := q
        rw [hb, ge] at q'; cases q'
      · exact (gk b hb).symm.trans q
    · rw [upd_ne (Ne.symm M.dne)]
      exact I1.hok.fresh M.new
/-- error.f, an error that was kept -/
def tErrFld (C : Addr) (f : Str) (te : TE) : TE := fun σ H Q => te σ H fun y H1 => ∃ a dd v, y = .ref a ∧ H1 a = some (ErrO (.ref C) (some dd) a) ∧ H1 dd = some (.xd [(f, v)]) ∧ Q v H1
theorem pe_errFld {e : Expr} {te : TE} {pos : Pos} (T : PySem.SupX.SupTxt X.prog X.K X.mg x f C fI) (he : PE X e te) (hb : attributeBase e f X.env (eval e X.env) = eval e X.env := by rfl) : PE X (.Attribute e f pos) (tErrFld C f te) := by
  refine ⟨fun pins s σ H Q I h => ?_⟩
  refine attr_of hb (thn (he.run pins s σ H _ I h) fun u s1 hh => ?_)
  obtain ⟨y, H1, I1, ry, a, dd, v, rfl, ha, hd, q⟩ := hh
  obtain rfl : u = Value.ref a := ry
  obtain ⟨⟨oe, vs, at1, ⟨z1, z2⟩, d1⟩, _⟩ := I1.hok a _ ha
  have hx : ObjOk X.prog X.w H1 s1.heap dd (.xd [(f, v)]) := I1.hok dd _ hd
  obtain ⟨mA, hns, hr⟩ := hx
  obtain ⟨od, ho, hl⟩ := lookIn_ns hns
  have l : List.lookup f [(f, v)] = some v := by simp [List.lookup]
  obtain ⟨u, hu, ru⟩ := RelO.some_of (v := v) (o := mA f) (by rw [← l]; exact hr f)
  have J : PySem.W.InstAt s1.heap a oe C (some od) := ⟨at1, z1, by unfold PySem.W.notCls; rw [d1] <;> rfl, by rw [z2]; exact ho⟩
  exact HandSPX.exc_get I1.kIn J T.ga T.gg T.exC (PySem.W.findObj_own T.hdC T.noN rfl (by rw [hl, hu])) (handed_of ru) ⟨v, H1, I1.tok _, ru, q⟩
end
/-! ### isinstance of None or of an error that was kept, with or without a dict -/
def rIsC2 (K : PySem.W.Frag) : List V → Hp → VK → Prop := fun xs H Q => (∃ (C : Addr) (b : Bool), xs = [.non, .ref C] ∧ PySem.W.kitOne K (.type "NoneType") (.ref C) = some b ∧ Q (.bl b) H) ∨
  ∃ (a D C : Addr) (d : Option Addr) (b : Bool), xs = [.ref a, .ref C] ∧ H a = some (ErrO (.ref D) d a) ∧ (∀ dd, d = some dd → ∃ fs, H dd = some (.xd fs)) ∧ ExcC K D ∧ PySem.W.kitOne K (.ref D) (.ref C) = some b ∧ Q (.bl b) H
theorem cr_isC2 {X : Cx} : CallR X (.builtin "isinstance") (rIsC2 X.K) := by
  intro pins s σ H xs us Q I r h
  rcases h with ⟨C, b, rfl, e, q⟩ | ⟨a, D, C, d, b, rfl, ha, hdd, T, e, q⟩
  · exact call_isi pins s σ H _ us Q I r ⟨.non, .ref C, .type "NoneType", .ref C, b, rfl, .own C, .base .non, e, q⟩
  · obtain ⟨u1, u2, rfl, r1, r2⟩ := vals2 r
    cases r1
    cases r2
    obtain ⟨⟨oe, vs, at1, ⟨z1, z2⟩, d1⟩, _⟩ := I.hok a _ ha
    have hcl : (PySem.W.clsIn X.K D).isSome = true := by
      obtain ⟨cd, hc, _⟩ := PySem.W.any_some T.hd
      rw [hc]; rfl
    obtain ⟨od, J⟩ : ∃ od, PySem.W.InstAt s.heap a oe D od := by
      cases d with
      | none => exact ⟨none, at1, z1, by unfold PySem.W.notCls; rw [d1] <;> rfl, by rw [z2]; trivial⟩
      | some dd =>
        obtain ⟨fs, hf⟩ := hdd dd rfl
        have hx : ObjOk X.prog X.w H s.heap dd (.xd fs) := I.hok dd _ hf
        obtain ⟨mA, hns, hr⟩ := hx
        obtain ⟨od, ho, hl⟩ := lookIn_ns hns
        exact ⟨some od, at1, z1, by unfold PySem.W.notCls; rw [d1] <;> rfl, by rw [z2]; exact ho⟩
    exact PySem.W.kia_one (PySem.W.kitx_exc hcl T.hg T.hk T.hs T.ha T.hn T.ht T.hm) I.kIn J e (fun z => nomatch z) fun tk => ⟨.bl b, H, I.tok tk, rfl, q⟩
end Gw
namespace Gw
open PySem PySem.Spec PyProof.Rows L2
/-! ### == and != of objects with their own __eq__ -/
section
open PySem.W
variable {prog : Program} {w : World} {A : Around} {E : Value → Shared → Prop} {s : Shared} {K : PySem.W.Frag} {x C L f : Addr} {h₀ : Heap} {m : Str → Option Value} {ox : Obj} {od : Option Obj} {b tb : Value}
theorem ne_own (hu : A.units + 1 < cLine) (X : K.In s.heap) (I : InstAt s.heap x ox C od) (hb : Looks (model prog w) s.heap (typeOf b) tb) (hn : notFirst K C tb = true)
    (hne : findIn K (.ref C) "__ne__" = some (some (.builtin "object.__ne__"))) (hob : mroIn K C (.type "object") = some true) (hs : findIn K (.ref C) "__eq__" = some (some (.ref f))) (hf : isFn K (.ref f) = true) {Q : Value → Shared → Prop}
    (h : wpAny (model prog w) A.in1 (call (.ref f) [.ref x, b]) (fun v s' => ∃ r, v = .bool r ∧ Q (.bool (!r)) s') E s) : wpAny (model prog w) A (richCompare .NotEq (.ref x) b) Q E s := by
  have FB := F.cmp_object
  have body : wpAny (model prog w) A (call (.builtin "object.__ne__") [.ref x, b]) (fun v s' => ∃ r, v = .bool r ∧ Q v s') E s := by
    refine wpAny_call (codeAny_call_builtin FB.ne.plain F.cmpEntry_ne (check_slot F.cmpKind_ne F.cmpSplit_ne (I.type.andThen (looks_mroIn X hob)) (F.cmpArgs_ne _ _) ?_))
    unfold Builtin.«object.__ne__»
    refine wpAny_bind (wpAny_of_eq (a := ((Value.ref x : Value), [b])) (by first | rfl | (simp only [slotArgs]; rfl)) ?_)
    refine wpAny_bind (wpAny_cRoomFor hu ?_)
    refine wpAny_bind (ifBound_K X I hs hf (wpAny_mono h (fun v s' hv => ?_) fun _ _ e => e))
    obtain ⟨r, rfl, q⟩ := hv
    refine wpAny_bind (wpAny_truthy_bool ?_)
    exact wpAny_pure ⟨_, rfl, q⟩
  have one : wpAny (model prog w) A (tryCompare (.ref x) "__ne__" b) (fun r s' => ∃ v, r = some v ∧ Q v s') E s := by
    unfold tryCompare
    simp only [callSpecialIfBound?, bindSpecialIfBound?]
    refine wpAny_bind (wpAny_holding (wpAny_bind (wpAny_bind (wpAny_bind (I.type.here ((looks_findIn X hne).here ?_))))))
    simp only [FB.ne.bind]
    have fin : wpAny (model prog w) A (call (.builtin "object.__ne__") ([.ref x] ++ [b]) >>= fun v => pure (some v)) (fun r s' => ∃ v u, r = some v ∧ v = .bool u ∧ Q v s') E s := wpAny_bind (wpAny_mono body (fun v s' ⟨u, e, h'⟩ => wpAny_pure ⟨v, u, rfl, e, h'⟩) fun _ _ h' => h')
    refine wpAny_bind (wpAny_askSetting (wpAny_ite ?_))
    have done : ∀ (r : Option Value) (s' : Shared), (∃ v u, r = some v ∧ v = Value.bool u ∧ Q v s') → ∃ v u, r = some v ∧ v = Value.bool u ∧ Q v s' := fun _ _ h => h
    split
    · refine wpAny_bind (wpAny_pure (wpAny_pure (wpAny_mono fin (fun r s' h' => ?_) fun _ _ h' => h')))
      obtain ⟨v, u, rfl, rfl, q⟩ := h'
      exact wpAny_pure ⟨_, rfl, q⟩
    · refine wpAny_tryCatch (wpAny_bind (wpAny_pure (wpAny_pure (wpAny_mono fin (fun r s' h' => ?_) fun _ _ h' => h'))))
      obtain ⟨v, u, rfl, rfl, q⟩ := h'
      exact wpAny_pure ⟨_, rfl, q⟩
  unfold richCompare
  simp only [oneThing_ref]
  refine wpAny_holding (wpAny_bind (wpAny_cRoomFor (Nat.lt_of_succ_lt hu) ?_))
  refine wpAny_bind (I.type.here (wpAny_bind (hb.here ?_)))
  split
  · rename_i q
    have e : subIn K tb (.ref C) = some false := by
      rcases Bool.or_eq_true_iff.mp hn with e | e
      · rw [beq_iff_eq.mp e] at q; simp at q
      · exact beq_iff_eq.mp e
    refine wpAny_bind ((looks_subIn X e).here ?_)
    simp only [Bool.false_eq_true, if_false]
    refine wpAny_bind (wpAny_mono one (fun r s' z => ?_) fun _ _ e => e)
    obtain ⟨v, rfl, hq⟩ := z
    exact wpAny_pure hq
  · refine wpAny_bind (wpAny_pure ?_)
    simp only [Bool.false_eq_true, if_false]
    refine wpAny_bind (wpAny_mono one (fun r s' z => ?_) fun _ _ e => e)
    obtain ⟨v, rfl, hq⟩ := z
    exact wpAny_pure hq
end
/-! the readings -/
/-- x == y by x's own __eq__, which keeps sp -/
def rOwnEq (K : PySem.W.Frag) (C : Addr) (sp : Sp) (E : XK) (g : Bool → Bool) : R2 := fun x y H Q => ∃ a dx fs t, x = .ref a ∧ H a = some (.ins C dx fs) ∧ TyX K H y t ∧ PySem.W.notFirst K C t = true ∧ sp [x, y] H (fun v H' => ∃ b, v = .bl b ∧ Q (.bl (g b)) H') E
structure OwnE (K : PySem.W.Frag) (C f : Addr) : Prop where
  eq : PySem.W.findIn K (.ref C) "__eq__" = some (some (.ref f))
  ne : PySem.W.findIn K (.ref C) "__ne__" = some (some (.builtin "object.__ne__"))
  ob : PySem.W.mroIn K C (.type "object") = some true
  fn : PySem.W.isFn K (.ref f) = true
section
variable {X : Cx} {CX : CXT} {C f : Addr} {fd : FuncData} {n : Nat} {sp : Sp} {E : XK} {x y : Str}
theorem run_ownEq {A : Around} (O : OwnE X.K C f) (F : FnOk X.prog X.w X.K X.mg X.base CX n f fd [x, y] sp) (hb : Binds X.K fd [x, y] []) (hx : Passes CX X E) (hr : Room n A) (hfr : A.frames = X.A.frames) {pins : List (Addr × Obj)} {s : Shared} {σ : L2.St} {H : Hp} {a : Addr} {z : V} {v : Value} {g : Bool → Bool} {Q : VK}
    (I : Inv X pins σ H s) (rz : RelV z v) (h : sp [.ref a, z] H (fun v H' => ∃ b, v = .bl b ∧ Q (.bl (g b)) H') E) :
    wpAny (model X.prog X.w) A (call (.ref f) [.ref a, v]) (fun u s' => ∃ b, u = .bool b ∧ EP X pins σ Q (.bool (g b)) s') X.xe s := by
  have e0 : Env0 X.prog X.w X.K X.mg X.base A X.stack s H := by
    have e := I.env0
    exact ⟨by rw [hfr]; exact e.frames, e.mod, e.bs, e.bsz, e.funs, e.frf, e.hok, e.bare⟩
  have r2 : Vals [V.ref a, z] [Value.ref a, v] := .cons rfl (.cons rz .nil)
  refine wpAny_call (codeAny_mono (F.run A X.stack s H ⟨[.ref a, v], []⟩ [.ref a, v] [.ref a, z] _ E hr e0 (by
    have := hb s [.ref a, v] I.kIn (by rfl)
    simpa using this) r2 h) fun r s' hq => ?_)
  cases r with
  | error e => exact hx pins σ H s e s' I hq
  | ok fl =>
    cases fl with
    | ret w =>
      obtain ⟨u, H', I', rw, b, eb, q⟩ := I.after hq
      subst eb
      cases rw
      exact ⟨b, rfl, .bl (g b), H', I', rfl, q⟩
    | next => exact False.elim hq
    | brk => exact False.elim hq
    | cont => exact False.elim hq
theorem op_ownEq (O : OwnE X.K C f) (F : FnOk X.prog X.w X.K X.mg X.base CX n f fd [x, y] sp) (hb : Binds X.K fd [x, y] []) (hx : Passes CX X E) (hr : Room n X.A) : OpR X (compareOp .Eq) (rOwnEq X.K C sp E fun b => b) := by
  intro pins s σ H p z v u Q I rp rz hq
  obtain ⟨a, dx, fs, t, rfl, ha, ty, nf, h⟩ := hq
  cases rp
  show wpAny (model X.prog X.w) X.A (richCompare .Eq (.ref a) u) (EP X pins σ Q) X.xe s
  obtain ⟨mA, J, _⟩ := ins_get I.hok ha
  obtain ⟨od, J, _⟩ := J.look
  obtain ⟨m, hF⟩ := I.fr
  obtain ⟨P, Z, p, _⟩ := kit_of I rz ty
  refine PySem.W.cmp_K (op := .Eq) (tb := t) hr.units0 hF I.ok.mod.kin J (Z.ty _ _ I.kIn p) nf O.eq O.fn ?_
  refine wpAny_mono (run_ownEq O F hb hx hr rfl I rz h) (fun v s' hv => ?_) fun _ _ e => e
  obtain ⟨b, rfl, q⟩ := hv
  exact q
theorem op_ownNe (O : OwnE X.K C f) (F : FnOk X.prog X.w X.K X.mg X.base CX n f fd [x, y] sp) (hb : Binds X.K fd [x, y] []) (hx : Passes CX X E) (hr : Room (n + 1) X.A) : OpR X (compareOp .NotEq) (rOwnEq X.K C sp E fun b => !b) := by
  intro pins s σ H p z v u Q I rp rz hq
  obtain ⟨a, dx, fs, t, rfl, ha, ty, nf, h⟩ := hq
  cases rp
  show wpAny (model X.prog X.w) X.A (richCompare .NotEq (.ref a) u) (EP X pins σ Q) X.xe s
  obtain ⟨mA, J, _⟩ := ins_get I.hok ha
  obtain ⟨od, J, _⟩ := J.look
  obtain ⟨P, Z, p, _⟩ := kit_of I rz ty
  exact ne_own (by have := hr.un; omega) I.kIn J (Z.ty _ _ I.kIn p) nf O.ne O.ob O.eq O.fn (run_ownEq O F hb hx hr.in1 rfl I rz h)
end
end Gw
namespace Gw
open PySem PySem.Spec PyProof.Rows L2
/-! ### the law's draw: a dict of a list, a number, a list, a number -/
def kvD (l c : Addr) (r t : Int) : List (Key × V) := [(.inr "large", .ref l), (.inr "rest", .int r), (.inr "cells", .ref c), (.inr "turn", .int t)]
theorem k_lr : ¬ (Sum.inr "large" : Key) = .inr "rest" := by decide +kernel
theorem k_lc : ¬ (Sum.inr "large" : Key) = .inr "cells" := by decide +kernel
theorem k_lt : ¬ (Sum.inr "large" : Key) = .inr "turn" := by decide +kernel
theorem k_rc : ¬ (Sum.inr "rest" : Key) = .inr "cells" := by decide +kernel
theorem k_rt : ¬ (Sum.inr "rest" : Key) = .inr "turn" := by decide +kernel
theorem k_ct : ¬ (Sum.inr "cells" : Key) = .inr "turn" := by decide +kernel
section
variable {H : Hp} {d l c : Addr} {r t : Int}
theorem vD_large : valV (kvD l c r t) (.inr "large") = some (.ref l) := valV_pos rfl
theorem vD_rest : valV (kvD l c r t) (.inr "rest") = some (.int r) := (valV_neg k_lr).trans (valV_pos rfl)
theorem vD_cells : valV (kvD l c r t) (.inr "cells") = some (.ref c) := (valV_neg k_lc).trans ((valV_neg k_rc).trans (valV_pos rfl))
theorem vD_turn : valV (kvD l c r t) (.inr "turn") = some (.int t) := (valV_neg k_lt).trans ((valV_neg k_rt).trans ((valV_neg k_ct).trans (valV_pos rfl)))
theorem put_some {kvs : List (Key × V)} {k : Key} {v w : V} (h : valV kvs k = some v) : putK kvs k w = kvs.map fun kv => if kv.1 = k then (kv.1, w) else kv := by
  have e := valV_any k kvs
  rw [h] at e
  unfold putK
  rw [e]
  rfl
theorem pD_rest {r' : Int} : putK (kvD l c r t) (.inr "rest") (.int r') = kvD l c r' t := by
  rw [put_some vD_rest]
  simp only [kvD, List.map_cons, List.map_nil, if_neg k_lr, if_neg (fun e => k_rc (Eq.symm e) : ¬ (Sum.inr "cells" : Key) = .inr "rest"), if_neg (fun e => k_rt (Eq.symm e) : ¬ (Sum.inr "turn" : Key) = .inr "rest"), if_true]
theorem pD_turn {t' : Int} : putK (kvD l c r t) (.inr "turn") (.int t') = kvD l c r t' := by
  rw [put_some vD_turn]
  simp only [kvD, List.map_cons, List.map_nil, if_neg k_lt, if_neg k_rt, if_neg k_ct, if_true]
theorem gD_large (h : H d = some (.dK (kvD l c r t))) : DGet H d (.str "large") (some (.ref l)) := by have g := DGet.k (k := .inr "large") h; rw [vD_large] at g; exact g
theorem gD_rest (h : H d = some (.dK (kvD l c r t))) : DGet H d (.str "rest") (some (.int r)) := by have g := DGet.k (k := .inr "rest") h; rw [vD_rest] at g; exact g
theorem gD_cells (h : H d = some (.dK (kvD l c r t))) : DGet H d (.str "cells") (some (.ref c)) := by have g := DGet.k (k := .inr "cells") h; rw [vD_cells] at g; exact g
theorem gD_turn (h : H d = some (.dK (kvD l c r t))) : DGet H d (.str "turn") (some (.int t)) := by have g := DGet.k (k := .inr "turn") h; rw [vD_turn] at g; exact g
theorem uD_rest {r' : Int} (h : H d = some (.dK (kvD l c r t))) : DPut H d (.str "rest") (.int r') (upd H d (.dK (kvD l c r' t))) := by
  have g := DPut.k (k := .inr "rest") (v := .int r') h (by show 4 < sizeLine; decide)
  rw [pD_rest] at g
  exact g
theorem uD_turn {t' : Int} (h : H d = some (.dK (kvD l c r t))) : DPut H d (.str "turn") (.int t') (upd H d (.dK (kvD l c r t'))) := by
  have g := DPut.k (k := .inr "turn") (v := .int t') h (by show 4 < sizeLine; decide)
  rw [pD_turn] at g
  exact g
end
/-- a draw stands at d, its large numbers at l, its cells at c -/
structure Drw (H : Hp) (d l c : Addr) : Prop where
  ne : l ≠ c
  at' : ∃ (r t : Int) (ls cs : List Int), H d = some (.dK (kvD l c r t)) ∧ H l = some (.lst (ls.map V.int)) ∧ H c = some (.lst (cs.map V.int)) ∧ ls.length ≤ 63 ∧ cs.length ≤ 63
/-- what a draw's deed leaves: all but d and l stand as they stood -/
structure Nd (d l : Addr) (H H' : Hp) : Prop where
  hh : ∀ a o, a ≠ d → a ≠ l → H a = some o → H' a = some o
theorem Nd.refl {d l : Addr} {H : Hp} : Nd d l H H := ⟨fun _ _ _ _ h => h⟩
theorem Nd.trans {d l : Addr} {H H1 H2 : Hp} (a : Nd d l H H1) (b : Nd d l H1 H2) : Nd d l H H2 := ⟨fun x o h1 h2 h => b.hh x o h1 h2 (a.hh x o h1 h2 h)⟩
theorem Nd.of {d l : Addr} {H H' : Hp} (s : Same H H') : Nd d l H H' := ⟨fun a o _ _ h => s a o h⟩
theorem Nd.updD {d l : Addr} {H : Hp} {o : HO} : Nd d l H (upd H d o) := ⟨fun a u h1 _ h => by rw [upd_ne h1]; exact h⟩
theorem Nd.updL {d l : Addr} {H : Hp} {o : HO} : Nd d l H (upd H l o) := ⟨fun a u _ h2 h => by rw [upd_ne h2]; exact h⟩
theorem Drw.same {H H' : Hp} {d l c : Addr} (D : Drw H d l c) (s : Same H H') : Drw H' d l c := by
  obtain ⟨r, t, ls, cs, h1, h2, h3, h4, h5⟩ := D.at'
  exact ⟨D.ne, r, t, ls, cs, s _ _ h1, s _ _ h2, s _ _ h3, h4, h5⟩
theorem Drw.dl {H : Hp} {d l c : Addr} (D : Drw H d l c) : d ≠ l ∧ d ≠ c := by
  obtain ⟨r, t, ls, cs, h1, h2, h3, h4, h5⟩ := D.at'
  exact ⟨ne_of h1 h2 (fun z => nomatch z), ne_of h1 h3 (fun z => nomatch z)⟩
/-- the view beside a draw -/
structure Vw (G H : Hp) (d l c : Addr) : Prop where
  gh : Same G H
  gd : G d = none
  gl : G l = none
  gc : G c = none
  dr : Drw H d l c
/-- one deed or many: the view grows by what is new, the draw stands -/
structure Nw (d l c : Addr) (G H G' H' : Hp) : Prop where
  gg : Same G G'
  vw : Vw G' H' d l c
  nd : Nd d l H H'
  fr : ∀ a, H a ≠ none → G' a = G a
theorem Nw.refl {d l c : Addr} {G H : Hp} (v : Vw G H d l c) : Nw d l c G H G H := ⟨Same.refl G, v, Nd.refl, fun _ _ => rfl⟩
theorem Nw.keeps {d l c : Addr} {G H G' H' : Hp} (n : Nw d l c G H G' H') {a : Addr} (h : H a ≠ none) : H' a ≠ none := by
  cases q : H a with
  | none => exact absurd q h
  | some o =>
    by_cases h1 : a = d
    · obtain ⟨r, t, ls, cs, e, _⟩ := n.vw.dr.at'
      rw [h1, e]; exact fun z => nomatch z
    · by_cases h2 : a = l
      · obtain ⟨r, t, ls, cs, _, e, _⟩ := n.vw.dr.at'
        rw [h2, e]; exact fun z => nomatch z
      · rw [n.nd.hh a o h1 h2 q]; exact fun z => nomatch z
theorem Nw.trans {d l c : Addr} {G H G1 H1 G2 H2 : Hp} (a : Nw d l c G H G1 H1) (b : Nw d l c G1 H1 G2 H2) : Nw d l c G H G2 H2 :=
  ⟨a.gg.trans b.gg, b.vw, a.nd.trans b.nd, fun x h => (b.fr x (a.keeps h)).trans (a.fr x h)⟩
theorem Nw.of {d l c : Addr} {G H G' H' : Hp} (v : Vw G H d l c) (n : Nx G H G' H') : Nw d l c G H G' H' := by
  obtain ⟨r, t, ls, cs, h1, h2, h3, h4, h5⟩ := v.dr.at'
  exact ⟨n.gg, ⟨n.gh, (n.fr d (ne_none h1)).trans v.gd, (n.fr l (ne_none h2)).trans v.gl, (n.fr c (ne_none h3)).trans v.gc, v.dr.same n.hh⟩, Nd.of n.hh, n.fr⟩
/-- a deed upon the draw alone -/
theorem Nw.draw {d l c : Addr} {G H H' : Hp} (v : Vw G H d l c) (n : Nd d l H H') (D : Drw H' d l c) : Nw d l c G H G H' :=
  ⟨Same.refl G, ⟨fun a o e => n.hh a o (fun z => by rw [z, v.gd] at e; cases e) (fun z => by rw [z, v.gl] at e; cases e) (v.gh a o e), v.gd, v.gl, v.gc, D⟩, n, fun _ _ => rfl⟩
/-! ### the promises of the draw's defs -/
def spBegun (K : PySem.W.Frag) : Sp := fun vs H Q _ => ∃ (a : Addr) (ns : List Int), vs = [.ref a] ∧ SqL K H a (ns.map V.int) ∧ ns.length ≤ 63 ∧ ∀ d l c H', Same H H' → H d = none → H l = none → H c = none → Drw H' d l c → Q (.ref d) H'
def spMixed : Sp := fun vs H Q _ => ∃ d l c, vs = [.ref d] ∧ Drw H d l c ∧ ∀ i H', Nd d l H H' → Drw H' d l c → Q (.int i) H'
def spTake : Sp := fun vs H Q _ => ∃ d l c n, vs = [.ref d, .int n] ∧ Drw H d l c ∧ 0 < n ∧ n < 1000000000 ∧ ∀ (k : Int) H', 0 ≤ k → k < n → Nd d l H H' → Drw H' d l c → Q (.int k) H'
def spPick (K : PySem.W.Frag) : Sp := fun vs H Q _ => ∃ d l c a xs, vs = [.ref d, .ref a] ∧ Drw H d l c ∧ a ≠ l ∧ SqL K H a xs ∧ 0 < xs.length ∧ xs.length < 1000000 ∧ ∀ v H', v ∈ xs → Nd d l H H' → Drw H' d l c → Q v H'
/-- several ways that meet behind a statement -/
theorem seq_cut {t u : TS} {D : Ends} {σ : L2.St} {H : Hp} (P : L2.St → Hp → Prop) (hu : ∀ σ' H', P σ' H' → u D σ' H') (ht : (∀ σ' H', P σ' H' → u D σ' H') → t { D with nx := u D } σ H) : tSeq t u D σ H := ht hu
theorem seqIx {k n : Nat} (h : k < n) : seqIndex? (k : Int) n = some k := by
  unfold seqIndex?
  simp
  omega
theorem if_off {A B : Hp → Prop} {b : Bool} {H : Hp} (hb : b = false) (h : B H) : if b = true then A H else B H := by
  subst hb
  exact iteF h
theorem if_on {A B : Hp → Prop} {b : Bool} {H : Hp} (hb : b = true) (h : A H) : if b = true then A H else B H := by
  subst hb
  exact iteT h
theorem fmod_in {i j : Int} (h : 0 < j) : 0 ≤ i.fmod j ∧ i.fmod j < j := by
  rw [Int.fmod_eq_emod_of_nonneg _ (Int.le_of_lt h)]
  exact ⟨Int.emod_nonneg _ (by omega), Int.emod_lt_of_pos _ h⟩
theorem abs_if (i : Int) : (if i < 0 then -i else i) = ((i.natAbs : Nat) : Int) := by
  split <;> omega
end Gw
namespace Gw
open PySem PySem.Spec PyProof.Rows L2
/-! ### statements over a view -/
section
variable {K : PySem.W.Frag} {σ : L2.St} {G H : Hp} {te ta tb : TE} {tt tu : TT} {tA tR : TA} {d e z : PyData} {ds es : List PyData} {t u : TS} {D : Ends}
theorem seq_let {i : Nat} (h : EvD K te σ G d) (s : Same G H) (k : ∀ v G1 H1, Nx G H G1 H1 → Dp K G1 v d → u D (σ.set i (some v)) H1) : tSeq (tAsg te (gName i)) u D σ H := h H s _ fun v G1 H1 n hd => k v G1 H1 n hd
theorem asg_let {i : Nat} (h : EvD K te σ G d) (s : Same G H) (k : ∀ v G1 H1, Nx G H G1 H1 → Dp K G1 v d → D.nx (σ.set i (some v)) H1) : tAsg te (gName i) D σ H := h H s _ fun v G1 H1 n hd => k v G1 H1 n hd
theorem seq_letN {i : Nat} (h : EvN K te σ G ds) (s : Same G H) (k : ∀ p vs G1 H1, Nx G H G1 H1 → H p = none → H1 p = some (.lst vs) → DpAll K G1 vs ds → u D (σ.set i (some (.ref p))) H1) : tSeq (tAsg te (gName i)) u D σ H := h H s _ fun p vs G1 H1 n hp _ e ha => k p vs G1 H1 n hp e ha
theorem seq_chk (h : EvB K tt σ G false) (s : Same G H) (k : ∀ G1 H1, Nx G H G1 H1 → u D σ H1) : tSeq (tIfS tt t tNext) u D σ H := h H s _ fun G1 H1 n => if_off rfl (k G1 H1 n)
theorem if_chk (h : EvB K tt σ G false) (s : Same G H) (k : ∀ G1 H1, Nx G H G1 H1 → D.nx σ H1) : tIfS tt t tNext D σ H := h H s _ fun G1 H1 n => if_off rfl (k G1 H1 n)
theorem eb_or0 (h1 : EvB K tt σ G false) (h2 : EvB K tu σ G false) : EvB K (tOr tt tu) σ G false := eb_or (a := false) (b := false) h1 fun _ => h2
theorem g21_dp {G' : Hp} {vs zs : List V} {x y : PyData} (h : DpAll K G' vs []) (h' : DpAll K G' zs [x, y]) : DpAll K G' (g21 vs zs) [y, x] := by
  cases h
  obtain _ | ⟨a, _ | ⟨b, _ | _⟩⟩ := h'
  exact .cons b (.cons a .nil)
end
end Gw
namespace Gw
open PySem PySem.Spec PyProof.Rows L2
theorem k_rl : ¬ (Sum.inr "rest" : Key) = .inr "large" := fun e => k_lr e.symm
theorem merge_kvD (l c : Addr) (r t : Int) : mergeK [] (kvD l c r t) = kvD l c r t := by
  unfold mergeK kvD
  simp only [List.foldl_cons, List.foldl_nil]
  rw [putK_new (kvs := []) _ valV_nil]
  rw [putK_new (kvs := [] ++ [_]) _ ((valV_neg (show ¬ (Sum.inr "large" : Key) = .inr "rest" from k_lr)).trans valV_nil)]
  rw [putK_new (kvs := [] ++ [_] ++ [_]) _ ((valV_neg k_lc).trans ((valV_neg k_rc).trans valV_nil))]
  rw [putK_new (kvs := [] ++ [_] ++ [_] ++ [_]) _ ((valV_neg k_lt).trans ((valV_neg k_rt).trans ((valV_neg k_ct).trans valV_nil)))]
  rfl
/-- ints told one by one -/
theorem ints_get {xs : List Int} {i : Nat} {v : V} (h : (xs.map V.int)[i]? = some v) : ∃ n, xs[i]? = some n ∧ v = .int n := by
  rw [List.getElem?_map] at h
  cases e : xs[i]? with
  | none => rw [e] at h; cases h
  | some n => rw [e] at h; exact ⟨n, rfl, (Option.some.inj h).symm⟩
theorem shaped_ints (zs : List Int) : SeqAt.shaped (.list (zs.map .int)) = true := by
  have e1 : ∀ zs : List Int, PyData.canLayAll0 (zs.map .int) = true := fun zs => by
    induction zs with
    | nil => rfl
    | cons z zs ih => rw [List.map_cons, PyData.canLayAll0, ih]; rfl
  have e2 : ∀ zs : List Int, PyData.depthAll (zs.map .int) = 0 := fun zs => by
    induction zs with
    | nil => rfl
    | cons z zs ih => rw [List.map_cons, PyData.depthAll, ih]; rfl
  unfold SeqAt.shaped
  rw [Bool.and_eq_true]
  refine ⟨?_, decide_eq_true ?_⟩
  · rw [PyData.canLay0]; exact e1 zs
  · rw [PyData.depth, e2 zs]; decide
theorem shaped_intsT (zs : List Int) : SeqAt.shaped (.tuple (zs.map .int)) = true := by
  have e1 : ∀ zs : List Int, PyData.canLayAll0 (zs.map .int) = true := fun zs => by
    induction zs with
    | nil => rfl
    | cons z zs ih => rw [List.map_cons, PyData.canLayAll0, ih]; rfl
  have e2 : ∀ zs : List Int, PyData.depthAll (zs.map .int) = 0 := fun zs => by
    induction zs with
    | nil => rfl
    | cons z zs ih => rw [List.map_cons, PyData.depthAll, ih]; rfl
  unfold SeqAt.shaped
  rw [Bool.and_eq_true]
  refine ⟨?_, decide_eq_true ?_⟩
  · rw [PyData.canLay0]; exact e1 zs
  · rw [PyData.depth, e2 zs]; decide
/-- left != [] -/
theorem ne_nil {K : PySem.W.Frag} {σ : L2.St} {H : Hp} {i : Nat} {p : Addr} {zs : List Int} {Q : V → Hp → Prop} (hσ : σ[i]? = some (some (.ref p))) (hp : H p = some (.lst (zs.map V.int)))
    (q : ∀ H', Same H H' → (∀ a, a ≠ p → H' a ≠ H a → H a = none) → Q (.bl (!zs.isEmpty)) H') : tOp (rNeD K) (tVar i) (tLst tNil) σ H Q := by
  refine ⟨_, hσ, Nat.zero_le _, fun x hx => ?_⟩
  have hpx : p ≠ x := ne_of_none hp hx
  have s : Same H (upd H x (.lst [])) := fun a o e => by rw [upd_ne (ne_of_none e hx)]; exact e
  refine ⟨.list (zs.map .int), .list [], .lst (SqL.of (s _ _ hp)) (dpa_ints zs), .lst (SqL.of upd_same) .nil, shaped_ints zs, by decide, ?_⟩
  have e : (!PyData.eqv (.list (zs.map .int)) (.list [])) = !zs.isEmpty := by
    cases zs with
    | nil => rfl
    | cons z zs => rfl
  rw [e]
  refine q _ s fun a h1 h2 => ?_
  by_cases hax : a = x
  · rw [hax]; exact hx
  · rw [upd_ne hax] at h2; exact absurd rfl h2
theorem seq_asg {te : TE} {i : Nat} {u : TS} {D : Ends} {σ : L2.St} {H : Hp} (h : te σ H fun x H1 => u D (σ.set i (some x)) H1) : tSeq (tAsg te (gName i)) u D σ H := h
theorem tp_c {k : V} {tv : TE} {trs : List (TE × TE)} {σ : L2.St} {H : Hp} {Q : List (V × V) → Hp → Prop} (h : tv σ H fun v H2 => tPairs trs σ H2 fun ps H3 => Q ((k, v) :: ps) H3) : tPairs ((tC k, tv) :: trs) σ H Q := h
theorem tp_cc {k v : V} {trs : List (TE × TE)} {σ : L2.St} {H : Hp} {Q : List (V × V) → Hp → Prop} (h : tPairs trs σ H fun ps H3 => Q ((k, v) :: ps) H3) : tPairs ((tC k, tC v) :: trs) σ H Q := h
theorem tyes {σ : L2.St} {H : Hp} {A B : Hp → Prop} (h : A H) : tYes σ H fun b H3 => if b = true then A H3 else B H3 := h
theorem map_eraseIdx {α β : Type} (f : α → β) : ∀ (l : List α) (j : Nat), (l.map f).eraseIdx j = (l.eraseIdx j).map f
  | [], _ => rfl
  | _ :: _, 0 => rfl
  | a :: l, j + 1 => by
    show f a :: (l.map f).eraseIdx j = f a :: (l.eraseIdx j).map f
    rw [map_eraseIdx f l j]
theorem erase_perm {α : Type} : ∀ (l : List α) (j : Nat) (h : j < l.length), (l[j] :: l.eraseIdx j).Perm l
  | a :: l, 0, _ => List.Perm.refl _
  | a :: l, j + 1, h => by
    have h' : j < l.length := by rw [List.length_cons] at h; omega
    show (l[j] :: a :: l.eraseIdx j).Perm (a :: l)
    exact (List.Perm.swap a l[j] _).trans ((erase_perm l j h').cons a)
/-! ### promises of the law's makers -/
def spShuf (K : PySem.W.Frag) : Sp := fun vs H Q _ => ∃ (d l c a : Addr) (ns : List Int), vs = [.ref d, .ref a] ∧ Drw H d l c ∧ SqL K H a (ns.map V.int) ∧ ns.length ≤ 63 ∧
  ∀ (p : Addr) (ms : List Int) (H' : Hp), ms.Perm ns → H p = none → H' p = some (.lst (ms.map V.int)) → Nd d l H H' → Drw H' d l c → Q (.ref p) H'
/-- letters and what undoes them -/
structure IsBk (bs : List Int) : Prop where
  two : 2 ≤ bs.length
  six : bs.length ≤ 12
  inv : ∀ k : Nat, k < bs.length → ∃ j : Nat, bs[k]? = some (j : Int) ∧ bs[j]? = some (k : Int)
def spBack : Sp := fun vs H Q _ => ∃ d l c, vs = [.ref d] ∧ Drw H d l c ∧ ∀ (p : Addr) (bs : List Int) (H' : Hp), IsBk bs → bs.length ≤ 6 → H p = none → H' p = some (.tup (bs.map V.int)) → Nd d l H H' → Drw H' d l c → Q (.ref p) H'
def Letters (n : Nat) (ws : List Int) : Prop := ∀ x ∈ ws, 0 ≤ x ∧ x < (n : Int)
def spWord (K : PySem.W.Frag) : Sp := fun vs H Q _ => ∃ (d l c b : Addr) (xs : List V) (m : Int), vs = [.ref d, .ref b, .int m] ∧ Drw H d l c ∧ SqT K H b xs ∧ 0 < xs.length ∧ xs.length < 1000 ∧ 0 ≤ m ∧ m < 100000 ∧
  ∀ (p : Addr) (ws : List Int) (H' : Hp), (ws.length : Int) ≤ m → Letters xs.length ws → H p = none → H' p = some (.tup (ws.map V.int)) → Nd d l H H' → Drw H' d l c → Q (.ref p) H'
theorem Nd.seqT {K : PySem.W.Frag} {d l c b : Addr} {H H' : Hp} {xs : List V} (n : Nd d l H H') (D : Drw H d l c) (h : SqT K H b xs) : SqT K H' b xs := by
  obtain ⟨r, t, ls, cs, h1, h2, h3, h4, h5⟩ := D.at'
  rcases h with (e | ⟨o, e⟩) | e
  · exact SqT.of (n.hh b _ (ne_of e h1 (fun z => nomatch z)) (ne_of e h2 (fun z => nomatch z)) e)
  · exact .inl (.inr ⟨o, n.hh b _ (ne_of e h1 (fun z => nomatch z)) (ne_of e h2 (fun z => nomatch z)) e⟩)
  · exact .inr e
theorem Drw.upd {d l c p : Addr} {H : Hp} {o : HO} (D : Drw H d l c) (h1 : p ≠ d) (h2 : p ≠ l) (h3 : p ≠ c) : Drw (L2.upd H p o) d l c := by
  obtain ⟨r, t, ls, cs, e1, e2, e3, h4, h5⟩ := D.at'
  exact ⟨D.ne, r, t, ls, cs, by rw [upd_ne (Ne.symm h1)]; exact e1, by rw [upd_ne (Ne.symm h2)]; exact e2, by rw [upd_ne (Ne.symm h3)]; exact e3, h4, h5⟩
/-- an address that is new is none of the draw's -/
theorem Drw.off {d l c p : Addr} {H : Hp} (D : Drw H d l c) (hp : H p = none) : p ≠ d ∧ p ≠ l ∧ p ≠ c := by
  obtain ⟨r, t, ls, cs, e1, e2, e3, h4, h5⟩ := D.at'
  exact ⟨Ne.symm (ne_of_none e1 hp), Ne.symm (ne_of_none e2 hp), Ne.symm (ne_of_none e3 hp)⟩
end Gw
namespace Gw
open PySem PySem.Spec PyProof.Rows L2 LamX
/-! ### views without tables -/
def noT (G : Hp) : Hp := fun a => match G a with | some (.tbl _) => none | o => o
theorem noT_of {G : Hp} {a : Addr} {o : HO} (h : G a = some o) (n : ∀ ps, o ≠ .tbl ps) : noT G a = some o := by
  unfold noT
  rw [h]
  split
  · rename_i ps e; exact absurd (Option.some.inj e) (n ps)
  · rfl
theorem noT_inv {G : Hp} {a : Addr} {o : HO} (h : noT G a = some o) : G a = some o ∧ ∀ ps, o ≠ .tbl ps := by
  unfold noT at h
  split at h
  · cases h
  · rename_i x
    exact ⟨h, fun ps e => x ps (by rw [h, e])⟩
theorem noT_same {G : Hp} : Same (noT G) G := fun a o h => (noT_inv h).1
theorem noT_ext {G H H' : Hp} (s : Same (noT G) H) (e : ExtN H H') : Same (noT G) H' := fun a o h => e a o (s a o h) (noT_inv h).2
theorem noT_mono {G H : Hp} (s : Same G H) : Same (noT G) (noT H) := fun a o h => noT_of (s _ _ (noT_inv h).1) (noT_inv h).2
theorem noT_none {G : Hp} {a : Addr} (h : G a = none) : noT G a = none := by unfold noT; rw [h]
theorem sqT_noT {K : PySem.W.Frag} {G : Hp} {a : Addr} {xs : List V} (h : SqT K G a xs) : SqT K (noT G) a xs := by
  rcases h with (h | ⟨o, h⟩) | h
  · exact .inl (.inl (noT_of h fun _ z => nomatch z))
  · exact .inl (.inr ⟨o, noT_of h fun _ z => nomatch z⟩)
  · exact .inr h
theorem sqL_noT {K : PySem.W.Frag} {G : Hp} {a : Addr} {xs : List V} (h : SqL K G a xs) : SqL K (noT G) a xs := by
  rcases h with (h | ⟨o, h⟩) | h
  · exact .inl (.inl (noT_of h fun _ z => nomatch z))
  · exact .inl (.inr ⟨o, noT_of h fun _ z => nomatch z⟩)
  · exact .inr h
mutual
theorem dp_noT {K : PySem.W.Frag} {H : Hp} : ∀ (d : PyData) {v : V}, Dp K H v d → Dp K (noT H) v d
  | .none, _, .non => .non
  | .bool b, _, .bl _ => .bl b
  | .int i, _, .int _ => .int i
  | .str x, _, .str _ => .str x
  | .list ds, _, .lst hs ha => .lst (sqL_noT hs) (dpa_noT ds ha)
  | .tuple ds, _, .tup hs ha => .tup (sqT_noT hs) (dpa_noT ds ha)
theorem dpa_noT {K : PySem.W.Frag} {H : Hp} : ∀ (ds : List PyData) {vs : List V}, DpAll K H vs ds → DpAll K (noT H) vs ds
  | [], _, .nil => .nil
  | d :: ds, _, .cons h t => .cons (dp_noT d h) (dpa_noT ds t)
end
theorem Drw.noT {H : Hp} {d l c : Addr} (D : Drw H d l c) : Drw (noT H) d l c := by
  obtain ⟨r, t, ls, cs, h1, h2, h3, h4, h5⟩ := D.at'
  exact ⟨D.ne, r, t, ls, cs, noT_of h1 (fun _ z => nomatch z), noT_of h2 (fun _ z => nomatch z), noT_of h3 (fun _ z => nomatch z), h4, h5⟩
/-! ### what a draw's deed leaves -/
theorem Nd.off {d l c b : Addr} {H H' : Hp} {o : HO} (n : Nd d l H H') (D : Drw H d l c) (h : H b = some o) (n1 : ∀ kvs, o ≠ .dK kvs) (n2 : ∀ xs, o ≠ .lst xs) : H' b = some o := by
  obtain ⟨r, t, ls, cs, h1, h2, h3, h4, h5⟩ := D.at'
  exact n.hh b o (ne_of h h1 (n1 _)) (ne_of h h2 (n2 _)) h
theorem tabs_nd {T : List (Addr × Str)} {d l c : Addr} {H H' : Hp} (t : Tabs T H) (n : Nd d l H H') (D : Drw H d l c) : Tabs T H' := fun p hp => by
  obtain ⟨ps, h1, h2, h3⟩ := t p hp
  refine ⟨ps, n.off D h1 (fun _ z => nomatch z) (fun _ z => nomatch z), h2, fun pos cv hc => ?_⟩
  obtain ⟨c0, e1, e2⟩ := h3 pos cv hc
  exact ⟨c0, e1, n.off D e2 (fun _ z => nomatch z) (fun _ z => nomatch z)⟩
theorem tabs_same {T : List (Addr × Str)} {H H' : Hp} (t : Tabs T H) (s : Same H H') : Tabs T H' := t.ext s
theorem tabs_one {H : Hp} {P : Addr} {q : Str} (h : H P = some (.tbl #[])) : Tabs [(P, q)] H := fun p hp => by
  rw [List.mem_singleton.mp hp]
  exact TabS.nil h
/-! data without lists -/
mutual
def noL : PyData → Bool
  | .list _ => false
  | .dict _ => false
  | .tuple ds => noLA ds
  | _ => true
def noLA : List PyData → Bool
  | [] => true
  | d :: ds => noL d && noLA ds
end
mutual
theorem dp_nd {K : PySem.W.Frag} {d l c : Addr} {H H' : Hp} (n : Nd d l H H') (D : Drw H d l c) : ∀ (x : PyData) {v : V}, noL x = true → Dp K H v x → Dp K H' v x
  | .none, _, _, .non => .non
  | .bool b, _, _, .bl _ => .bl b
  | .int i, _, _, .int _ => .int i
  | .str x, _, _, .str _ => .str x
  | .tuple ds, _, z, .tup hs ha => .tup (n.seqT D hs) (dpa_nd n D ds (by rw [noL] at z; exact z) ha)
theorem dpa_nd {K : PySem.W.Frag} {d l c : Addr} {H H' : Hp} (n : Nd d l H H') (D : Drw H d l c) : ∀ (ds : List PyData) {vs : List V}, noLA ds = true → DpAll K H vs ds → DpAll K H' vs ds
  | [], _, _, .nil => .nil
  | x :: ds, _, z, .cons h t => by
    rw [noLA, Bool.and_eq_true] at z
    exact .cons (dp_nd n D x z.1 h) (dpa_nd n D ds z.2 t)
end
theorem noLA_ints : ∀ ns : List Int, noLA (ns.map .int) = true
  | [] => rfl
  | n :: ns => by rw [List.map_cons, noLA, noLA_ints ns]; rfl
/-! ### lambdas are no codes -/
theorem lam_code {f : Addr} {q q2 : Str} {params : Arguments} {body : Expr} {scope : Scope} {cl : List (Str × Addr)} {c' : Addr} : LamO f q params body scope cl c' ≠ CodeO f q2 := fun z => by
  have e := HO.ext.inj z
  let o := PySem.W.kla_obj "<lambda>" q params body scope cl .none c' .none
  let h0 : Heap := ⟨Array.replicate f default, {}⟩
  have g : (h0.push o).get? f = some o := by
    have := Heap.get?_push_size (o := o) h0 rfl
    have e2 : h0.objs.size = f := Array.size_replicate
    rw [e2] at this
    exact this
  have h1 : LamAt f q params body scope cl c' (h0.push o) := ⟨.none, .none, g⟩
  rw [e] at h1
  obtain ⟨oc, vs, t, g2, d, _⟩ := h1
  rw [g] at g2
  cases g2
  cases d
theorem tabs_del {T : List (Addr × Str)} {H : Hp} {f : Addr} {q : Str} {params : Arguments} {body : Expr} {scope : Scope} {cl : List (Str × Addr)} {c' : Addr} (t : Tabs T H) (hf : H f = some (LamO f q params body scope cl c')) : Tabs T (delH H f) := fun p hp => by
  obtain ⟨ps, h1, h2, h3⟩ := t p hp
  refine ⟨ps, (delH_ne (ne_of h1 hf fun z => nomatch z)).trans h1, h2, fun pos cv hc => ?_⟩
  obtain ⟨c0, e1, e2⟩ := h3 pos cv hc
  refine ⟨c0, e1, (delH_ne fun z => ?_).trans e2⟩
  subst z
  rw [hf] at e2
  exact lam_code (Option.some.inj e2)
theorem code_ne {H : Hp} {f c1 : Addr} {q q2 : Str} {params : Arguments} {body : Expr} {scope : Scope} {cl : List (Str × Addr)} {c' : Addr} (hf : H f = some (LamO f q params body scope cl c')) (hc : H c1 = some (CodeO c1 q2)) : c1 ≠ f := fun z => by
  subst z
  rw [hf] at hc
  exact lam_code (Option.some.inj hc)
theorem same_del {G H : Hp} {f : Addr} (s : Same G H) (g : G f = none) : Same G (delH H f) := fun a o h => (delH_ne (ne_of_none h g)).trans (s a o h)
theorem pick_go {K : PySem.W.Frag} {H : Hp} {d l c p : Addr} {xs : List V} {Q : VK} {E : XK} (D : Drw H d l c) (hp : H p = none) (h0 : 0 < xs.length) (h1 : xs.length < 100) (q : ∀ v H', v ∈ xs → Nd d l H H' → Drw H' d l c → Q v H') : spPick K [.ref d, .ref p] (upd H p (.lst xs)) Q E := by
  obtain ⟨o1, o2, o3⟩ := D.off hp
  have s : Same H (upd H p (.lst xs)) := fun b o e => by rw [upd_ne (ne_of_none e hp)]; exact e
  exact ⟨d, l, c, p, xs, rfl, D.upd o1 o2 o3, o2, SqL.of upd_same, h0, by omega, fun v H' hv n D' => q v H' hv ((Nd.of s).trans n) D'⟩
theorem same_upd {H : Hp} {p : Addr} {o : HO} (hp : H p = none) : Same H (upd H p o) := fun b u e => by rw [upd_ne (ne_of_none e hp)]; exact e
theorem rgV_ints (lo hi : Int) : rgV lo hi = ((List.range (hi - lo).toNat).map fun (i : Nat) => lo + (i : Int)).map V.int := by unfold rgV; rw [List.map_map]; rfl
theorem ro_repT {K : PySem.W.Frag} {ds : List PyData} {k : Int} (hne : ds ≠ []) (h1 : 2 ≤ k) (h2 : k ≤ 1000) (hz : ds.length ≤ 1000) : ROp K (rRepT K) (.tuple ds) (.int k) (.tuple (List.replicate k.toNat ds).flatten) := fun G H s vx vy dx dy Q q => by
  rw [dp_int dy]
  cases dx with
  | @tup a xs _ hs ha =>
    have l1 := dpa_length ha
    refine ⟨a, k, xs, rfl, rfl, same_tup s hs, fun e => hne ?_, h1, h2, by omega, fun p hp => ?_⟩
    · subst e; cases ha; rfl
    · have n := Nx.new (o := .tup (List.replicate k.toNat xs).flatten) s hp
      refine q _ _ _ n (.tup (SqT.of upd_same) ?_)
      have rep : ∀ m : Nat, DpAll K (L2.upd G p (.tup (List.replicate k.toNat xs).flatten)) (List.replicate m xs).flatten (List.replicate m ds).flatten := fun m => by
        induction m with
        | zero => exact .nil
        | succ m ih => rw [List.replicate_succ, List.replicate_succ, List.flatten_cons, List.flatten_cons]; exact dpa_append (dpa_mono n.gg _ ha) ih
      exact rep _
theorem rcl_listT {K : PySem.W.Frag} {ds : List PyData} : RCl K (rListQ K) [.tuple ds] (.list ds) := fun G H s vs hv Q q => by
  cases hv with
  | cons h t =>
    cases t
    cases h with
    | @tup a xs _ hs ha =>
      refine ⟨_, _, rfl, .inr (same_tup s hs), fun l hl => ?_⟩
      have n := Nx.new (o := .lst xs) s hl
      exact q _ _ _ n (.lst (SqL.of upd_same) (dpa_mono n.gg _ ha))
theorem seq_forN {K : PySem.W.Frag} {tl : TE} {g : TG} {tb u : TS} {D : Ends} {σ : L2.St} {G H : Hp} {ds : List PyData} (h : EvN K tl σ G ds) (s : Same G H)
    (k : ∀ p vs G1 H1, Nx G H G1 H1 → H p = none → H1 p = some (.lst vs) → DpAll K G1 vs ds → tFor (iList K (tC (.ref p))) g tb { D with nx := u D } σ H1) : tSeq (tFor (iList K tl) g tb) u D σ H := h H s _ fun p vs G' H' n hp _ e ha => k p vs G' H' n hp e ha
theorem lay_ints (zs : List Int) : ∀ d ∈ zs.map PyData.int, d.canLay0 = true ∧ d.depth ≤ 2 := fun d hd => by
  obtain ⟨z, _, rfl⟩ := List.mem_map.mp hd
  exact ⟨rfl, by simp [PyData.depth]⟩
theorem g1_dp {K : PySem.W.Frag} {G' : Hp} {vs zs : List V} {x : PyData} (h : DpAll K G' vs []) (h' : DpAll K G' zs [x]) : DpAll K G' (g1 vs zs) [x] := by
  cases h
  obtain _ | ⟨a, _ | _⟩ := h'
  exact .cons a .nil
theorem th_noT {K : PySem.W.Frag} {G : Hp} {v : V} {x : PyData} (h : Th K G v x) : Th K (noT G) v x := h.imp (dp_noT x) fun ⟨e, p, e1, e2⟩ => ⟨e, p, e1, noT_of e2 fun _ z => nomatch z⟩
/-- lists of things -/
def ThA (K : PySem.W.Frag) (G : Hp) (vs : List V) (ds : List PyData) : Prop := ∀ (i : Nat) (v : V), vs[i]? = some v → ∃ x, ds[i]? = some x ∧ Th K G v x
def EvT (K : PySem.W.Frag) (ta : TA) (σ : L2.St) (G : Hp) (n : Nat) (ds : List PyData) : Prop := ∀ H, Same G H → ∀ Q : List V → Hp → Prop, (∀ vs G' H', Nx G H G' H' → vs.length = n → ThA K G' vs ds → Q vs H') → ta σ H Q
section
variable {K : PySem.W.Frag} {σ : L2.St} {G : Hp} {te : TE} {tR : TA} {d : PyData} {ds : List PyData} {n : Nat}
theorem ThA.cons {v : V} {vs : List V} (h : Th K G v d) (t : ThA K G vs ds) : ThA K G (v :: vs) (d :: ds) := fun i u e => by
  cases i with
  | zero => cases e; exact ⟨d, rfl, h⟩
  | succ i => exact t i u e
theorem EvT.mono {G1 : Hp} (h : EvT K tR σ G n ds) (g : Same G G1) : EvT K tR σ G1 n ds := fun H s Q q => h H (g.trans s) Q fun vs G' H' m hl ht => by
  obtain ⟨G2, n2, s2⟩ := m.over g s
  exact q vs G2 H' n2 hl fun i v e => by
    obtain ⟨x, e1, e2⟩ := ht i v e
    exact ⟨x, e1, e2.mono s2⟩
theorem et_nil : EvT K tNil σ G 0 [] := fun H s _ q => q [] G H (Nx.refl s) rfl fun i v e => nomatch e
theorem et_cons (h : EvD K te σ G d) (hr : EvT K tR σ G n ds) : EvT K (tCons te tR) σ G (n + 1) (d :: ds) := fun H s Q q =>
  h H s _ fun v G1 H1 n1 hv => (hr.mono n1.gg) H1 n1.gh _ fun vs G2 H2 n2 hl ht => q (v :: vs) G2 H2 (n1.trans n2) (by rw [List.length_cons, hl]) (ThA.cons (.inl (dp_mono n2.gg d hv)) ht)
theorem et_dict (h : ∀ H, Same G H → ∀ Q : VK, (∀ p, H p = none → Q (.ref p) (upd H p (.dK []))) → te σ H Q) (hr : EvT K tR σ G n ds) : EvT K (tCons te tR) σ G (n + 1) (.dict [] :: ds) := fun H s Q q =>
  h H s _ fun p hp => by
    have n1 := Nx.new (o := .dK []) s hp
    exact (hr.mono n1.gg) _ n1.gh _ fun vs G2 H2 n2 hl ht => q (.ref p :: vs) G2 H2 (n1.trans n2) (by rw [List.length_cons, hl]) (ThA.cons (.inr ⟨rfl, p, rfl, n2.gg _ _ upd_same⟩) ht)
theorem seq_forT {tA : TA} {g : TG} {tb u : TS} {D : Ends} {H : Hp} (h : EvT K tA σ G n ds) (s : Same G H) (hz : n ≤ sizeLine)
    (k : ∀ p vs G1 H1, Nx G H G1 H1 → H1 p = some (.lst vs) → ThA K G1 vs ds → tFor (iList K (tC (.ref p))) g tb { D with nx := u D } σ H1) : tSeq (tFor (iList K (tLst tA)) g tb) u D σ H := h H s _ fun vs G' H' m hl ht => ⟨by rw [hl]; exact hz, fun p hp => by
      have n2 := Nx.new (o := .lst vs) m.gh hp
      exact k p vs _ _ (m.trans n2) upd_same fun i v e => by
        obtain ⟨x, e1, e2⟩ := ht i v e
        exact ⟨x, e1, e2.mono n2.gg⟩⟩
end
theorem for_goT {K : PySem.W.Frag} {σ : L2.St} {G : Hp} {ds : List PyData} {n : Nat} {tA : TA} {g : TG} {tb : TS} {D : Ends} {H : Hp} (h : EvT K tA σ G n ds) (s : Same G H) (hz : n ≤ sizeLine)
    (k : ∀ p vs G1 H1, Nx G H G1 H1 → H1 p = some (.lst vs) → ThA K G1 vs ds → tFor (iList K (tC (.ref p))) g tb D σ H1) : tFor (iList K (tLst tA)) g tb D σ H := h H s _ fun vs G' H' m hl ht => ⟨by rw [hl]; exact hz, fun p hp => by
      have n2 := Nx.new (o := .lst vs) m.gh hp
      exact k p vs _ _ (m.trans n2) upd_same fun i v e => by
        obtain ⟨x, e1, e2⟩ := ht i v e
        exact ⟨x, e1, e2.mono n2.gg⟩⟩
theorem nx_of {D : Ends} {σ : L2.St} {H : Hp} (h : D.nx σ H) : tNext D σ H := h
/-! ### the law's judges -/
section
variable {K : PySem.W.Frag} {σ : L2.St} {G H : Hp} {ta tb : TE}
theorem isc_yes {D a : Addr} {Q : VK} (T : ExcC K D) (hk : PySem.W.kitOne K (.ref D) (.ref D) = some true) (ha : H a = some (ErrO (.ref D) none a)) (q : Q (.bl true) H) : rIsC K [.ref a, .ref D] H Q := .inr ⟨a, D, D, true, rfl, ha, T, hk, q⟩
end
end Gw
namespace Gw
open PySem PySem.Spec PyProof.Rows L2
/-! ### letters that are paired off -/
abbrev vN (l : List Nat) : List V := l.map fun (k : Nat) => V.int (k : Int)
theorem vN_ints (l : List Nat) : vN l = (l.map fun (k : Nat) => (k : Int)).map V.int := by rw [List.map_map]; rfl
theorem vN_last (l : List Nat) (x : Nat) : (vN (l ++ [x]))[(vN (l ++ [x])).length - 1]? = some (V.int (x : Int)) := by
  have e : (vN (l ++ [x])).length - 1 = (vN l).length := by simp [vN]
  rw [e]
  simp [vN]
theorem vN_drop (l : List Nat) (x : Nat) : (vN (l ++ [x])).dropLast = vN l := by simp [vN]
theorem last_of {α : Type} (l : List α) (h : l ≠ []) : ∃ m x, l = m ++ [x] := ⟨l.dropLast, l.getLast h, (List.dropLast_concat_getLast h).symm⟩
structure Pr (n : Nat) (L : List Nat) (fnd : List Int) : Prop where
  nd : L.Nodup
  lt : ∀ x ∈ L, x < n
  len : fnd.length = n
  inv : ∀ k, k < n → k ∉ L → ∃ j, j < n ∧ j ∉ L ∧ fnd[k]? = some (j : Int) ∧ fnd[j]? = some (k : Int)
theorem Pr.pair {n : Nat} {L L' : List Nat} {fnd : List Int} {x y : Nat} (P : Pr n L fnd) (hx : x ∈ L) (hy : y ∈ L) (hn : L'.Nodup) (hm : ∀ z, z ∈ L' ↔ z ∈ L ∧ z ≠ x ∧ z ≠ y) : Pr n L' ((fnd.set x (y : Int)).set y (x : Int)) := by
  have xl := P.lt x hx
  have yl := P.lt y hy
  have atY : ((fnd.set x (y : Int)).set y (x : Int))[y]? = some (x : Int) := by
    rw [List.getElem?_set_self (by rw [List.length_set, P.len]; exact yl)]
  have atX : ((fnd.set x (y : Int)).set y (x : Int))[x]? = some (y : Int) := by
    by_cases e : x = y
    · subst e; exact atY
    · rw [List.getElem?_set_ne (Ne.symm e), List.getElem?_set_self (by rw [P.len]; exact xl)]
  have other : ∀ k, k ≠ x → k ≠ y → ((fnd.set x (y : Int)).set y (x : Int))[k]? = fnd[k]? := fun k h1 h2 => by
    rw [List.getElem?_set_ne (Ne.symm h2), List.getElem?_set_ne (Ne.symm h1)]
  refine ⟨hn, fun z hz => P.lt z ((hm z).mp hz).1, by rw [List.length_set, List.length_set, P.len], fun k hk hkL => ?_⟩
  have hxL : x ∉ L' := fun z => ((hm x).mp z).2.1 rfl
  have hyL : y ∉ L' := fun z => ((hm y).mp z).2.2 rfl
  by_cases h1 : k = x
  · subst h1; exact ⟨y, yl, hyL, atX, atY⟩
  by_cases h2 : k = y
  · subst h2; exact ⟨x, xl, hxL, atY, atX⟩
  have hkL2 : k ∉ L := fun z => hkL ((hm k).mpr ⟨z, h1, h2⟩)
  obtain ⟨j, j1, j2, j3, j4⟩ := P.inv k hk hkL2
  have n1 : j ≠ x := fun z => j2 (z ▸ hx)
  have n2 : j ≠ y := fun z => j2 (z ▸ hy)
  exact ⟨j, j1, fun z => j2 ((hm j).mp z).1, by rw [other k h1 h2]; exact j3, by rw [other j n1 n2]; exact j4⟩
theorem Pr.done {n : Nat} {fnd : List Int} (P : Pr n [] fnd) (h2 : 2 ≤ n) (h12 : n ≤ 12) : IsBk fnd :=
  ⟨by rw [P.len]; exact h2, by rw [P.len]; exact h12, fun k hk => by
    obtain ⟨j, _, _, j3, j4⟩ := P.inv k (by rw [← P.len]; exact hk) List.not_mem_nil
    exact ⟨j, j3, j4⟩⟩
theorem Pr.start {n : Nat} {L : List Nat} (p : L.Perm (List.range n)) : Pr n L (List.replicate n 0) :=
  ⟨p.nodup_iff.mpr List.nodup_range, fun x hx => List.mem_range.mp (p.mem_iff.mp hx), List.length_replicate, fun k hk hkL => absurd (p.mem_iff.mpr (List.mem_range.mpr hk)) hkL⟩
theorem perm_nats {n : Nat} {ms : List Int} (p : ms.Perm ((List.range n).map fun (k : Nat) => (k : Int))) : ∃ L : List Nat, ms = L.map (fun (k : Nat) => (k : Int)) ∧ L.Perm (List.range n) := by
  refine ⟨ms.map Int.toNat, ?_, ?_⟩
  · rw [List.map_map]
    refine (List.map_id ms).symm.trans (List.map_congr_left fun x hx => ?_)
    obtain ⟨k, _, e⟩ := List.mem_map.mp (p.mem_iff.mp hx)
    rw [← e]; rfl
  · refine (p.map Int.toNat).trans ?_
    rw [List.map_map]
    have : (List.range n).map (Int.toNat ∘ fun (k : Nat) => (k : Int)) = List.range n := (List.map_congr_left fun x _ => rfl).trans (List.map_id _)
    rw [this]
theorem ix_nat {n k : Nat} (h : k < n) : ixN n (k : Int) = some k := by
  unfold ixN
  rw [if_pos (by omega), if_pos (by omega), Int.toNat_natCast]
end Gw
namespace Gw
open PySem PySem.Spec PyProof.Rows L2
/-! ### letters, in plain words -/
def isIntK : PyData → Bool | .int _ => true | .bool _ => true | _ => false
def isBoolK : PyData → Bool | .bool _ => true | _ => false
def isTupK : PyData → Bool | .tuple _ => true | _ => false
def isNum : PyData → Bool | .int _ => true | _ => false
def inR (lo hi : Int) : PyData → Bool | .int i => decide (lo ≤ i) && decide (i ≤ hi) | _ => false
def isRow (n : Int) : PyData → Bool | .tuple ds => ds.all (inR 0 (n - 1)) | _ => false
def isShort (n m : Int) : PyData → Bool | .tuple ds => decide ((ds.length : Int) ≤ m) && ds.all (inR 0 (n - 1)) | _ => false
def toI : PyData → Int | .int i => i | _ => 0
theorem kit_int : ∀ x : PyData, kitB (tyOf x) "int" = some (isIntK x)
  | .none => (by decide +kernel : kitB "NoneType" "int" = some false)
  | .bool _ => (by decide +kernel : kitB "bool" "int" = some true)
  | .int _ => (by decide +kernel : kitB "int" "int" = some true)
  | .str _ => (by decide +kernel : kitB "str" "int" = some false)
  | .list _ => (by decide +kernel : kitB "list" "int" = some false)
  | .tuple _ => (by decide +kernel : kitB "tuple" "int" = some false)
  | .dict _ => (by decide +kernel : kitB "dict" "int" = some false)
theorem kit_bool : ∀ x : PyData, kitB (tyOf x) "bool" = some (isBoolK x)
  | .none => (by decide +kernel : kitB "NoneType" "bool" = some false)
  | .bool _ => (by decide +kernel : kitB "bool" "bool" = some true)
  | .int _ => (by decide +kernel : kitB "int" "bool" = some false)
  | .str _ => (by decide +kernel : kitB "str" "bool" = some false)
  | .list _ => (by decide +kernel : kitB "list" "bool" = some false)
  | .tuple _ => (by decide +kernel : kitB "tuple" "bool" = some false)
  | .dict _ => (by decide +kernel : kitB "dict" "bool" = some false)
theorem kit_tup : ∀ x : PyData, kitB (tyOf x) "tuple" = some (isTupK x)
  | .none => (by decide +kernel : kitB "NoneType" "tuple" = some false)
  | .bool _ => (by decide +kernel : kitB "bool" "tuple" = some false)
  | .int _ => (by decide +kernel : kitB "int" "tuple" = some false)
  | .str _ => (by decide +kernel : kitB "str" "tuple" = some false)
  | .list _ => (by decide +kernel : kitB "list" "tuple" = some false)
  | .tuple _ => (by decide +kernel : kitB "tuple" "tuple" = some true)
  | .dict _ => (by decide +kernel : kitB "dict" "tuple" = some false)
/-- a tuple that may stand in memory -/
def Sized : PyData → Prop | .tuple ds => ds.length ≤ sizeLine | _ => True
def bkAt (ds : List PyData) (k : Nat) (d : PyData) : Bool := PyData.eqv (ds.getD (toI d).toNat .none) (.int (k : Int))
def isBackD : PyData → Bool
  | .tuple ds => decide (2 ≤ ds.length) && decide (ds.length ≤ 12) && (ds.all (inR 0 ((ds.length : Int) - 1)) && (ds.mapIdx (bkAt ds)).all id)
  | _ => false
theorem not_t {b : Bool} (h : (!b) = true) : b = false := by cases b <;> first | rfl | cases h
theorem not_f {b : Bool} (h : (!b) = false) : b = true := by cases b <;> first | rfl | cases h
theorem shaped_int (i : Int) : SeqAt.shaped (.int i) = true := by simp [SeqAt.shaped, PyData.canLay0, PyData.depth]
theorem mapIdx_then {α β γ : Type} (f : Nat → α → β) (g : β → γ) (l : List α) : (l.mapIdx f).map g = l.mapIdx fun i a => g (f i a) := by
  refine List.ext_getElem? fun i => ?_
  rw [List.getElem?_map, List.getElem?_mapIdx, List.getElem?_mapIdx, Option.map_map]
  rfl
theorem inR_int {lo hi : Int} {d : PyData} (h : inR lo hi d = true) : ∃ i, d = .int i ∧ lo ≤ i ∧ i ≤ hi := by
  cases d with
  | int i =>
    have h : (decide (lo ≤ i) && decide (i ≤ hi)) = true := h
    rw [Bool.and_eq_true, decide_eq_true_eq, decide_eq_true_eq] at h
    exact ⟨i, rfl, h.1, h.2⟩
  | _ => cases h
theorem all_inR {n : Nat} {ws : List Int} (h : Letters n ws) : (ws.map PyData.int).all (inR 0 ((n : Int) - 1)) = true := by
  rw [List.all_eq_true]
  intro d hd
  obtain ⟨x, hx, rfl⟩ := List.mem_map.mp hd
  have := h x hx
  show (decide (0 ≤ x) && decide (x ≤ (n : Int) - 1)) = true
  rw [decide_eq_true this.1, decide_eq_true (by omega)]
  rfl
theorem IsBk.letters {bs : List Int} (B : IsBk bs) : Letters bs.length bs := by
  intro x hx
  obtain ⟨k, hk, e⟩ := List.mem_iff_getElem.mp hx
  obtain ⟨j, j1, j2⟩ := B.inv k hk
  rw [List.getElem?_eq_getElem hk, e] at j1
  have hj := (List.getElem?_eq_some_iff.mp j2).1
  have := Option.some.inj j1
  omega
theorem IsBk.is {bs : List Int} (B : IsBk bs) : isBackD (.tuple (bs.map .int)) = true := by
  show (decide (2 ≤ (bs.map PyData.int).length) && decide ((bs.map PyData.int).length ≤ 12) && ((bs.map PyData.int).all (inR 0 (((bs.map PyData.int).length : Int) - 1)) && ((bs.map PyData.int).mapIdx (bkAt (bs.map PyData.int))).all id)) = true
  rw [List.length_map, decide_eq_true B.two, decide_eq_true B.six, all_inR B.letters]
  simp only [Bool.true_and, List.all_eq_true]
  intro b hb
  obtain ⟨k, hk, e⟩ := List.mem_iff_getElem.mp hb
  rw [List.length_mapIdx, List.length_map] at hk
  rw [List.getElem_mapIdx, List.getElem_map] at e
  obtain ⟨j, j1, j2⟩ := B.inv k hk
  rw [List.getElem?_eq_getElem hk] at j1
  have e1 : bs[k] = (j : Int) := Option.some.inj j1
  rw [← e]
  show PyData.eqv ((bs.map PyData.int).getD (toI (.int bs[k])).toNat .none) (.int (k : Int)) = true
  rw [e1]
  show PyData.eqv ((bs.map PyData.int).getD j .none) (.int (k : Int)) = true
  rw [List.getD_eq_getElem?_getD, List.getElem?_map, j2]
  show ((k : Int) == (k : Int)) = true
  exact beq_self_eq_true _
/-! ### neighbours taken out -/
def frSt (bs : List Int) (left : List Int) (x : Int) : List Int := if left ≠ [] ∧ left.getLast? = bs[x.toNat]? then left.dropLast else left ++ [x]
def frI (bs ws : List Int) : List Int := ws.foldl (frSt bs) []
theorem frI_take {bs ws : List Int} {i : Nat} {x : Int} (h : ws[i]? = some x) : frI bs (ws.take (i + 1)) = frSt bs (frI bs (ws.take i)) x := by
  unfold frI
  rw [List.take_succ, h, List.foldl_append]
  rfl
theorem frSt_len {bs left : List Int} {x : Int} : (frSt bs left x).length ≤ left.length + 1 := by
  unfold frSt
  split
  · rw [List.length_dropLast]; omega
  · rw [List.length_append]; exact Nat.le_refl _
theorem frI_len (bs : List Int) : ∀ (ws left : List Int), (ws.foldl (frSt bs) left).length ≤ left.length + ws.length
  | [], _ => Nat.le_refl _
  | x :: ws, left => by
    rw [List.foldl_cons, List.length_cons]
    have h1 := frI_len bs ws (frSt bs left x)
    have h2 := frSt_len (bs := bs) (left := left) (x := x)
    omega
theorem frSt_let {bs left : List Int} {x : Int} {n : Nat} (h : Letters n left) (hx : 0 ≤ x ∧ x < (n : Int)) : Letters n (frSt bs left x) := by
  unfold frSt
  split
  · exact fun y hy => h y ((List.dropLast_sublist left).subset hy)
  · intro y hy
    rcases List.mem_append.mp hy with hy | hy
    · exact h y hy
    · rw [List.mem_singleton.mp hy]; exact hx
theorem frI_let {bs : List Int} {n : Nat} : ∀ (ws left : List Int), Letters n left → Letters n ws → Letters n (ws.foldl (frSt bs) left)
  | [], _, h, _ => h
  | x :: ws, left, h, hw => by
    rw [List.foldl_cons]
    exact frI_let ws _ (frSt_let h (hw x List.mem_cons_self)) fun y hy => hw y (List.mem_cons_of_mem _ hy)
end Gw
namespace Gw
open PySem PySem.Spec PyProof.Rows L2
/-! ### a list or a tuple, walked -/
def iE (K : PySem.W.Frag) (tl : TE) : TI := fun σ H R => iList K tl σ H R ∨ iTup K tl σ H R
theorem q_iE (K : PySem.W.Frag) {X : Cx} {tg l : Expr} {tl : TE} (e : X.K = K) (h : PE X l tl) : PI X tg l (iE K tl) := by
  subst e
  exact ⟨fun pins s σ H R I q => q.elim (fun q => (pi_list h).run pins s σ H R I q) fun q => (pi_tup h).run pins s σ H R I q⟩
theorem q_isiT (K : PySem.W.Frag) {X : Cx} (e : X.K = K) : CallR X (.builtin "isinstance") (rIsiT K) := by subst e; exact call_isiT
/-- a block whose first statement never ends as it would -/
theorem pss_dead {X : Cx} {st : Stmt} {rest : List Stmt} {t : TS} (h : PS X st t) : PSs X (st :: rest) (fun D σ H => t { D with nx := fun _ _ => False } σ H) := by
  refine ⟨fun pins s σ H D I q => wpAny_execs_cons (wpAny_mono (h.run pins s σ H _ I q) (fun f s1 sp => ?_) fun _ _ z => z)⟩
  cases f with
  | next => obtain ⟨_, _, _, z⟩ := sp; exact False.elim z
  | brk => exact sp
  | cont => exact sp
  | ret u => exact sp
section
variable {K : PySem.W.Frag} {σ : L2.St} {G : Hp} {tl te : TE} {g : TG} {tt : TT} {vs : List Nat} {ds : List PyData}
theorem en_iL (h : EvN K (tLc (iList K tl) g tt te vs) σ G ds) : EvN K (tLc (iE K tl) g tt te vs) σ G ds := fun H s Q q => .inl (h H s Q q)
theorem en_iT (h : EvN K (tLc (iTup K tl) g tt te vs) σ G ds) : EvN K (tLc (iE K tl) g tt te vs) σ G ds := fun H s Q q => .inr (h H s Q q)
end
/-! ### kinds -/
def isLst : PyData → Bool | .list _ => true | _ => false
def isLT : PyData → Bool | .list _ => true | .tuple _ => true | _ => false
theorem kit_lst : ∀ x : PyData, kitB (tyOf x) "list" = some (isLst x)
  | .none => (by decide +kernel : kitB "NoneType" "list" = some false)
  | .bool _ => (by decide +kernel : kitB "bool" "list" = some false)
  | .int _ => (by decide +kernel : kitB "int" "list" = some false)
  | .str _ => (by decide +kernel : kitB "str" "list" = some false)
  | .list _ => (by decide +kernel : kitB "list" "list" = some true)
  | .tuple _ => (by decide +kernel : kitB "tuple" "list" = some false)
  | .dict _ => (by decide +kernel : kitB "dict" "list" = some false)
theorem kit_lt {K : PySem.W.Frag} (x : PyData) : PySem.W.kitAny K (.type (tyOf x)) [.type "list", .type "tuple"] = some (isLT x) := by
  refine kitAny_cons (b := isLst x) (kit_ty (kit_lst x)) (fun h => ?_) (fun h => ?_)
  · refine kitAny_cons (b := isTupK x) (kit_ty (kit_tup x)) (fun h2 => ?_) (fun h2 => ?_)
    · cases x <;> first | rfl | (exact absurd h2 (by decide)) | (exact absurd h (by decide)) | (cases h2; done) | (cases h; done)
    · cases x <;> first | rfl | cases h2
  · cases x <;> first | rfl | cases h
section
variable {K : PySem.W.Frag} {σ : L2.St} {G : Hp} {i : Nat} {v : V} {x : PyData}
theorem ed_isiLT (h : σ[i]? = some (some v)) (hv : Th K G v x) : EvD K (tCB (rIsiT K) (tCons (tVar i) (tCons (tTup (tCons (tC (.ty "list")) (tCons (tC (.ty "tuple")) tNil))) tNil))) σ G (.bool (isLT x)) := fun H s Q q => by
  refine ⟨v, h, by show 2 ≤ sizeLine; decide, fun tp htp => ?_⟩
  have n := Nx.lay (o := .tup [.ty "list", .ty "tuple"]) s htp
  exact ⟨v, tp, [.ty "list", .ty "tuple"], .type (tyOf x), [.type "list", .type "tuple"], _, rfl, upd_same, .cons (.ty "list") (.cons (.ty "tuple") .nil), hv.ty n.gh, kit_lt x, q _ _ _ n (.bl _)⟩
end
/-- isinstance of an own class: not for what is of a built-in kind -/
theorem kit_own {K : PySem.W.Frag} {C : Addr} {T : String} (hc : (PySem.W.clsIn K C).isSome = true) (ht : PySem.W.typeIn K (.ref C) = some (.type "type")) (hs : PySem.W.subIn K (.type T) (.ref C) = some false) : PySem.W.kitOne K (.type T) (.ref C) = some false := by
  have e1 : (Value.type T == Value.ref C) = false := by
    rw [beq_eq_false_iff_ne]; exact fun z => nomatch z
  have e2 : ((PySem.W.clsIn K C).isSome && PySem.W.typeIn K (.ref C) == some (.type "type")) = true := by rw [hc, ht] <;> rfl
  show (if (Value.type T == Value.ref C) = true then some true else if ((PySem.W.clsIn K C).isSome && PySem.W.typeIn K (.ref C) == some (.type "type")) = true then PySem.W.subIn K (.type T) (.ref C) else none) = some false
  rw [e1, if_neg Bool.false_ne_true, if_pos e2]
  exact hs
/-- what the top has written of an own class without bases -/
structure OwnC (K : PySem.W.Frag) (C : Addr) : Prop where
  cl : Cls K C
  ci : (PySem.W.clsIn K C).isSome = true
  ty : PySem.W.typeIn K (.ref C) = some (.type "type")
  ha : PySem.W.findIn K (.ref C) "__class__" = some (some (.builtin "object.__class__"))
  hn : PySem.W.specialIn K (.builtin "object.__class__") "__get__" = some (some (.builtin "getset_descriptor.__get__"))
  ht : PySem.W.takesIn K (.builtin "object.__class__") = some true
  hm : PySem.W.mroIn K C (.type "object") = some true
  no : PySem.W.subIn K (.type "NoneType") (.ref C) = some false
  bo : PySem.W.subIn K (.type "bool") (.ref C) = some false
  int : PySem.W.subIn K (.type "int") (.ref C) = some false
  st : PySem.W.subIn K (.type "str") (.ref C) = some false
  li : PySem.W.subIn K (.type "list") (.ref C) = some false
  tu : PySem.W.subIn K (.type "tuple") (.ref C) = some false
  di : PySem.W.subIn K (.type "dict") (.ref C) = some false
theorem OwnC.sub {K : PySem.W.Frag} {C : Addr} (O : OwnC K C) : ∀ x : PyData, PySem.W.subIn K (.type (tyOf x)) (.ref C) = some false
  | .none => O.no
  | .bool _ => O.bo
  | .int _ => O.int
  | .str _ => O.st
  | .list _ => O.li
  | .tuple _ => O.tu
  | .dict _ => O.di
theorem OwnC.kit {K : PySem.W.Frag} {C : Addr} (O : OwnC K C) (x : PyData) : PySem.W.kitOne K (.type (tyOf x)) (.ref C) = some false := kit_own O.ci O.ty (O.sub x)
theorem OwnC.nf {K : PySem.W.Frag} {C : Addr} (O : OwnC K C) (x : PyData) : PySem.W.notFirst K C (.type (tyOf x)) = true := by
  show (_ || PySem.W.subIn K (.type (tyOf x)) (.ref C) == some false) = true
  rw [O.sub x]; simp
theorem OwnC.me {K : PySem.W.Frag} {C : Addr} (O : OwnC K C) : PySem.W.kitOne K (.ref C) (.ref C) = some true := if_pos (beq_self_eq_true _)
theorem OwnC.tyx {K : PySem.W.Frag} {C a dx : Addr} {H : Hp} {fs : List (Str × V)} (O : OwnC K C) (h : H a = some (.ins C dx fs)) : TyX K H (.ref a) (.ref C) := .base (.ins h O.cl O.ha O.hn O.ht O.hm)
section
variable {K : PySem.W.Frag} {σ : L2.St} {G H : Hp} {tt : TT} {t u : TS} {D : Ends} {te : TE} {d : PyData}
theorem seq_ifB {b : Bool} (h : EvB K tt σ G b) (s : Same G H) (k1 : b = true → ∀ G1 H1, Nx G H G1 H1 → t { D with nx := u D } σ H1) (k0 : b = false → ∀ G1 H1, Nx G H G1 H1 → u D σ H1) : tSeq (tIfS tt t tNext) u D σ H := h H s _ fun G1 H1 n => by
  cases b with
  | true => exact if_on rfl (k1 rfl G1 H1 n)
  | false => exact if_off rfl (k0 rfl G1 H1 n)
theorem ed_isiC {i : Nat} {v : V} {ty : Value} {b : Bool} {C : Addr} (h : σ[i]? = some (some v)) (hty : ∀ H, Same G H → TyX K H v ty) (hk : PySem.W.kitOne K ty (.ref C) = some b) : EvD K (tCB (rIsi K) (tCons (tVar i) (tCons (tC (.ref C)) tNil))) σ G (.bool b) := fun H s Q q =>
  ⟨v, h, v, .ref C, ty, .ref C, b, rfl, .own C, hty H s, hk, q _ G H (Nx.refl s) (.bl b)⟩
theorem ed_fld {i : Nat} {g C dx : Addr} {fs : List (Str × V)} {f : Str} {v : V} (h : σ[i]? = some (some (.ref g))) (hg : G g = some (.ins C dx fs)) (cl : Cls K C) (na : NoAttr K C f) (hf : fs.lookup f = some v) (hd : Dp K G v d) : EvD K (tFld K (tVar i) f) σ G d := fun H s Q q =>
  ⟨_, h, g, C, dx, fs, v, rfl, s _ _ hg, cl, na, hf, q v G H (Nx.refl s) hd⟩
end
end Gw
namespace Gw
open PySem PySem.Spec PyProof.Rows L2 LamX
/-! ### the law's own call where the law holds lambdas: what runs around is known, the law's table of codes is empty -/
structure LawT (P : Program) (w : World) (K : PySem.W.Frag) (mg : Str → Option Value) (x : Str) (st : Stmt) (N : List Str) (k : Nat) (f c Pt : Addr) : Prop where
  S : FnScope N ["script"] (defScope st)
  lk : ∃ (oc kV doc pm ct : Value) (od an : Option Addr) (osl : Array (Option Value)), K.lookup f = some ⟨oc, od, .func (PySem.W.fnOf x x (defArgs st) (defBody st) (defScope st) .none kV doc pm an (.ref c) ct), osl⟩ ∧ L2.Binds K (PySem.W.fnOf x x (defArgs st) (defBody st) (defScope st) .none kV doc pm an (.ref c) ct) ["script"] []
  cd : PySem.W.codeIn K (.ref c) x = true
  ch : PySem.W.codeHdIn K c Pt = true
  np : K.lookup Pt = none
  body : ∀ (base : Heap), K.In base → base.Ns mainGlobals mg → TabB base mg c Pt → ∀ (s : Shared) (H : Hp) (a : Addr) (ns : List Int), Room k (callerA.deeper (envOfC x (defScope st) s.heap.objs.size f (.ref c))) → SqL K H a (ns.map V.int) → ns.length ≤ 63 → H Pt = some (.tbl #[]) →
    ∃ t, PSs (cxOf CX0 P w K mg base N x (defScope st) f (.ref c) callerA [] s H E0).nox (defBody st) t ∧ t { nx := fun _ _ => V.non = V.bl true, rt := fun v _ => v = .bl true } (start N [.ref a]) H
/-- what may be told of where the law begins: the script, the table -/
def BegHp (H : Hp) (a Pt : Addr) (o : Obj) (ns : List Int) : Prop := H Pt = some (.tbl #[]) ∧ ∀ b u, H b = some u → (b = a ∧ u = .frz o (.lst (ns.map V.int))) ∨ (b = Pt ∧ u = .tbl #[])
theorem lawT_at {P : Program} {w : World} {K : PySem.W.Frag} {mg mb : Str → Option Value} {x : Str} {st : Stmt} {N : List Str} {k : Nat} {f a c Pt : Addr} {s1 : Shared} {vs : List Value} {ns : List Int}
    (KX : K.In s1.heap) (hns : s1.heap.Ns mainGlobals mg) (hb : s1.heap.Ns builtinsNs mb) (hbb : ∀ y : Str, y ≠ "__name__" → mb y = bootBuiltins y) (hlim : s1.heap.NoLimit) (hgen : s1.gens = #[])
    (hT : s1.heap.get? Pt = some { cls := .none, data := .fields #[] }) (hbm : ∃ (bm : Addr) (ob : Obj), mg "__builtins__" = some (.ref bm) ∧ bm ≠ builtinsNs ∧ s1.heap.get? bm = some ob ∧ ob.cls = .type "module" ∧ ob.dict = some builtinsNs ∧ ob.data = .plain)
    (ha : s1.heap.get? a = some { cls := .type "list", data := .seq vs.toArray }) (hi : IntsAre vs ns) (h63 : ns.length ≤ 63) (hr : Room (k + 1) callerA) (L : LawT P w K mg x st N k f c Pt) :
    codeAny (model P w) callerA (.call (.ref f) ⟨[.ref a], []⟩) (fun r s' => r = .ok (.ret (.bool true)) ∧ OldK s1.heap s'.heap ∧ s'.os = s1.os ∧ AllBare s'.gens) s1 := by
  have rv := vals_ints hi
  have lv := hi.length
  have hz : (ns.map V.int).length ≤ sizeLine := by rw [List.length_map]; exact Nat.le_trans h63 (by decide)
  have haP : a ≠ Pt := fun z => by rw [z, hT] at ha; cases ha
  have main : ∀ H : Hp, BegHp H a Pt { cls := .type "list", data := .seq vs.toArray } ns → SqL K H a (ns.map V.int) → (H a ≠ none → K.lookup a = none) →
      codeAny (model P w) callerA (.call (.ref f) ⟨[.ref a], []⟩) (fun r s' => r = .ok (.ret (.bool true)) ∧ OldK s1.heap s'.heap ∧ s'.os = s1.os ∧ AllBare s'.gens) s1 := by
    intro H hH hS hK
    have ok : HOk P w H s1.heap := fun b u q => by
      rcases hH.2 b u q with ⟨rfl, rfl⟩ | ⟨rfl, rfl⟩
      · exact ⟨ha, hz, vs, 0, rv, ha⟩
      · exact hT
    have out : ∀ {b : Addr} {o : Obj}, s1.heap.get? b = some o → (b = a → H a = none) → b ≠ Pt → (hidT s1.heap H).get? b = some o := fun {b o} e n n2 => hidT_get e (by
      cases q : H b with
      | none => rfl
      | some u =>
        rcases hH.2 b u q with ⟨e2, _⟩ | ⟨e2, _⟩
        · rw [e2, n e2] at q; cases q
        · exact absurd e2 n2)
    have kin : K.In (hidT s1.heap H) := fun b o e => out (KX b o e) (fun z => by
      cases q : H a with
      | none => rfl
      | some u =>
        have z2 := hK (by rw [q]; exact fun z => nomatch z)
        rw [z, z2] at e
        cases e) fun z => by rw [z, L.np] at e; cases e
    have nsp : ∀ {b : Addr} {m : Str → Option Value}, s1.heap.Ns b m → (hidT s1.heap H).Ns b m := fun {b m} ⟨o, es, ep, e, d, r⟩ => ⟨o, es, ep, out e (fun z => by
      rw [z, ha] at e
      cases e
      cases d) (fun z => by
      rw [z, hT] at e
      cases e
      cases d), d, r⟩
    have mod : Mod K mg (hidT s1.heap H) := ⟨kin, nsp hns, ⟨mb, nsp hb, hbb⟩, let ⟨mc, h1, h2⟩ := hlim; ⟨mc, nsp h1, h2⟩⟩
    have tab : TabB (hidT s1.heap H) mg c Pt := by
      refine ⟨PySem.W.codeHd_of_K kin L.ch, ?_, fun z => ?_⟩
      · obtain ⟨bm, ob, b1, b2, b3, b4, b5, b6⟩ := hbm
        refine ⟨bm, ob, b1, b2, fun z => ?_, fun z => ?_, out b3 (fun z => ?_) fun z => ?_, b4, b5, b6⟩
        · obtain ⟨o, es, ep, e, d, r⟩ := hns
          rw [z, e] at b3
          cases b3
          rw [d] at b6
          cases b6
        · rw [z, hT] at b3
          cases b3
          cases b6
        · rw [z, ha] at b3
          cases b3
          cases b6
        · rw [z, hT] at b3
          cases b3
          cases b6
      · obtain ⟨o, es, ep, e, d, r⟩ := hns
        rw [z, hT] at e
        cases e
        cases d
    have e0 : Env0 P w K mg (hidT s1.heap H) callerA [] s1 H := ⟨rfl, mod, fun _ _ e => of_hidT e, Nat.le_of_eq (hidT_size _ _), trivial, fun b z => absurd (show b ∈ ([] : List Addr) from z) List.not_mem_nil, ok, .of_eq hgen⟩
    obtain ⟨oc, kV, doc, pm, ct, od, an, osl, lk, B⟩ := L.lk
    have bt := B s1 [.ref a] KX rfl
    refine codeAny_mono (LamX.run_ofS (CX := CX0) (Q := fun v _ => v = .bl true) (E := E0) lk L.cd L.S hr e0 bt (.cons rfl .nil : Vals [.ref a] [.ref a]) rfl fun hr2 => ?_) fun r s' hq => ?_
    · obtain ⟨t, h1, h2⟩ := L.body _ kin (nsp hns) tab s1 H a ns hr2 hS h63 hH.1
      exact ⟨t, h1.nox, h2⟩
    · cases r with
      | error e => exact (show False from hq).elim
      | ok fl =>
        cases fl with
        | next => exact (show False from hq).elim
        | brk => exact (show False from hq).elim
        | cont => exact (show False from hq).elim
        | ret u =>
          obtain ⟨v, H2, hos, bare, un, ok2, ru, e⟩ := hq
          have e : v = .bl true := e
          subst e
          cases ru
          obtain ⟨more, gr⟩ := un.tbls Pt #[] hH.1
          have gr2 : s'.heap.get? Pt = some { cls := .none, data := .fields (#[] ++ more) } := ok2 Pt _ gr
          have other : ∀ b o, b ≠ Pt → s1.heap.get? b = some o → s'.heap.get? b = some o := fun b o nb eb => by
            cases q : H b with
            | none => exact un.keep b o eb q (fun z => nomatch z) (fun z => nomatch z)
            | some u =>
              rcases hH.2 b u q with ⟨rfl, rfl⟩ | ⟨rfl, rfl⟩
              · obtain ⟨g1, _⟩ := ok _ _ q
                obtain ⟨g2, _⟩ := ok2 _ _ (un.frzs _ _ _ q)
                rw [eb] at g1
                cases g1
                exact g2
              · exact absurd rfl nb
          refine ⟨rfl, ⟨fun b o eb => ?_, fun b o eb => ?_⟩, hos, bare⟩
          · by_cases hbP : b = Pt
            · subst hbP
              rw [hT] at eb
              cases eb
              exact .inr (.inl ⟨((PySem.W.codeHd_of_K KX L.ch).tab hT).isCodeTable, rfl, #[], more, rfl, gr2⟩)
            · exact .inl (other b o hbP eb)
          · by_cases hbP : b = Pt
            · subst hbP; exact ⟨_, gr2⟩
            · exact ⟨o, other b o hbP eb⟩
  cases hk : K.lookup a with
  | some o =>
    have e := KX a o hk
    rw [ha] at e
    cases e
    refine main (fun b => if b = Pt then some (.tbl #[]) else none) ⟨if_pos rfl, fun b u q => ?_⟩ (.inr ⟨_, vs.toArray, _, hk, rfl, rfl, rfl, by rw [List.size_toArray, lv]; exact Nat.le_trans h63 (by decide), by simpa using rv⟩) (fun z => absurd (if_neg haP) z)
    by_cases hbP : b = Pt
    · have q : (if b = Pt then some (HO.tbl #[]) else none) = some u := q
      rw [if_pos hbP] at q
      cases q
      exact .inr ⟨hbP, rfl⟩
    · have q : (if b = Pt then some (HO.tbl #[]) else none) = some u := q
      rw [if_neg hbP] at q
      cases q
  | none =>
    refine main (fun b => if b = Pt then some (.tbl #[]) else if b = a then some (.frz { cls := .type "list", data := .seq vs.toArray } (.lst (ns.map V.int))) else none) ⟨if_pos rfl, fun b u q => ?_⟩ (.inl (.inr ⟨_, (if_neg haP).trans (if_pos rfl)⟩)) fun _ => hk
    have q : (if b = Pt then some (HO.tbl #[]) else if b = a then some (HO.frz { cls := .type "list", data := .seq vs.toArray } (.lst (ns.map V.int))) else none) = some u := q
    by_cases hbP : b = Pt
    · rw [if_pos hbP] at q
      cases q
      exact .inr ⟨hbP, rfl⟩
    · rw [if_neg hbP] at q
      by_cases hba : b = a
      · rw [if_pos hba] at q
        cases q
        exact .inl ⟨hba, rfl⟩
      · rw [if_neg hba] at q
        cases q
/-- the goal that the head leaves, with the tables that it tells of -/
theorem walk_atT {l : PySem.W.OpenLaw} {k : Nat} {q : Program} {loose : List Str} {XP : (Str → Option Value) → Heap → Prop} {YP : World → Heap → Prop} {d : DefRec} {K : Params → PySem.W.Frag} {st : Stmt} {N : List Str} {ts : List Addr} (hn : l.most = some 63) (hdf : d.params.defaults = []) (hr : Room (k + 1) callerA)
    (hY : ∀ (w : World) (h : Heap), YP w h → (K w.params).In h ∧ ∀ Pt ∈ ts, h.get? Pt = some { cls := .none, data := .fields #[] })
    (F : ∀ (w : World) (mg : Str → Option Value) (fa : Addr) (h : Heap), (K w.params).In h → h.Ns mainGlobals mg → mg d.name = some (.ref fa) → ∃ c Pt, Pt ∈ ts ∧ LawT l.prog w (K w.params) mg d.name st N k fa c Pt) :
    PySem.W.WalkO q loose XP YP l.row.toRowW d [] (fun f vs => PySem.call f vs) := by
  refine Att.attach_call hn hdf fun w s0 s1 mg mb fa o pm cd doc a vs ns G Y ho hd hcd hmg hobj hints hlen hg => ?_
  obtain ⟨KX, YT⟩ := hY w _ Y
  obtain ⟨c, Pt, hPt, L⟩ := F w mg fa _ KX G.T.g hmg
  exact lawT_at KX G.T.g G.T.b G.T.builtins G.T.nolimit hg (YT Pt hPt) G.T.bmain hobj hints hlen hr L
end Gw
namespace Gw
open PySem PySem.Spec PyProof.Rows L2
def top (i : Nat) : Stmt := PySem.Challenge.pw_gatewords_k08_claims_judged_and_what_the.main.body.getD i (.Pass ⟨0, 0, 0, 0⟩)
def clsM (c : Stmt) (j : Nat) : Stmt := match c with
  | .ClassDef _ _ _ b _ _ _ _ _ _ _ => b.getD j (.Pass ⟨0, 0, 0, 0⟩)
  | _ => .Pass ⟨0, 0, 0, 0⟩
abbrev s_is_number : Stmt := top 9
abbrev N_is_number : List Str := ["thing"]
abbrev P_is_number : List Str := ["thing"]
theorem sc_is_number : FnScope N_is_number P_is_number (defScope s_is_number) := ⟨rfl, rfl, rfl, by decide +kernel, rfl, by decide +kernel, by decide +kernel⟩
abbrev s_is_number_in : Stmt := top 10
abbrev N_is_number_in : List Str := ["thing", "least", "most"]
abbrev P_is_number_in : List Str := ["thing", "least", "most"]
theorem sc_is_number_in : FnScope N_is_number_in P_is_number_in (defScope s_is_number_in) := ⟨rfl, rfl, rfl, by decide +kernel, rfl, by decide +kernel, by decide +kernel⟩
abbrev s_is_list : Stmt := top 11
abbrev N_is_list : List Str := ["thing"]
abbrev P_is_list : List Str := ["thing"]
theorem sc_is_list : FnScope N_is_list P_is_list (defScope s_is_list) := ⟨rfl, rfl, rfl, by decide +kernel, rfl, by decide +kernel, by decide +kernel⟩
abbrev s_is_pair : Stmt := top 12
abbrev N_is_pair : List Str := ["thing"]
abbrev P_is_pair : List Str := ["thing"]
theorem sc_is_pair : FnScope N_is_pair P_is_pair (defScope s_is_pair) := ⟨rfl, rfl, rfl, by decide +kernel, rfl, by decide +kernel, by decide +kernel⟩
abbrev s_is_row : Stmt := top 13
abbrev N_is_row : List Str := ["many", "thing", "x"]
abbrev P_is_row : List Str := ["many", "thing"]
theorem sc_is_row : FnScope N_is_row P_is_row (defScope s_is_row) := ⟨rfl, rfl, rfl, by decide +kernel, rfl, by decide +kernel, by decide +kernel⟩
abbrev s_is_short_row : Stmt := top 14
abbrev N_is_short_row : List Str := ["many", "thing", "most"]
abbrev P_is_short_row : List Str := ["many", "thing", "most"]
theorem sc_is_short_row : FnScope N_is_short_row P_is_short_row (defScope s_is_short_row) := ⟨rfl, rfl, rfl, by decide +kernel, rfl, by decide +kernel, by decide +kernel⟩
abbrev s_is_back : Stmt := top 15
abbrev N_is_back : List Str := ["thing", "letter", "back"]
abbrev P_is_back : List Str := ["thing"]
theorem sc_is_back : FnScope N_is_back P_is_back (defScope s_is_back) := ⟨rfl, rfl, rfl, by decide +kernel, rfl, by decide +kernel, by decide +kernel⟩
abbrev s_want_letters : Stmt := top 16
abbrev N_want_letters : List Str := ["back", "word"]
abbrev P_want_letters : List Str := ["back", "word"]
theorem sc_want_letters : FnScope N_want_letters P_want_letters (defScope s_want_letters) := ⟨rfl, rfl, rfl, by decide +kernel, rfl, by decide +kernel, by decide +kernel⟩
abbrev s_is_rule : Stmt := top 20
abbrev N_is_rule : List Str := ["many", "thing", "side"]
abbrev P_is_rule : List Str := ["many", "thing"]
theorem sc_is_rule : FnScope N_is_rule P_is_rule (defScope s_is_rule) := ⟨rfl, rfl, rfl, by decide +kernel, rfl, by decide +kernel, by decide +kernel⟩
abbrev s_are_rules : Stmt := top 21
abbrev N_are_rules : List Str := ["many", "thing", "rule"]
abbrev P_are_rules : List Str := ["many", "thing"]
theorem sc_are_rules : FnScope N_are_rules P_are_rules (defScope s_are_rules) := ⟨rfl, rfl, rfl, by decide +kernel, rfl, by decide +kernel, by decide +kernel⟩
abbrev s_Groupinit : Stmt := clsM (top 22) 0
abbrev N_Groupinit : List Str := ["self", "back", "rules"]
abbrev P_Groupinit : List Str := ["self", "back", "rules"]
theorem sc_Groupinit : FnScope N_Groupinit P_Groupinit (defScope s_Groupinit) := ⟨rfl, rfl, rfl, by decide +kernel, rfl, by decide +kernel, by decide +kernel⟩
abbrev s_Groupeq : Stmt := clsM (top 22) 1
abbrev N_Groupeq : List Str := ["self", "other"]
abbrev P_Groupeq : List Str := ["self", "other"]
theorem sc_Groupeq : FnScope N_Groupeq P_Groupeq (defScope s_Groupeq) := ⟨rfl, rfl, rfl, by decide +kernel, rfl, by decide +kernel, by decide +kernel⟩
abbrev s_is_way : Stmt := top 26
abbrev N_is_way : List Str := ["letters", "states", "thing", "to"]
abbrev P_is_way : List Str := ["letters", "states", "thing"]
theorem sc_is_way : FnScope N_is_way P_is_way (defScope s_is_way) := ⟨rfl, rfl, rfl, by decide +kernel, rfl, by decide +kernel, by decide +kernel⟩
abbrev s_are_ways : Stmt := top 27
abbrev N_are_ways : List Str := ["letters", "thing", "way"]
abbrev P_are_ways : List Str := ["letters", "thing"]
theorem sc_are_ways : FnScope N_are_ways P_are_ways (defScope s_are_ways) := ⟨rfl, rfl, rfl, by decide +kernel, rfl, by decide +kernel, by decide +kernel⟩
abbrev s_are_ends : Stmt := top 28
abbrev N_are_ends : List Str := ["states", "thing", "end", "k"]
abbrev P_are_ends : List Str := ["states", "thing"]
theorem sc_are_ends : FnScope N_are_ends P_are_ends (defScope s_are_ends) := ⟨rfl, rfl, rfl, by decide +kernel, rfl, by decide +kernel, by decide +kernel⟩
abbrev s_Machineinit : Stmt := clsM (top 29) 0
abbrev N_Machineinit : List Str := ["self", "letters", "ways", "ends", "way"]
abbrev P_Machineinit : List Str := ["self", "letters", "ways", "ends"]
theorem sc_Machineinit : FnScope N_Machineinit P_Machineinit (defScope s_Machineinit) := ⟨rfl, rfl, rfl, by decide +kernel, rfl, by decide +kernel, by decide +kernel⟩
abbrev s_Machineeq : Stmt := clsM (top 29) 1
abbrev N_Machineeq : List Str := ["self", "other"]
abbrev P_Machineeq : List Str := ["self", "other"]
theorem sc_Machineeq : FnScope N_Machineeq P_Machineeq (defScope s_Machineeq) := ⟨rfl, rfl, rfl, by decide +kernel, rfl, by decide +kernel, by decide +kernel⟩
abbrev s_state_behind : Stmt := top 30
abbrev N_state_behind : List Str := ["ways", "state", "row", "number"]
abbrev P_state_behind : List Str := ["ways", "state", "row"]
theorem sc_state_behind : FnScope N_state_behind P_state_behind (defScope s_state_behind) := ⟨rfl, rfl, rfl, by decide +kernel, rfl, by decide +kernel, by decide +kernel⟩
abbrev s_row_of_pair : Stmt := top 32
abbrev N_row_of_pair : List Str := ["many", "one", "other", "row", "place", "first", "second"]
abbrev P_row_of_pair : List Str := ["many", "one", "other"]
theorem sc_row_of_pair : FnScope N_row_of_pair P_row_of_pair (defScope s_row_of_pair) := ⟨rfl, rfl, rfl, by decide +kernel, rfl, by decide +kernel, by decide +kernel⟩
abbrev s_is_machine_of : Stmt := top 34
abbrev N_is_machine_of : List Str := ["letters", "thing"]
abbrev P_is_machine_of : List Str := ["letters", "thing"]
theorem sc_is_machine_of : FnScope N_is_machine_of P_is_machine_of (defScope s_is_machine_of) := ⟨rfl, rfl, rfl, by decide +kernel, rfl, by decide +kernel, by decide +kernel⟩
abbrev s_are_nears : Stmt := top 35
abbrev N_are_nears : List Str := ["many", "thing", "near"]
abbrev P_are_nears : List Str := ["many", "thing"]
theorem sc_are_nears : FnScope N_are_nears P_are_nears (defScope s_are_nears) := ⟨rfl, rfl, rfl, by decide +kernel, rfl, by decide +kernel, by decide +kernel⟩
abbrev s_Claiminit : Stmt := clsM (top 36) 0
abbrev N_Claiminit : List Str := ["self", "group", "words", "nears"]
abbrev P_Claiminit : List Str := ["self", "group", "words", "nears"]
theorem sc_Claiminit : FnScope N_Claiminit P_Claiminit (defScope s_Claiminit) := ⟨rfl, rfl, rfl, by decide +kernel, rfl, by decide +kernel, by decide +kernel⟩
abbrev s_Claimeq : Stmt := clsM (top 36) 1
abbrev N_Claimeq : List Str := ["self", "other"]
abbrev P_Claimeq : List Str := ["self", "other"]
theorem sc_Claimeq : FnScope N_Claimeq P_Claimeq (defScope s_Claimeq) := ⟨rfl, rfl, rfl, by decide +kernel, rfl, by decide +kernel, by decide +kernel⟩
abbrev s_want_claim : Stmt := top 37
abbrev N_want_claim : List Str := ["claim"]
abbrev P_want_claim : List Str := ["claim"]
theorem sc_want_claim : FnScope N_want_claim P_want_claim (defScope s_want_claim) := ⟨rfl, rfl, rfl, by decide +kernel, rfl, by decide +kernel, by decide +kernel⟩
abbrev s_says : Stmt := top 38
abbrev N_says : List Str := ["claim", "letter", "one", "other", "back", "near"]
abbrev P_says : List Str := ["claim", "letter", "one", "other"]
theorem sc_says : FnScope N_says P_says (defScope s_says) := ⟨rfl, rfl, rfl, by decide +kernel, rfl, by decide +kernel, by decide +kernel⟩
abbrev s_law_begun : Stmt := top 40
abbrev N_law_begun : List Str := ["script", "large", "grain"]
abbrev P_law_begun : List Str := ["script"]
theorem sc_law_begun : FnScope N_law_begun P_law_begun (defScope s_law_begun) := ⟨rfl, rfl, rfl, by decide +kernel, rfl, by decide +kernel, by decide +kernel⟩
abbrev s_law_mixed : Stmt := top 41
abbrev N_law_mixed : List Str := ["draw", "turn", "found", "great", "blend", "grain"]
abbrev P_law_mixed : List Str := ["draw"]
theorem sc_law_mixed : FnScope N_law_mixed P_law_mixed (defScope s_law_mixed) := ⟨rfl, rfl, rfl, by decide +kernel, rfl, by decide +kernel, by decide +kernel⟩
abbrev s_law_take : Stmt := top 42
abbrev N_law_take : List Str := ["draw", "amount", "found"]
abbrev P_law_take : List Str := ["draw", "amount"]
theorem sc_law_take : FnScope N_law_take P_law_take (defScope s_law_take) := ⟨rfl, rfl, rfl, by decide +kernel, rfl, by decide +kernel, by decide +kernel⟩
abbrev s_law_pick : Stmt := top 43
abbrev N_law_pick : List Str := ["draw", "some"]
abbrev P_law_pick : List Str := ["draw", "some"]
theorem sc_law_pick : FnScope N_law_pick P_law_pick (defScope s_law_pick) := ⟨rfl, rfl, rfl, by decide +kernel, rfl, by decide +kernel, by decide +kernel⟩
abbrev s_law_is_truth : Stmt := top 44
abbrev N_law_is_truth : List Str := ["found", "due"]
abbrev P_law_is_truth : List Str := ["found", "due"]
theorem sc_law_is_truth : FnScope N_law_is_truth P_law_is_truth (defScope s_law_is_truth) := ⟨rfl, rfl, rfl, by decide +kernel, rfl, by decide +kernel, by decide +kernel⟩
abbrev s_law_caught : Stmt := top 45
abbrev N_law_caught : List Str := ["work", "caught", "error"]
abbrev P_law_caught : List Str := ["work"]
theorem sc_law_caught : FnScope N_law_caught P_law_caught (defScope s_law_caught) := ⟨rfl, rfl, rfl, by decide +kernel, rfl, by decide +kernel, by decide +kernel⟩
abbrev s_law_word : Stmt := top 46
abbrev N_law_word : List Str := ["draw", "back_here", "most", "k"]
abbrev P_law_word : List Str := ["draw", "back_here", "most"]
theorem sc_law_word : FnScope N_law_word P_law_word (defScope s_law_word) := ⟨rfl, rfl, rfl, by decide +kernel, rfl, by decide +kernel, by decide +kernel⟩
abbrev s_law_pairs_read : Stmt := top 47
abbrev N_law_pairs_read : List Str := ["back_here", "one", "other", "many", "found", "k"]
abbrev P_law_pairs_read : List Str := ["back_here", "one", "other"]
theorem sc_law_pairs_read : FnScope N_law_pairs_read P_law_pairs_read (defScope s_law_pairs_read) := ⟨rfl, rfl, rfl, by decide +kernel, rfl, by decide +kernel, by decide +kernel⟩
abbrev s_law_went : Stmt := top 48
abbrev N_law_went : List Str := ["ways_here", "row_here", "state", "item"]
abbrev P_law_went : List Str := ["ways_here", "row_here"]
theorem sc_law_went : FnScope N_law_went P_law_went (defScope s_law_went) := ⟨rfl, rfl, rfl, by decide +kernel, rfl, by decide +kernel, by decide +kernel⟩
abbrev s_law_machine_sketch : Stmt := top 49
abbrev N_law_machine_sketch : List Str := ["draw", "letters_here", "most", "many", "ways_here", "state", "k"]
abbrev P_law_machine_sketch : List Str := ["draw", "letters_here", "most"]
theorem sc_law_machine_sketch : FnScope N_law_machine_sketch P_law_machine_sketch (defScope s_law_machine_sketch) := ⟨rfl, rfl, rfl, by decide +kernel, rfl, by decide +kernel, by decide +kernel⟩
abbrev s_law_copied : Stmt := top 50
abbrev N_law_copied : List Str := ["letters_here", "lot", "line"]
abbrev P_law_copied : List Str := ["letters_here", "lot"]
theorem sc_law_copied : FnScope N_law_copied P_law_copied (defScope s_law_copied) := ⟨rfl, rfl, rfl, by decide +kernel, rfl, by decide +kernel, by decide +kernel⟩
abbrev s_law : Stmt := top 51
abbrev N_law : List Str := "script" :: "draw" :: "turn" :: "back_here" :: "many" :: "wide" :: "rules_here" :: "group" :: "some" :: "k" :: "words_here" :: "line" :: "raw" :: "lot" :: "nears_here" :: "claim" :: "plain_here" :: "ways_here" :: "ends_here" :: "told" :: "near" :: "other" :: "spot" :: "changed" :: "lap" :: "one" :: "two" :: "letter" :: "due" :: "none" :: "bad" :: "caught" :: "wrong" :: "work" :: []
abbrev P_law : List Str := ["script"]
theorem sc_law : FnScope N_law P_law (defScope s_law) := ⟨rfl, rfl, rfl, by decide +kernel, rfl, by decide +kernel, by decide +kernel⟩

section
variable {P : Program} {w : World} {K : PySem.W.Frag} {mg : Str → Option Value} {base : Heap} {f : Addr} {fd : FuncData}

def R_is_number : List PyData → PyData → Prop := fun ds d => ∃ x, ds = [x] ∧ d = .bool (isNum x)
theorem ok_is_number (D : DefAt K mg "is_number" s_is_number P_is_number f fd) (T : Bt mg) : Ok P w K mg base "is_number" P_is_number 1 (SpD K R_is_number) := by
  refine D.ok (okD D.F sc_is_number (fun ds d h => ?_) fun cdv A outer s H hr => ?_)
  · obtain ⟨x, rfl, _⟩ := h; rfl
  have S := sc_is_number
  refine ⟨_, (pss_one (ps_ret (pe_and (pe_callB (q_isi K rfl) (by rfl) T.isinstance (by decide +kernel) (pa_cons (pv 0) (pa_cons (pe_bltn (v := .ty "int") (by rfl) T.int (by decide +kernel) rfl) pa_nil))) (pe_one (pe_not (pe_callB (q_isi K rfl) (by rfl) T.isinstance (by decide +kernel) (pa_cons (pv 0) (pa_cons (pe_bltn (v := .ty "bool") (by rfl) T.bool (by decide +kernel) rfl) pa_nil)))))))), fun G ds d vs hR ha H0 hs D' q _ => ?_⟩
  obtain ⟨x, rfl, rfl⟩ := hR
  obtain _ | ⟨hv, _ | _⟩ := ha
  refine (RtD.cast (rd_ret (ed_and (ed_isi (ed_var (i := 0) rfl hv) (kit_int x)) fun hb => ed_not (ed_isi (ed_var (i := 0) rfl hv) (kit_bool x)))) ?_) H0 hs D' q
  cases x <;> rfl

def R_is_number_in : List PyData → PyData → Prop := fun ds d => ∃ x lo hi, ds = [x, .int lo, .int hi] ∧ d = .bool (inR lo hi x)
theorem ok_is_number_in (D : DefAt K mg "is_number_in" s_is_number_in P_is_number_in f fd) (T : Bt mg) (h_is_number : Ok P w K mg base "is_number" P_is_number 1 (SpD K R_is_number)) :
    Ok P w K mg base "is_number_in" P_is_number_in 2 (SpD K R_is_number_in) := by
  refine D.ok (okD D.F sc_is_number_in (fun ds d h => ?_) fun cdv A outer s H hr => ?_)
  · obtain ⟨x, lo, hi, rfl, _⟩ := h; rfl
  have S := sc_is_number_in
  refine ⟨_, (pss_one (ps_ret (pe_and (pe_ok h_is_number (hr.mono (by decide)) (by rfl) (pa_cons (pv 0) pa_nil)) (pe_one (pe_chain op_le op_le (pv 1) (pv 0) (pv 2)))))), fun G ds d vs hR ha H0 hs D' q _ => ?_⟩
  obtain ⟨x, lo, hi, rfl, rfl⟩ := hR
  obtain _ | ⟨hv, _ | ⟨hl, _ | ⟨hh, _ | _⟩⟩⟩ := ha
  cases x with
  | int i => exact (RtD.cast (rd_ret (ed_and (ed_call (R := R_is_number) (E := E0) (ea_cons (ed_var (i := 0) rfl hv) ea_nil) ⟨_, rfl, rfl⟩) fun _ => ed_chain (ed_var (i := 1) rfl hl) (ed_var (i := 0) rfl hv) ro_b (fun _ => ed_var (i := 2) rfl hh) (fun _ => ro_b))) (by rfl)) H0 hs D' q
  | _ => exact (RtD.cast (rd_ret (ed_and (b := false) (ed_call (R := R_is_number) (E := E0) (ea_cons (ed_var (i := 0) rfl hv) ea_nil) ⟨_, rfl, rfl⟩) fun z => nomatch z)) (by rfl)) H0 hs D' q

def R_is_row : List PyData → PyData → Prop := fun ds d => ∃ n x, ds = [.int n, x] ∧ Sized x ∧ d = .bool (isRow n x)
theorem ok_is_row (D : DefAt K mg "is_row" s_is_row P_is_row f fd) (T : Bt mg) (h_is_number_in : Ok P w K mg base "is_number_in" P_is_number_in 2 (SpD K R_is_number_in)) :
    Ok P w K mg base "is_row" P_is_row 3 (SpD K R_is_row) := by
  refine D.ok (okD D.F sc_is_row (fun ds d h => ?_) fun cdv A outer s H hr => ?_)
  · obtain ⟨n, x, rfl, _⟩ := h; rfl
  have S := sc_is_row
  refine ⟨_, (pss_one (ps_ret (pe_and (pe_callB (q_isi K rfl) (by rfl) T.isinstance (by decide +kernel) (pa_cons (pv 1) (pa_cons (pe_bltn (v := .ty "tuple") (by rfl) T.tuple (by decide +kernel) rfl) pa_nil))) (pe_one (pe_callB (q_all K rfl rfl) (by rfl) T.all (by decide +kernel) (pa_cons (pe_lc (own := [("x", 2)]) (g := gName 2) (by rfl) S.nd  (q_iT K rfl (pv 1)) (blkOk_by (N := N_is_row) (sc := defScope s_is_row) (by decide +kernel)) (fun _ _ _ _ _ => (pg_name (i := 2) S.nd rfl (by first | exact .inl rfl | exact .inr rfl))) (fun _ _ _ _ _ => pts_nil) (fun _ _ _ _ _ => (pe_ok h_is_number_in (hr.mono (by decide)) (by rfl) (pa_cons (pv 2) (pa_cons pe_int (pa_cons (pe_op op_sub (pv 0) pe_int) pa_nil)))))) pa_nil)))))), fun G ds d vs hR ha H0 hs D' q _ => ?_⟩
  obtain ⟨n, x, rfl, hz, rfl⟩ := hR
  obtain _ | ⟨hn, _ | ⟨hx, _ | _⟩⟩ := ha
  cases x with
  | tuple xs =>
    refine (RtD.cast (rd_ret (ed_and (b := xs.all (inR 0 (n - 1))) (ed_isi (ed_var (i := 1) rfl hx) (kit_tup _)) fun _ => ?_)) (by rfl)) H0 hs D' q
    refine EvD.cast (ed_cb (ea_cons (EvN.toD (en_lcT1 (fun d => .bool (inR 0 (n - 1) d)) (ed_var (i := 1) rfl hx) (fun _ => rfl) hz fun d v Gi _ g hd => ?_)) ea_nil) (z := .bool ((xs.map (inR 0 (n - 1))).all id)) ?_) ?_
    · exact ed_call (ea_cons (ed_var (i := 2) rfl hd) (ea_cons ed_int (ea_cons (ed_op (ed_var (i := 0) rfl (dp_mono g _ hn)) ed_int ro_i) ea_nil))) ⟨d, 0, n - 1, rfl, rfl⟩
    · have h := rcl_all (K := K) (bs := xs.map (inR 0 (n - 1)))
      rw [List.map_map] at h
      exact h
    · rw [List.all_map]; rfl
  | _ => exact (RtD.cast (rd_ret (ed_and (b := false) (ed_isi (ed_var (i := 1) rfl hx) (kit_tup _)) fun z => nomatch z)) (by rfl)) H0 hs D' q

def R_is_short_row : List PyData → PyData → Prop := fun ds d => ∃ n x m, ds = [.int n, x, .int m] ∧ Sized x ∧ d = .bool (isShort n m x)
theorem ok_is_short_row (D : DefAt K mg "is_short_row" s_is_short_row P_is_short_row f fd) (T : Bt mg) (h_is_row : Ok P w K mg base "is_row" P_is_row 3 (SpD K R_is_row)) :
    Ok P w K mg base "is_short_row" P_is_short_row 4 (SpD K R_is_short_row) := by
  refine D.ok (okD D.F sc_is_short_row (fun ds d h => ?_) fun cdv A outer s H hr => ?_)
  · obtain ⟨n, x, m, rfl, _⟩ := h; rfl
  have S := sc_is_short_row
  refine ⟨_, (pss_one (ps_ret (pe_and (pe_callB (q_isi K rfl) (by rfl) T.isinstance (by decide +kernel) (pa_cons (pv 1) (pa_cons (pe_bltn (v := .ty "tuple") (by rfl) T.tuple (by decide +kernel) rfl) pa_nil))) (pe_and (pe_cmpR op_le (pe_callB (q_len K rfl) (by rfl) T.len PySem.boot_len (pa_cons (pv 1) pa_nil)) (pv 2) (nomark _)) (pe_one (pe_ok h_is_row (hr.mono (by decide)) (by rfl) (pa_cons (pv 0) (pa_cons (pv 1) pa_nil)))))))), fun G ds d vs hR ha H0 hs D' q _ => ?_⟩
  obtain ⟨n, x, m, rfl, hz, rfl⟩ := hR
  obtain _ | ⟨hn, _ | ⟨hx, _ | ⟨hm, _ | _⟩⟩⟩ := ha
  cases x with
  | tuple xs =>
    refine (RtD.cast (rd_ret (ed_and (b := decide ((xs.length : Int) ≤ m) && xs.all (inR 0 (n - 1))) (ed_isi (ed_var (i := 1) rfl hx) (kit_tup _)) fun _ => ?_)) (by rfl)) H0 hs D' q
    exact ed_and (ed_op (ed_cb (ea_cons (ed_var (i := 1) rfl hx) ea_nil) rcl_len) (ed_var (i := 2) rfl hm) ro_b) fun _ => ed_call (ea_cons (ed_var (i := 0) rfl hn) (ea_cons (ed_var (i := 1) rfl hx) ea_nil)) ⟨n, .tuple xs, rfl, hz, rfl⟩
  | _ => exact (RtD.cast (rd_ret (ed_and (b := false) (ed_isi (ed_var (i := 1) rfl hx) (kit_tup _)) fun z => nomatch z)) (by rfl)) H0 hs D' q
end
end Gw
namespace Gw
open PySem PySem.Spec PyProof.Rows L2
section
variable {P : Program} {w : World} {K : PySem.W.Frag} {mg : Str → Option Value} {base : Heap} {f : Addr} {fd : FuncData}
/-- a def whose body is told by its reading -/
theorem ok_law_mixed (D : DefAt K mg "_law_mixed" s_law_mixed P_law_mixed f fd) (T : Bt mg) : Ok P w K mg base "_law_mixed" P_law_mixed 1 spMixed := by
  refine D.ok (D.F.ok sc_law_mixed (fun vs H Q E h => ?_) fun cdv A outer s H vs Q E hr h => ?_)
  · obtain ⟨d, l, c, rfl, _⟩ := h; rfl
  have S := sc_law_mixed
  obtain ⟨d, l, c, rfl, Dw, q⟩ := h
  refine ⟨_, (pss_cons (ps_dput (hu_of hr) (pv 0) pe_str (pe_op op_add (pe_dget (hu_of hr) (pv 0) pe_str (fun _ _ => rfl)) pe_int) rfl)
  (pss_cons (ps_par (i := 1) (j := 2) rfl S.nd rfl rfl (by decide) rfl rfl (pa_cons (pe_callTy call_int1 (by rfl) T.int (by decide +kernel) (pa_cons (pe_dget (hu_of hr) (pv 0) pe_str (fun _ _ => rfl)) pa_nil)) (pa_cons pe_int pa_nil)) (by rfl))
  (pss_cons (ps_for PassesOwn.never rfl (q_iL K rfl (pe_lst (pa_cons pe_int (pa_cons pe_int (pa_cons pe_int pa_nil))))) (pg_name (i := 3) S.nd rfl (by first | exact .inl rfl | exact .inr rfl)) (pss_cons (ps_set (i := 4) S.nd rfl (by first | exact .inl rfl | exact .inr rfl) (pe_op op_modN (pe_op op_add (pe_op op_mul (pv 1) pe_int) (pe_op op_fdivN (pv 3) pe_int)) (pv 3)))
  (pss_cons (ps_for PassesOwn.never rfl (q_iL K rfl (pe_dget (hu_of hr) (pv 0) pe_str (fun _ _ => rfl))) (pg_name (i := 5) S.nd rfl (by first | exact .inl rfl | exact .inr rfl)) (pss_one (ps_set (i := 4) S.nd rfl (by first | exact .inl rfl | exact .inr rfl) (pe_op op_modN (pe_op op_add (pe_op op_mul (pv 4) pe_int) (pe_callTy call_int1 (by rfl) T.int (by decide +kernel) (pa_cons (pv 5) pa_nil))) (pv 3)))))
  (pss_one (ps_set (i := 2) S.nd rfl (by first | exact .inl rfl | exact .inr rfl) (pe_op op_add (pe_op op_mul (pv 2) pe_int) (pe_op op_modN (pe_op op_pow (pv 4) pe_int) (pv 3))))))))
  (pss_one (ps_ret (pv 2)))))), ?_⟩
  obtain ⟨r, t, ls, cs, h1, h2, h3, h4, h5⟩ := Dw.at'
  obtain ⟨ndl, ndc⟩ := Dw.dl
  refine ⟨_, rfl, d, _, rfl, gD_turn h1, t, 1, rfl, rfl, _, rfl, d, _, rfl, uD_turn h1, ?_⟩
  have e1 : upd H d (.dK (kvD l c r (t + 1))) d = some (.dK (kvD l c r (t + 1))) := upd_same
  refine ⟨_, rfl, d, _, rfl, gD_turn e1, .inl ⟨_, rfl, _, _, rfl, ?_⟩⟩
  refine ⟨by show 3 ≤ sizeLine; decide, fun p hp => ?_⟩
  have hpd : d ≠ p := ne_of_none e1 hp
  have hpc : c ≠ p := ne_of_none (o := .lst (cs.map V.int)) (by rw [upd_ne (Ne.symm ndc)]; exact h3) hp
  have hpl : l ≠ p := ne_of_none (o := .lst (ls.map V.int)) (by rw [upd_ne (Ne.symm ndl)]; exact h2) hp
  generalize hH1 : upd (upd H d (.dK (kvD l c r (t + 1)))) p (.lst [.int 2147483629, .int 2147483587, .int 2147483579]) = H1
  have g1 : H1 d = some (.dK (kvD l c r (t + 1))) := by rw [← hH1, upd_ne hpd]; exact e1
  have g3 : H1 c = some (.lst (cs.map V.int)) := by rw [← hH1, upd_ne hpc, upd_ne (Ne.symm ndc)]; exact h3
  have g2 : H1 l = some (.lst (ls.map V.int)) := by rw [← hH1, upd_ne hpl, upd_ne (Ne.symm ndl)]; exact h2
  have gp : H1 p = some (.lst [.int 2147483629, .int 2147483587, .int 2147483579]) := by rw [← hH1]; exact upd_same
  refine ⟨p, rfl, ⟨_, SqL.of gp⟩, for_list (K := K) (a := p) (xs := [.int 2147483629, .int 2147483587, .int 2147483579]) (fun i σ Hc => H1 = Hc ∧ ∃ fo x3 x4 x5, σ = [some (.ref d), some (.int (t + 1)), some (.int fo), x3, x4, x5]) ⟨rfl, 0, none, none, none, rfl⟩ (fun i σ Hc _ hp => hp.1 ▸ SqL.of gp) ?_ ?_⟩
  · rintro i x σ Hc hi ⟨rfl, fo, x3, x4, x5, rfl⟩
    obtain ⟨g, rfl, hg0, hg1⟩ : ∃ g : Int, x = .int g ∧ 0 < g ∧ g < 2 ^ 32 := by
      have hm := List.mem_of_getElem? hi
      rcases List.mem_cons.mp hm with rfl | hm
      · exact ⟨_, rfl, by decide, by decide⟩
      rcases List.mem_cons.mp hm with rfl | hm
      · exact ⟨_, rfl, by decide, by decide⟩
      rw [List.mem_singleton.mp hm]
      exact ⟨_, rfl, by decide, by decide⟩
    refine ⟨_, rfl, _, _, rfl, rfl, .inr ⟨by decide, by decide⟩, _, rfl, _, _, rfl, rfl, ⟨by decide, by decide⟩, _, _, rfl, rfl, _, rfl, _, _, rfl, rfl, by omega, ?_⟩
    refine ⟨_, rfl, d, _, rfl, gD_cells g1, c, rfl, ⟨_, SqL.of g3⟩, for_list (K := K) (a := c) (xs := cs.map V.int) (fun j σ Hc => H1 = Hc ∧ ∃ (b : Int) (y5 : Option V), 0 ≤ b ∧ b < g ∧ σ = [some (.ref d), some (.int (t + 1)), some (.int fo), some (.int g), some (.int b), y5]) ⟨rfl, _, x5, (fmod_in hg0).1, (fmod_in hg0).2, rfl⟩ (fun j σ Hc _ hp => hp.1 ▸ SqL.of g3) ?_ ?_⟩
    · rintro j x σ Hc hj ⟨rfl, b, y5, hb0, hb1, rfl⟩
      obtain ⟨n, rfl⟩ : ∃ n, x = .int n := by
        rw [List.getElem?_map] at hj
        cases e : cs[j]? with
        | none => rw [e] at hj; cases hj
        | some n => rw [e] at hj; exact ⟨n, (Option.some.inj hj).symm⟩
      exact ⟨_, rfl, _, _, rfl, rfl, .inr ⟨by decide, by decide⟩, _, rfl, .inl ⟨_, rfl, _, _, rfl, rfl, _, rfl, _, _, rfl, rfl, by omega, rfl, _, _, (fmod_in hg0).1, (fmod_in hg0).2, rfl⟩⟩
    · rintro σ Hc ⟨rfl, b, y5, hb0, hb1, rfl⟩
      refine ⟨_, rfl, _, _, rfl, rfl, .inr ⟨by decide, by decide⟩, _, rfl, _, _, rfl, rfl, ⟨by decide, by decide, by omega⟩, _, rfl, _, _, rfl, rfl, by omega, _, _, rfl, rfl, rfl, _, _, _, _, rfl⟩
  · rintro σ Hc ⟨rfl, fo, x3, x4, x5, rfl⟩
    refine ⟨_, rfl, q _ _ ⟨fun a o n1 n2 e => ?_⟩ ⟨Dw.ne, r, t + 1, ls, cs, g1, g2, g3, h4, h5⟩⟩
    have hap : a ≠ p := ne_of_none (o := o) (by rw [upd_ne n1]; exact e) hp
    rw [← hH1, upd_ne hap, upd_ne n1]
    exact e

theorem ok_law_take (D : DefAt K mg "_law_take" s_law_take P_law_take f fd) (T : Bt mg) (h__law_mixed : Ok P w K mg base "_law_mixed" P_law_mixed 1 spMixed) : Ok P w K mg base "_law_take" P_law_take 2 spTake := by
  refine D.ok (D.F.ok sc_law_take (fun vs H Q E h => ?_) fun cdv A outer s H vs Q E hr h => ?_)
  · obtain ⟨d, l, c, n, rfl, _⟩ := h; rfl
  have S := sc_law_take
  obtain ⟨d, l, c, n, rfl, Dw, hn0, hn1, q⟩ := h
  refine ⟨_, (pss_cons (ps_if (pt_cmpR op_eq (pe_dget (hu_of hr) (pv 0) pe_str (fun _ _ => rfl)) pe_int (nomark _)) (pss_one (ps_dput (hu_of hr) (pv 0) pe_str (pe_ifExp (pt_cmpR (q_neD K rfl hr.units) (pe_dget (hu_of hr) (pv 0) pe_str (fun _ _ => rfl)) (pe_lst pa_nil) (nomark _)) (pe_bm PySem.F.plainAttrs_list PySem.F.slot_list_pop PySem.F.type_list_pop mt_popAt (pe_dget (hu_of hr) (pv 0) pe_str (fun _ _ => rfl)) (pa_cons pe_int pa_nil)) (pe_ok h__law_mixed (hr.mono (by decide)) (by rfl) (pa_cons (pv 0) pa_nil))) rfl)) pss_nil)
  (pss_cons (ps_set (i := 2) S.nd rfl (by first | exact .inl rfl | exact .inr rfl) (pe_op op_modN (pe_callTy call_int1 (by rfl) T.int (by decide +kernel) (pa_cons (pe_dget (hu_of hr) (pv 0) pe_str (fun _ _ => rfl)) pa_nil)) (pv 1)))
  (pss_cons (ps_dput (hu_of hr) (pv 0) pe_str (pe_op op_fdivN (pe_callTy call_int1 (by rfl) T.int (by decide +kernel) (pa_cons (pe_dget (hu_of hr) (pv 0) pe_str (fun _ _ => rfl)) pa_nil)) (pv 1)) rfl)
  (pss_one (ps_ret (pv 2)))))), ?_⟩
  refine seq_cut (fun σ' H' => σ' = [some (.ref d), some (.int n), none] ∧ Nd d l H H' ∧ Drw H' d l c) ?_ (fun fin => ?_)
  · rintro σ H2 ⟨rfl, n2, D2⟩
    obtain ⟨r, t, ls, cs, h1, h2, h3, h4, h5⟩ := D2.at'
    obtain ⟨ndl, ndc⟩ := D2.dl
    refine ⟨_, rfl, d, _, rfl, gD_rest h1, .inl ⟨_, rfl, _, rfl, _, _, rfl, rfl, by omega, ?_⟩⟩
    refine ⟨_, rfl, d, _, rfl, gD_rest h1, .inl ⟨_, rfl, _, rfl, _, _, rfl, rfl, ⟨by omega, by omega⟩, ?_⟩⟩
    refine ⟨_, rfl, d, _, rfl, uD_rest h1, _, rfl, ?_⟩
    refine q _ _ (fmod_in hn0).1 (fmod_in hn0).2 (n2.trans Nd.updD) ⟨D2.ne, _, t, ls, cs, upd_same, ?_, ?_, h4, h5⟩
    · rw [upd_ne (Ne.symm ndl)]; exact h2
    · rw [upd_ne (Ne.symm ndc)]; exact h3
  · obtain ⟨r, t, ls, cs, h1, h2, h3, h4, h5⟩ := Dw.at'
    obtain ⟨ndl, ndc⟩ := Dw.dl
    refine ⟨_, rfl, d, _, rfl, gD_rest h1, rfl, _, rfl, ite2 (fun _ => ?_) (fun _ => ?_)⟩
    · -- the large ones first
      refine ⟨_, rfl, d, _, rfl, gD_large h1, Nat.zero_le _, fun p hp => ?_⟩
      have hpl : l ≠ p := ne_of_none h2 hp
      have hpd : d ≠ p := ne_of_none h1 hp
      have hpc : c ≠ p := ne_of_none h3 hp
      have k2 : upd H p (.lst []) l = some (.lst (ls.map V.int)) := by rw [upd_ne hpl]; exact h2
      have kd : upd H p (.lst []) d = some (.dK (kvD l c r t)) := by rw [upd_ne hpd]; exact h1
      have kc : upd H p (.lst []) c = some (.lst (cs.map V.int)) := by rw [upd_ne hpc]; exact h3
      have nd0 : Nd d l H (upd H p (.lst [])) := ⟨fun a o _ _ e => by rw [upd_ne (ne_of_none e hp)]; exact e⟩
      refine ⟨.list (ls.map .int), .list [], .lst (SqL.of k2) (dpa_ints ls), .lst (SqL.of upd_same) .nil, ?_, by decide, ?_⟩
      · have e1 : ∀ zs : List Int, PyData.canLayAll0 (zs.map .int) = true := fun zs => by
          induction zs with
          | nil => rfl
          | cons z zs ih => rw [List.map_cons, PyData.canLayAll0, ih]; rfl
        have e2 : ∀ zs : List Int, PyData.depthAll (zs.map .int) = 0 := fun zs => by
          induction zs with
          | nil => rfl
          | cons z zs ih => rw [List.map_cons, PyData.depthAll, ih]; rfl
        unfold SeqAt.shaped
        rw [Bool.and_eq_true]
        refine ⟨?_, decide_eq_true ?_⟩
        · rw [PyData.canLay0]; exact e1 ls
        · rw [PyData.depth, e2 ls]; decide
      refine ⟨_, rfl, ?_⟩
      cases ls with
      | nil =>
        refine iteF ?_
        exact ⟨_, rfl, d, l, c, rfl, ⟨Dw.ne, r, t, [], cs, kd, k2, kc, h4, h5⟩, fun i H3 n3 D3 => by
          obtain ⟨r3, t3, ls3, cs3, g1, g2, g3, g4, g5⟩ := D3.at'
          obtain ⟨m1, m2⟩ := D3.dl
          exact ⟨_, rfl, d, _, rfl, uD_rest g1, fin _ _ ⟨rfl, (nd0.trans n3).trans Nd.updD, D3.ne, _, t3, ls3, cs3, upd_same, by rw [upd_ne (Ne.symm m1)]; exact g2, by rw [upd_ne (Ne.symm m2)]; exact g3, g4, g5⟩⟩⟩
      | cons z zs =>
        refine iteT ?_
        refine ⟨_, rfl, d, _, rfl, gD_large kd, .inl ⟨rfl, _, SqL.of k2⟩, l, _, 0, 0, V.int z, rfl, rfl, k2, by decide, by decide, ?_, rfl, ?_⟩
        · exact seqIx (k := 0) (by rw [List.map_cons, List.length_cons]; omega)
        have k4 : upd (upd H p (.lst [])) l (.lst (zs.map V.int)) d = some (.dK (kvD l c r t)) := by rw [upd_ne ndl]; exact kd
        refine ⟨_, rfl, d, _, rfl, uD_rest k4, fin _ _ ⟨rfl, (nd0.trans Nd.updL).trans Nd.updD, Dw.ne, _, t, zs, cs, upd_same, ?_, ?_, ?_, h5⟩⟩
        · rw [upd_ne (Ne.symm ndl)]; exact upd_same
        · rw [upd_ne (Ne.symm ndc), upd_ne (Ne.symm Dw.ne)]; exact kc
        · rw [List.length_cons] at h4; omega
    · exact fin _ _ ⟨rfl, Nd.refl, Dw⟩
theorem ok_law_pick (D : DefAt K mg "_law_pick" s_law_pick P_law_pick f fd) (T : Bt mg) (h__law_take : Ok P w K mg base "_law_take" P_law_take 2 spTake) : Ok P w K mg base "_law_pick" P_law_pick 3 (spPick K) := by
  refine D.ok (D.F.ok sc_law_pick (fun vs H Q E h => ?_) fun cdv A outer s H vs Q E hr h => ?_)
  · obtain ⟨d, l, c, a, xs, rfl, _⟩ := h; rfl
  have S := sc_law_pick
  obtain ⟨d, l, c, a, xs, rfl, Dw, hal, hS, hx0, hx1, q⟩ := h
  refine ⟨_, (pss_one (ps_ret (pe_ix (q_ixL K rfl) (pv 1) (pe_ok h__law_take (hr.mono (by decide)) (by rfl) (pa_cons (pv 0) (pa_cons (pe_callB (q_len K rfl) (by rfl) T.len PySem.boot_len (pa_cons (pv 1) pa_nil)) pa_nil))) (fun _ _ => rfl)))), ?_⟩
  refine ⟨_, rfl, _, rfl, _, rfl, a, xs, rfl, .inl hS, d, l, c, (xs.length : Int), rfl, Dw, by omega, by omega, fun k H2 hk0 hk1 n2 D2 => ?_⟩
  obtain ⟨j, rfl⟩ : ∃ j : Nat, k = (j : Int) := ⟨k.toNat, by omega⟩
  have hj : j < xs.length := by omega
  have hS2 : SqL K H2 a xs := by
    obtain ⟨r, t, ls, cs, h1, h2, h3, h4, h5⟩ := Dw.at'
    rcases hS with (e | ⟨o, e⟩) | e
    · exact SqL.of (n2.hh a _ (ne_of e h1 (fun z => nomatch z)) hal e)
    · exact .inl (.inr ⟨o, n2.hh a _ (ne_of e h1 (fun z => nomatch z)) hal e⟩)
    · exact .inr e
  exact ⟨a, xs, (j : Int), xs[j], rfl, rfl, hS2, atI_nat (List.getElem?_eq_getElem hj), q _ _ (List.getElem_mem hj) n2 D2⟩
end
end Gw
namespace Gw
open PySem PySem.Spec PyProof.Rows L2
section
variable {P : Program} {w : World} {K : PySem.W.Frag} {mg : Str → Option Value} {base : Heap} {f : Addr} {fd : FuncData}
theorem ok_law_begun (D : DefAt K mg "_law_begun" s_law_begun P_law_begun f fd) (T : Bt mg) : Ok P w K mg base "_law_begun" P_law_begun 1 (spBegun K) := by
  refine D.ok (D.F.ok sc_law_begun (fun vs H Q E h => ?_) fun cdv A outer s H vs Q E hr h => ?_)
  · obtain ⟨a, ns, rfl, _⟩ := h; rfl
  have S := sc_law_begun
  obtain ⟨a, ns, rfl, hS, h63, q⟩ := h
  refine ⟨_, (pss_cons (ps_setLc (i := 1) (own := [("grain", 2)]) (g := gName 2) (by rfl) S.nd rfl rfl (sw_true rfl rfl rfl (by decide +kernel)) (q_iL K rfl (pv 0)) (blkOk_by (N := N_law_begun) (sc := defScope s_law_begun) (by decide +kernel)) (fun _ _ _ _ _ => (pg_name (i := 2) S.nd rfl (by first | exact .inl rfl | exact .inr rfl))) (fun _ _ _ _ _ => (pts_one (pt_cmpR op_ge (pe_callB call_abs (by rfl) T.abs (by decide +kernel) (pa_cons (pv 2) pa_nil)) (pe_op op_pow pe_int pe_int) (nomark _)))) (fun _ _ _ _ _ => (pe_op op_sub (pe_callB call_abs (by rfl) T.abs (by decide +kernel) (pa_cons (pv 2) pa_nil)) (pe_op op_pow pe_int pe_int))))
  (pss_one (ps_ret (pe_disp (pps_cons pe_str (pv 1) (pps_cons pe_str pe_int (pps_cons pe_str (pe_lc (own := [("grain", 2)]) (g := gName 2) (by rfl) S.nd  (q_iL K rfl (pv 0)) (blkOk_by (N := N_law_begun) (sc := defScope s_law_begun) (by decide +kernel)) (fun _ _ _ _ _ => (pg_name (i := 2) S.nd rfl (by first | exact .inl rfl | exact .inr rfl))) (fun _ _ _ _ _ => pts_nil) (fun _ _ _ _ _ => (pe_callB call_abs (by rfl) T.abs (by decide +kernel) (pa_cons (pv 2) pa_nil)))) (pps_cons pe_str pe_int pps_nil)))) (by rfl) (by rfl) (fun z => by cases z) (by decide))))), ?_⟩
  have hin : ∀ {G : Hp}, Same H G → Dp K G (.ref a) (.list (ns.map .int)) := fun s => .lst (s.seq hS) (dpa_ints ns)
  have hz : (ns.map PyData.int).length ≤ sizeLine := by rw [List.length_map]; exact Nat.le_trans h63 (by decide)
  -- the large ones
  refine seq_asg ?_
  refine (en_lcL (K := K) (σ := L2.start N_law_begun [.ref a]) (vs := [2]) (i := 2) (G := H) (fun d => match d with | .int i => if (10 : Int) ^ 18 ≤ ((i.natAbs : Nat) : Int) then some (.int (((i.natAbs : Nat) : Int) - 10 ^ 18)) else none | _ => none) (ed_var (i := 0) rfl (hin (Same.refl H))) (fun _ => rfl) hz ?_ ?_) H (Same.refl H) _ ?_
  · intro d v Gi hm g hd
    obtain ⟨i, _, rfl⟩ := List.mem_map.mp hm
    refine EvB.cast (eb_test (ed_op (z := .bool (decide ((10 : Int) ^ 18 ≤ ((i.natAbs : Nat) : Int)))) (ed_cb (z := .int ((i.natAbs : Nat) : Int)) (ea_cons (ed_var (i := 2) rfl hd) ea_nil) ?_) (ed_op ed_int ed_int (ro_ic (f := fun i j => i ^ j.toNat) (C := CPow) ⟨by decide, by decide, by decide⟩)) (ro_b (f := fun i j => decide (j ≤ i))))) ?_
    · intro G H s vs hv Q q
      obtain _ | ⟨h1, _ | _⟩ := hv
      refine ⟨i, by rw [dp_int h1], ?_⟩
      rw [abs_if]
      exact q _ G H (Nx.refl s) (.int _)
    · dsimp only
      by_cases hc : (10 : Int) ^ 18 ≤ ((i.natAbs : Nat) : Int)
      · rw [if_pos hc, decide_eq_true hc]; rfl
      · rw [if_neg hc, decide_eq_false hc]; rfl
  · intro d v e Gi hm he g hd
    obtain ⟨i, _, rfl⟩ := List.mem_map.mp hm
    dsimp only at he
    by_cases hc : (10 : Int) ^ 18 ≤ ((i.natAbs : Nat) : Int)
    · rw [if_pos hc] at he
      cases he
      refine ed_op (ed_cb (z := .int ((i.natAbs : Nat) : Int)) (ea_cons (ed_var (i := 2) rfl hd) ea_nil) ?_) (ed_op ed_int ed_int (ro_ic (f := fun i j => i ^ j.toNat) (C := CPow) ⟨by decide, by decide, by decide⟩)) (ro_i (f := fun i j => i - j))
      intro G H s vs hv Q q
      obtain _ | ⟨h1, _ | _⟩ := hv
      refine ⟨i, by rw [dp_int h1], ?_⟩
      rw [abs_if]
      exact q _ G H (Nx.refl s) (.int _)
    · rw [if_neg hc] at he
      cases he
  intro p vs G1 H1 n1 hp gp e1 ha
  obtain ⟨ls, rfl, hls⟩ : ∃ ls : List Int, vs = ls.map V.int ∧ ls.length ≤ 63 := by
    have hlen := dpa_length ha
    have hle : vs.length ≤ 63 := by
      rw [hlen]
      exact Nat.le_trans (List.length_filterMap_le _ _) (by rw [List.length_map]; exact h63)
    have : ∀ (ds : List PyData) (vs : List V), DpAll K G1 vs ds → (∀ d ∈ ds, ∃ i, d = .int i) → ∃ ls : List Int, vs = ls.map V.int := by
      intro ds
      induction ds with
      | nil => intro vs h _; cases h; exact ⟨[], rfl⟩
      | cons d ds ih =>
        intro vs h hd
        obtain _ | ⟨h1, h2⟩ := h
        obtain ⟨i, rfl⟩ := hd d List.mem_cons_self
        obtain ⟨ls, rfl⟩ := ih _ h2 fun d hm => hd d (List.mem_cons_of_mem _ hm)
        exact ⟨i :: ls, by rw [dp_int h1]; rfl⟩
    obtain ⟨ls, e⟩ := this _ _ ha fun d hm => by
      obtain ⟨x, hx, he⟩ := List.mem_filterMap.mp hm
      obtain ⟨i, _, rfl⟩ := List.mem_map.mp hx
      dsimp only at he
      by_cases hc : (10 : Int) ^ 18 ≤ ((i.natAbs : Nat) : Int)
      · rw [if_pos hc] at he; cases he; exact ⟨_, rfl⟩
      · rw [if_neg hc] at he; cases he
    refine ⟨ls, e, ?_⟩
    rw [e, List.length_map] at hle
    exact hle
  -- the dict
  intro d hd
  have hpd : p ≠ d := ne_of_none e1 hd
  have s2 : Same H1 (upd H1 d (.dK [])) := fun b o e => by rw [upd_ne (ne_of_none e hd)]; exact e
  refine tp_c ⟨_, rfl, tp_cc (tp_c ?_)⟩
  refine (en_lcL1 (K := K) (σ := [some (.ref a), some (.ref p), none]) (vs := [2]) (i := 2) (G := H) (fun d => match d with | .int i => .int ((i.natAbs : Nat) : Int) | _ => .none) (ed_var (i := 0) rfl (hin (Same.refl H))) (fun _ => rfl) hz ?_) (upd H1 d (.dK [])) (n1.hh.trans s2) _ ?_
  · intro d v Gi hm g hd
    obtain ⟨i, _, rfl⟩ := List.mem_map.mp hm
    refine ed_cb (ea_cons (ed_var (i := 2) rfl hd) ea_nil) ?_
    intro G H s vs hv Q q
    obtain _ | ⟨h1, _ | _⟩ := hv
    refine ⟨i, by rw [dp_int h1], ?_⟩
    rw [abs_if]
    exact q _ G H (Nx.refl s) (.int _)
  intro c vs G3 H3 n3 hc gc e3 hac
  have hcs : vs = (ns.map fun i => ((i.natAbs : Nat) : Int)).map V.int := by
    refine dpa_ints_inv (K := K) (H := G3) ?_
    rw [List.map_map] at hac ⊢
    exact hac
  have hpc : c ≠ p := fun z => by rw [z, upd_ne hpd, e1] at hc; cases hc
  have hdc : c ≠ d := fun z => by rw [z, upd_same] at hc; cases hc
  have kd : H3 d = some (.dK []) := n3.hh _ _ upd_same
  refine ⟨kd, kvD p c 0 0, rfl, (by decide : 4 ≤ 15), ?_⟩
  rw [merge_kvD]
  have hH0 : ∀ b, H1 b = none → H b = none := fun b => n1.hh.free
  refine q d p c _ (fun b o e => ?_) (n1.hh.free hd) hp (n1.hh.free (by rw [upd_ne hdc] at hc; exact hc)) ⟨Ne.symm hpc, 0, 0, ls, ns.map fun i => ((i.natAbs : Nat) : Int), upd_same, ?_, ?_, hls, by rw [List.length_map]; exact h63⟩
  · have hbd : b ≠ d := ne_of_none e (n1.hh.free hd)
    rw [upd_ne hbd]
    exact n3.hh _ _ (s2 _ _ (n1.hh _ _ e))
  · rw [upd_ne hpd]; exact n3.hh _ _ (s2 _ _ e1)
  · rw [upd_ne hdc, e3, hcs]
theorem ok_law_word (D : DefAt K mg "_law_word" s_law_word P_law_word f fd) (T : Bt mg) (h__law_take : Ok P w K mg base "_law_take" P_law_take 2 spTake) : Ok P w K mg base "_law_word" P_law_word 3 (spWord K) := by
  refine D.ok (D.F.ok sc_law_word (fun vs H Q E h => ?_) fun cdv A outer s H vs Q E hr h => ?_)
  · obtain ⟨d, l, c, b, xs, m, rfl, _⟩ := h; rfl
  have S := sc_law_word
  obtain ⟨d, l, c, b, xs, m, rfl, Dw, hB, hx0, hx1, hm0, hm1, q⟩ := h
  refine ⟨_, (pss_one (ps_ret (pe_callTy (q_tuple K rfl) (by rfl) T.tuple (by decide +kernel) (pa_cons (pe_lc (own := [("k", 3)]) (g := gName 3) (by rfl) S.nd  (pi_range1 (by rfl) T.range (pa_cons (pe_ok h__law_take (hr.mono (by decide)) (by rfl) (pa_cons (pv 0) (pa_cons (pe_op op_add (pv 2) pe_int) pa_nil))) pa_nil)) (blkOk_by (N := N_law_word) (sc := defScope s_law_word) (by decide +kernel)) (fun _ _ _ _ _ => (pg_name (i := 3) S.nd rfl (by first | exact .inl rfl | exact .inr rfl))) (fun _ _ _ _ _ => pts_nil) (fun _ _ _ _ _ => (pe_ok h__law_take (hr.mono (by decide)) (by rfl) (pa_cons (pv 0) (pa_cons (pe_callB (q_len K rfl) (by rfl) T.len PySem.boot_len (pa_cons (pv 1) pa_nil)) pa_nil))))) pa_nil)))), ?_⟩
  refine ⟨_, rfl, _, rfl, _, _, rfl, rfl, d, l, c, m + 1, rfl, Dw, by omega, by omega, fun j H1 hj0 hj1 n1 D1 => ?_⟩
  refine ⟨j, rfl, by omega, by omega, fun p hp => ?_⟩
  have hp0 : H p = none := by
    cases e : H p with
    | none => rfl
    | some o =>
      obtain ⟨z1, z2, z3⟩ := D1.off hp
      rw [n1.hh p o z1 z2 e] at hp
      cases hp
  obtain ⟨o1, o2, o3⟩ := D1.off hp
  refine lc_range (lo := 0) (n := j.toNat) (fun k Hc => ∃ acc : List Int, Hc p = some (.lst (acc.map V.int)) ∧ acc.length = k ∧ Letters xs.length acc ∧ Nd d l H Hc ∧ Drw Hc d l c) ⟨[], upd_same, rfl, (fun x z => nomatch z), ⟨fun a o h1 h2 e => by rw [upd_ne (ne_of_none e hp0)]; exact n1.hh a o h1 h2 e⟩, D1.upd o1 o2 o3⟩ (fun k Hc hk hP => ?_) fun Hc hP => ?_
  · obtain ⟨acc, e1, e2, e3, e4, e5⟩ := hP
    refine ⟨rfl, tyes ?_⟩
    refine ⟨_, rfl, _, rfl, b, xs, rfl, .inr (e4.seqT Dw hB), d, l, c, (xs.length : Int), rfl, e5, by omega, by omega, fun y H2 hy0 hy1 n2 D2 => ?_⟩
    have e6 : H2 p = some (.lst (acc.map V.int)) := n2.hh _ _ o1 o2 e1
    refine ⟨_, e6, ?_, acc ++ [y], ?_, ?_, ?_, ?_, D2.upd o1 o2 o3⟩
    · rw [List.length_map, e2]
      have : k < 200000 := by omega
      exact Nat.lt_of_lt_of_le this (by decide)
    · rw [upd_same, List.map_append]; rfl
    · rw [List.length_append, e2]; rfl
    · intro x hx
      rcases List.mem_append.mp hx with hx | hx
      · exact e3 x hx
      · rw [List.mem_singleton.mp hx]; exact ⟨hy0, hy1⟩
    · exact ⟨fun a o h1 h2 e => by rw [upd_ne (ne_of_none e hp0)]; exact (e4.trans n2).hh a o h1 h2 e⟩
  · obtain ⟨acc, e1, e2, e3, e4, e5⟩ := hP
    refine ⟨p, _, rfl, .inl ⟨SqL.of e1, fun z hz => ?_⟩⟩
    have hz0 : H z = none := by
      cases e : H z with
      | none => rfl
      | some o =>
        obtain ⟨z1, z2, z3⟩ := e5.off hz
        rw [e4.hh z o z1 z2 e] at hz
        cases hz
    obtain ⟨u1, u2, u3⟩ := e5.off hz
    exact q z acc _ (by rw [e2]; omega) e3 hz0 upd_same ⟨fun a o h1 h2 e => by rw [upd_ne (ne_of_none e hz0)]; exact e4.hh a o h1 h2 e⟩ (e5.upd u1 u2 u3)
end
end Gw
namespace Gw
open PySem PySem.Spec PyProof.Rows L2 LamX
theorem takes_len {X : Cx} {W : WX} (tk : Takes X W) : Takes X (fun cls d σ H => σ.length = X.N.length → W cls d σ H) := fun u s' ⟨a, B, sI, pins, σ, H, cls, d, e, I, nb, up, sky, na, os, ag, w⟩ =>
  tk u s' ⟨a, B, sI, pins, σ, H, cls, d, e, I, nb, up, sky, na, os, ag, w I.len⟩
/-- what _law_caught makes of a piece of work -/
def TTc (K : PySem.W.Frag) (CS : Addr) : (XK → Hp → VK → Prop) → Hp → VK → Prop := fun tl H Q =>
  tl (fun cls d H' => ∃ b, PySem.W.exmOne K cls (.ref CS) = some b ∧ (b = true → ∀ a, H' a = none → Q (.ref a) (upd H' a (ErrO cls d a))) ∧ (b = false → False)) H (fun _ H' => ∃ v, (some (some V.non) : Option (Option V)) = some (some v) ∧ Q v H')
theorem caught_gives {X : Cx} {q : Str} {g CS : Addr} {cdg : Value} (hme : X.mg "GroupError" = some (.ref CS)) : GivesTo X N_law_caught "_law_caught" (defScope s_law_caught) g cdg (defBody s_law_caught) "work" q (TTc X.K CS) := by
  intro f c' s H Q tl act hc h
  have S := sc_law_caught
  refine ⟨_, pss_cons (ps_set (i := 1) S.nd rfl (.inl rfl) pe_non) (pss_cons (ps_keep (X := (cxOf C8.CX0 X.prog X.w X.K X.mg X.base N_law_caught "_law_caught" (defScope s_law_caught) g cdg X.A X.stack s H C8.E0).nox) (c := .ref CS) (i := 2) (j := 1)
    (tb := fun W D σ H => ∃ Ech : XK, (∀ cls d σ' H', Ech cls d H' → σ'.length = 3 → W cls d σ' H') ∧ σ[0]? = some (some (.ref f)) ∧ H c' = some (CodeO c' q) ∧ tl Ech H (fun _ H' => D.nx σ H'))
    rfl rfl rfl S.nd rfl rfl rfl rfl (.inl rfl) rfl rfl (fun Y e => by rfl) (show 2 < N_law_caught.length by decide) ⟨rfl, by decide, .inl hme⟩ L2.takes0 (fun W pn xe tk _ => ?_)) (pss_one (ps_ret (pv 1)))), ?_⟩
  · refine ⟨fun pins s' σ H' D I h' => ?_⟩
    obtain ⟨Ech, hW, h1, h2, h3⟩ := h'
    exact (pss_one (ps_expr (act _ pn xe Ech _ _ (takes_len tk) hW))).run pins s' σ H' D I ⟨h1, h2, h3⟩
  · refine ⟨fun cls d H' => ∃ b, PySem.W.exmOne X.K cls (.ref CS) = some b ∧ (b = true → ∀ a, H' a = none → Q (.ref a) (upd H' a (ErrO cls d a))) ∧ (b = false → False), fun cls d σ' H' hE hl => ?_, rfl, hc, ?_⟩
    · obtain ⟨b, e1, e2, e3⟩ := hE
      refine ⟨b, e1, fun hb a na => ?_, fun hb => e3 hb⟩
      match σ', hl with
      | [x0, x1, x2], _ => exact ⟨.ref a, rfl, e2 hb a na⟩
    · exact h
end Gw
namespace Gw
open PySem PySem.Spec PyProof.Rows L2 LamX
section
variable {P : Program} {w : World} {K : PySem.W.Frag} {mg : Str → Option Value} {base : Heap} {f : Addr} {fd : FuncData}
def R_is_back : List PyData → PyData → Prop := fun ds d => ∃ x, ds = [x] ∧ Sized x ∧ d = .bool (isBackD x)
theorem ok_is_back (D : DefAt K mg "is_back" s_is_back P_is_back f fd) (T : Bt mg) {t12 : Tok} (c_MOST_BACK : mg "MOST_BACK" = some (.int 12 t12)) (h_is_row : Ok P w K mg base "is_row" P_is_row 3 (SpD K R_is_row)) :
    OkF P w K mg base "is_back" s_is_back P_is_back 4 (SpD K R_is_back) := by
  refine D.okF (okD D.F sc_is_back (fun ds d h => ?_) fun cdv A outer s H hr => ?_)
  · obtain ⟨x, rfl, _⟩ := h; rfl
  have S := sc_is_back
  refine ⟨_, (pss_cons (ps_if (PW.pt (pw_or (pt_not (pt_val (pe_callB (q_isi K rfl) (by rfl) T.isinstance (by decide +kernel) (pa_cons (pv 0) (pa_cons (pe_bltn (v := .ty "tuple") (by rfl) T.tuple (by decide +kernel) rfl) pa_nil))))) (pw_or1 (pt_not (pt_chain op_le op_le pe_int (pe_callB (q_len K rfl) (by rfl) T.len PySem.boot_len (pa_cons (pv 0) pa_nil)) (pe_glob (v := .int 12) (by rfl) c_MOST_BACK ⟨_, rfl⟩)))))) (pss_one (ps_ret pe_bl)) pss_nil)
  (pss_cons (ps_if (pt_not (pt_val (pe_ok h_is_row (hr.mono (by decide)) (by rfl) (pa_cons (pe_callB (q_len K rfl) (by rfl) T.len PySem.boot_len (pa_cons (pv 0) pa_nil)) (pa_cons (pv 0) pa_nil))))) (pss_one (ps_ret pe_bl)) pss_nil)
  (pss_one (ps_ret (pe_callB (q_all K rfl rfl) (by rfl) T.all (by decide +kernel) (pa_cons (pe_lc (own := [("letter", 1), ("back", 2)])  (by rfl) S.nd  (q_iEnT K rfl (by rfl) T.enumerate (pa_cons (pv 0) pa_nil)) (blkOk_by (N := N_is_back) (sc := defScope s_is_back) (by decide +kernel)) (fun _ _ _ _ _ => (q_gT K 2 rfl rfl (pgs_cons (pg_name (i := 1) S.nd rfl (by first | exact .inl rfl | exact .inr rfl)) (pgs_cons (pg_name (i := 2) S.nd rfl (by first | exact .inl rfl | exact .inr rfl)) pgs_nil)))) (fun _ _ _ _ _ => pts_nil) (fun _ _ _ _ _ => (pe_cmpR (q_eqD K rfl hr.units) (pe_ix (q_ixT K rfl) (pv 0) (pv 2) (fun _ _ => rfl)) (pv 1) (nomark _)))) pa_nil)))))), fun G ds d vs hR ha H0 hs D' q _ => ?_⟩
  obtain ⟨x, rfl, hz, rfl⟩ := hR
  obtain _ | ⟨hx, _ | _⟩ := ha
  cases x with
  | tuple xs =>
    have hz : xs.length ≤ sizeLine := hz
    have hlen := rcl_len (K := K) (ds := xs)
    refine (rd_seqIf (b := !(decide (2 ≤ (xs.length : Int)) && decide ((xs.length : Int) ≤ 12))) ?_ (fun hb => ?_) fun hb => ?_) H0 hs D' q
    · refine EvB.cast (eb_or (eb_not (eb_B (ed_isi (ed_var (i := 0) rfl hx) (kit_tup _)))) fun _ => eb_not (eb_test (ed_chain ed_int (ed_cb (ea_cons (ed_var (i := 0) rfl hx) ea_nil) hlen) (ro_b (f := fun i j => decide (i ≤ j))) (fun _ => ed_int) (fun _ => ro_b (f := fun i j => decide (i ≤ j)))))) (by rfl)
    · refine (rd_ret ed_bl).cast ?_
      have : (decide (2 ≤ (xs.length : Int)) && decide ((xs.length : Int) ≤ 12)) = false := not_t hb
      show PyData.bool false = .bool (decide (2 ≤ xs.length) && decide (xs.length ≤ 12) && _)
      have e : (decide (2 ≤ xs.length) && decide (xs.length ≤ 12)) = false := by
        rw [← this]
        congr 1 <;> exact decide_eq_decide.mpr (by omega)
      rw [e, Bool.false_and]
    · have hc : (decide (2 ≤ (xs.length : Int)) && decide ((xs.length : Int) ≤ 12)) = true := not_f hb
      rw [Bool.and_eq_true, decide_eq_true_eq, decide_eq_true_eq] at hc
      have e : isBackD (.tuple xs) = (xs.all (inR 0 ((xs.length : Int) - 1)) && (xs.mapIdx (bkAt xs)).all id) := by
        show (decide (2 ≤ xs.length) && decide (xs.length ≤ 12) && _) = _
        rw [decide_eq_true (by omega : 2 ≤ xs.length), decide_eq_true (by omega : xs.length ≤ 12)]
        rfl
      rw [e]
      refine rd_seqIf (b := !xs.all (inR 0 ((xs.length : Int) - 1))) (eb_not (eb_B (ed_call (ea_cons (ed_cb (ea_cons (ed_var (i := 0) rfl hx) ea_nil) hlen) (ea_cons (ed_var (i := 0) rfl hx) ea_nil)) ⟨_, _, rfl, hz, rfl⟩))) (fun hb => ?_) fun hb => ?_
      · have h1 : xs.all (inR 0 ((xs.length : Int) - 1)) = false := not_t hb
        rw [h1]
        exact rd_ret ed_bl
      · have h1 : xs.all (inR 0 ((xs.length : Int) - 1)) = true := not_f hb
        rw [h1, Bool.true_and]
        have hin := List.all_eq_true.mp h1
        refine rd_ret (ed_cb (ea_cons (EvN.toD (en_lcEn (fun k d => .bool (bkAt xs k d)) (ed_var (i := 0) rfl hx) (fun _ _ => rfl) hz fun k d v Gi hk g hd => ?_)) ea_nil) ?_)
        · have hm : d ∈ xs := List.mem_of_getElem? hk
          obtain ⟨i, rfl, h0, h9⟩ := inR_int (hin d hm)
          have hi : i.toNat < xs.length := by omega
          have hat : xs[i.toNat]? = some (xs.getD i.toNat .none) := by rw [List.getD_eq_getElem?_getD, List.getElem?_eq_getElem hi]; rfl
          obtain ⟨j, ej, _, _⟩ := inR_int (hin _ (List.mem_of_getElem? hat))
          refine ed_op (ed_op (ed_var (i := 0) rfl (dp_mono g _ hx)) (ed_var (i := 2) rfl hd) (ro_ixT (k := i.toNat) (by omega) hat)) (ed_var (i := 1) (d := .int (k : Int)) rfl (.int _)) (ro_eqD ?_ (shaped_int _))
          rw [ej]; exact shaped_int _
        · have h := rcl_all (K := K) (bs := xs.mapIdx (bkAt xs))
          rw [mapIdx_then] at h
          exact h
  | _ =>
    refine (rd_seqIf (b := true) (EvB.cast (eb_or (a := true) (b := true) (eb_not (eb_B (b := false) (ed_isi (ed_var (i := 0) rfl hx) (kit_tup _)))) fun z => nomatch z) (by rfl)) (fun _ => (rd_ret ed_bl).cast (by rfl)) fun z => nomatch z) H0 hs D' q
/-! ### lists, pairs, rules -/
def spIsL (K : PySem.W.Frag) : Sp := fun vs H Q _ => ∃ (G : Hp) (v : V) (x : PyData), Same G H ∧ vs = [v] ∧ Th K G v x ∧ ∀ G' H', Nx G H G' H' → Q (.bl (isLT x)) H'
theorem ok_is_list (D : DefAt K mg "is_list" s_is_list P_is_list f fd) (T : Bt mg) : Ok P w K mg base "is_list" P_is_list 1 (spIsL K) := by
  refine D.ok (D.F.ok sc_is_list (fun vs H Q E h => ?_) fun cdv A outer s H vs Q E hr h => ?_)
  · obtain ⟨G, v, x, _, rfl, _⟩ := h; rfl
  have S := sc_is_list
  obtain ⟨G, v, x, hs, rfl, hv, q⟩ := h
  refine ⟨_, (pss_one (ps_ret (pe_callB (q_isiT K rfl) (by rfl) T.isinstance (by decide +kernel) (pa_cons (pv 0) (pa_cons (pe_tup (pa_cons (pe_bltn (v := .ty "list") (by rfl) T.list (by decide +kernel) rfl) (pa_cons (pe_bltn (v := .ty "tuple") (by rfl) T.tuple (by decide +kernel) rfl) pa_nil))) pa_nil))))), ?_⟩
  exact (rd_ret (K := K) (d := .bool (isLT x)) (ed_isiLT (i := 0) rfl hv)) H hs _ fun u G' H' n1 hd => by rw [dp_bl hd]; exact q G' H' n1
theorem ed_isL {σ : L2.St} {G : Hp} {i : Nat} {v : V} {x : PyData} (h : σ[i]? = some (some v)) (hv : Th K G v x) : EvD K (tCall (spIsL K) [] E0 (tCons (tVar i) tNil)) σ G (.bool (isLT x)) := fun H s Q q => ⟨v, h, G, v, x, s, rfl, hv, fun G' H' n => q _ G' H' n (.bl _)⟩
def isPairD : PyData → Bool | .tuple ds => decide (ds.length = 2) | _ => false
def isRuleD (n : Int) : PyData → Bool | .tuple ds => decide (ds.length = 2) && ds.all (isShort n 40) | _ => false
def rulesD (n : Int) (ds : List PyData) : Bool := decide (ds.length ≤ 40) && ds.all (isRuleD n)
def itemsOf : PyData → List PyData | .list ds => ds | .tuple ds => ds | _ => []
def areR (n : Int) (x : PyData) : Bool := isLT x && rulesD n (itemsOf x)
/-- what may stand as a rule: the items' items fit -/
def SzI (d : PyData) : Prop := ∀ ds, d = .tuple ds → ds.length ≤ 1000 ∧ ∀ e ∈ ds, Sized e
def SzR (x : PyData) : Prop := (itemsOf x).length ≤ 1000 ∧ ∀ d ∈ itemsOf x, SzI d
def R_is_pair : List PyData → PyData → Prop := fun ds d => ∃ x, ds = [x] ∧ d = .bool (isPairD x)
theorem ok_is_pair (D : DefAt K mg "is_pair" s_is_pair P_is_pair f fd) (T : Bt mg) : Ok P w K mg base "is_pair" P_is_pair 1 (SpD K R_is_pair) := by
  refine D.ok (okD D.F sc_is_pair (fun ds d h => ?_) fun cdv A outer s H hr => ?_)
  · obtain ⟨x, rfl, _⟩ := h; rfl
  have S := sc_is_pair
  refine ⟨_, (pss_one (ps_ret (pe_and (pe_callB (q_isi K rfl) (by rfl) T.isinstance (by decide +kernel) (pa_cons (pv 0) (pa_cons (pe_bltn (v := .ty "tuple") (by rfl) T.tuple (by decide +kernel) rfl) pa_nil))) (pe_one (pe_cmpR op_eq (pe_callB (q_len K rfl) (by rfl) T.len PySem.boot_len (pa_cons (pv 0) pa_nil)) pe_int (nomark _)))))), fun G ds d vs hR ha H0 hs D' q _ => ?_⟩
  obtain ⟨x, rfl, rfl⟩ := hR
  obtain _ | ⟨hx, _ | _⟩ := ha
  cases x with
  | tuple xs =>
    refine (RtD.cast (rd_ret (ed_and (b := decide ((xs.length : Int) = 2)) (ed_isi (ed_var (i := 0) rfl hx) (kit_tup _)) fun _ => ed_op (ed_cb (ea_cons (ed_var (i := 0) rfl hx) ea_nil) rcl_len) ed_int ro_eqI)) ?_) H0 hs D' q
    show PyData.bool (true && decide ((xs.length : Int) = 2)) = .bool (decide (xs.length = 2))
    rw [Bool.true_and]
    exact congrArg PyData.bool (decide_eq_decide.mpr (by omega))
  | _ => exact (RtD.cast (rd_ret (ed_and (b := false) (ed_isi (ed_var (i := 0) rfl hx) (kit_tup _)) fun z => nomatch z)) (by rfl)) H0 hs D' q
def R_is_rule : List PyData → PyData → Prop := fun ds d => ∃ n x, ds = [.int n, x] ∧ SzI x ∧ d = .bool (isRuleD n x)
theorem ok_is_rule (D : DefAt K mg "is_rule" s_is_rule P_is_rule f fd) (T : Bt mg) {t40 : Tok} (c_MOST_SIDE : mg "MOST_SIDE" = some (.int 40 t40)) (h_is_pair : Ok P w K mg base "is_pair" P_is_pair 1 (SpD K R_is_pair)) (h_is_short_row : Ok P w K mg base "is_short_row" P_is_short_row 4 (SpD K R_is_short_row)) :
    Ok P w K mg base "is_rule" P_is_rule 5 (SpD K R_is_rule) := by
  refine D.ok (okD D.F sc_is_rule (fun ds d h => ?_) fun cdv A outer s H hr => ?_)
  · obtain ⟨n, x, rfl, _⟩ := h; rfl
  have S := sc_is_rule
  refine ⟨_, (pss_one (ps_ret (pe_and (pe_ok h_is_pair (hr.mono (by decide)) (by rfl) (pa_cons (pv 1) pa_nil)) (pe_one (pe_callB (q_all K rfl rfl) (by rfl) T.all (by decide +kernel) (pa_cons (pe_lc (own := [("side", 2)]) (g := gName 2) (by rfl) S.nd  (q_iT K rfl (pv 1)) (blkOk_by (N := N_is_rule) (sc := defScope s_is_rule) (by decide +kernel)) (fun _ _ _ _ _ => (pg_name (i := 2) S.nd rfl (by first | exact .inl rfl | exact .inr rfl))) (fun _ _ _ _ _ => pts_nil) (fun _ _ _ _ _ => (pe_ok h_is_short_row (hr.mono (by decide)) (by rfl) (pa_cons (pv 0) (pa_cons (pv 2) (pa_cons (pe_glob (v := .int 40) (by rfl) c_MOST_SIDE ⟨_, rfl⟩) pa_nil)))))) pa_nil)))))), fun G ds d vs hR ha H0 hs D' q _ => ?_⟩
  obtain ⟨n, x, rfl, hz, rfl⟩ := hR
  obtain _ | ⟨hn, _ | ⟨hx, _ | _⟩⟩ := ha
  cases x with
  | tuple xs =>
    obtain ⟨hz1, hz2⟩ := hz xs rfl
    refine (RtD.cast (rd_ret (ed_and (b := xs.all (isShort n 40)) (ed_call (R := R_is_pair) (E := E0) (ea_cons (ed_var (i := 1) rfl hx) ea_nil) ⟨_, rfl, rfl⟩) fun _ => ?_)) (by rfl)) H0 hs D' q
    refine EvD.cast (ed_cb (ea_cons (EvN.toD (en_lcT1 (fun d => .bool (isShort n 40 d)) (ed_var (i := 1) rfl hx) (fun _ => rfl) (Nat.le_trans hz1 (by decide)) fun d v Gi hm g hd => ?_)) ea_nil) (z := .bool ((xs.map (isShort n 40)).all id)) ?_) ?_
    · exact ed_call (ea_cons (ed_var (i := 0) rfl (dp_mono g _ hn)) (ea_cons (ed_var (i := 2) rfl hd) (ea_cons (ed_c (.int 40)) ea_nil))) ⟨n, d, 40, rfl, hz2 d hm, rfl⟩
    · have h := rcl_all (K := K) (bs := xs.map (isShort n 40))
      rw [List.map_map] at h
      exact h
    · rw [List.all_map]; rfl
  | _ => exact (RtD.cast (rd_ret (ed_and (b := false) (ed_call (R := R_is_pair) (E := E0) (ea_cons (ed_var (i := 1) rfl hx) ea_nil) ⟨_, rfl, rfl⟩) fun z => nomatch z)) (by rfl)) H0 hs D' q
def spAR (K : PySem.W.Frag) : Sp := fun vs H Q _ => ∃ (G : Hp) (n : Int) (v : V) (x : PyData), Same G H ∧ vs = [.int n, v] ∧ Th K G v x ∧ SzR x ∧ ∀ G' H', Nx G H G' H' → Q (.bl (areR n x)) H'
theorem ok_are_rules (D : DefAt K mg "are_rules" s_are_rules P_are_rules f fd) (T : Bt mg) {t40 : Tok} (c_MOST_RULES : mg "MOST_RULES" = some (.int 40 t40)) (h_is_list : Ok P w K mg base "is_list" P_is_list 1 (spIsL K)) (h_is_rule : Ok P w K mg base "is_rule" P_is_rule 5 (SpD K R_is_rule)) :
    Ok P w K mg base "are_rules" P_are_rules 6 (spAR K) := by
  refine D.ok (D.F.ok sc_are_rules (fun vs H Q E h => ?_) fun cdv A outer s H vs Q E hr h => ?_)
  · obtain ⟨G, n, v, x, _, rfl, _⟩ := h; rfl
  have S := sc_are_rules
  obtain ⟨G, n, v, x, hs, rfl, hv, hz, q⟩ := h
  refine ⟨_, (pss_one (ps_ret (pe_and (pe_ok h_is_list (hr.mono (by decide)) (by rfl) (pa_cons (pv 1) pa_nil)) (pe_and (pe_cmpR op_le (pe_callB (q_len K rfl) (by rfl) T.len PySem.boot_len (pa_cons (pv 1) pa_nil)) (pe_glob (v := .int 40) (by rfl) c_MOST_RULES ⟨_, rfl⟩) (nomark _)) (pe_one (pe_callB (q_all K rfl rfl) (by rfl) T.all (by decide +kernel) (pa_cons (pe_lc (own := [("rule", 2)]) (g := gName 2) (by rfl) S.nd  (q_iE K rfl (pv 1)) (blkOk_by (N := N_are_rules) (sc := defScope s_are_rules) (by decide +kernel)) (fun _ _ _ _ _ => (pg_name (i := 2) S.nd rfl (by first | exact .inl rfl | exact .inr rfl))) (fun _ _ _ _ _ => pts_nil) (fun _ _ _ _ _ => (pe_ok h_is_rule (hr.mono (by decide)) (by rfl) (pa_cons (pv 0) (pa_cons (pv 2) pa_nil))))) pa_nil))))))), ?_⟩
  refine (rd_ret (K := K) (d := .bool (areR n x)) ?_) H hs _ fun u G' H' n1 hd => (by rw [dp_bl hd]; exact q G' H' n1)
  have all_of : ∀ ds : List PyData, (ds.map (isRuleD n)).all id = ds.all (isRuleD n) := fun ds => by rw [List.all_map]; rfl
  have le40 : ∀ ds : List PyData, decide ((ds.length : Int) ≤ 40) = decide (ds.length ≤ 40) := fun ds => decide_eq_decide.mpr (by omega)
  have rc : ∀ ds : List PyData, RCl K (rAll K) [.list (ds.map fun d => .bool (isRuleD n d))] (.bool ((ds.map (isRuleD n)).all id)) := fun ds => by
    have h := rcl_all (K := K) (bs := ds.map (isRuleD n))
    rw [List.map_map] at h
    exact h
  cases x with
  | list ds =>
    have hd0 : Dp K G v (.list ds) := hv.elim id fun z => nomatch z.1
    refine EvD.cast (ed_and (b := decide ((ds.length : Int) ≤ 40) && (ds.map (isRuleD n)).all id) (ed_isL (i := 1) rfl hv) fun _ => ed_and (ed_op (ed_cb (ea_cons (ed_var (i := 1) rfl hd0) ea_nil) rcl_lenL) (ed_c (.int 40)) (ro_b (f := fun i j => decide (i ≤ j)))) fun _ => ?_) ?_
    · refine ed_cb (ea_cons (EvN.toD (en_iL (en_lcL1 (fun d => .bool (isRuleD n d)) (ed_var (i := 1) rfl hd0) (fun _ => rfl) (Nat.le_trans hz.1 (by decide)) fun d u Gi hm g hd => ?_))) ea_nil) (rc ds)
      exact ed_call (ea_cons (ed_var (i := 0) rfl (.int n)) (ea_cons (ed_var (i := 2) rfl hd) ea_nil)) ⟨n, d, rfl, hz.2 d hm, rfl⟩
    · rw [all_of, le40]; rfl
  | tuple ds =>
    have hd0 : Dp K G v (.tuple ds) := hv.tup
    refine EvD.cast (ed_and (b := decide ((ds.length : Int) ≤ 40) && (ds.map (isRuleD n)).all id) (ed_isL (i := 1) rfl hv) fun _ => ed_and (ed_op (ed_cb (ea_cons (ed_var (i := 1) rfl hd0) ea_nil) rcl_len) (ed_c (.int 40)) (ro_b (f := fun i j => decide (i ≤ j)))) fun _ => ?_) ?_
    · refine ed_cb (ea_cons (EvN.toD (en_iT (en_lcT1 (fun d => .bool (isRuleD n d)) (ed_var (i := 1) rfl hd0) (fun _ => rfl) (Nat.le_trans hz.1 (by decide)) fun d u Gi hm g hd => ?_))) ea_nil) (rc ds)
      exact ed_call (ea_cons (ed_var (i := 0) rfl (.int n)) (ea_cons (ed_var (i := 2) rfl hd) ea_nil)) ⟨n, d, rfl, hz.2 d hm, rfl⟩
    · rw [all_of, le40]; rfl
  | _ => exact EvD.cast (ed_and (b := false) (ed_isL (i := 1) rfl hv) fun z => nomatch z) (by rfl)
end
end Gw
namespace Gw
open PySem PySem.Spec PyProof.Rows L2 LamX
section
variable {P : Program} {w : World} {K : PySem.W.Frag} {mg : Str → Option Value} {base : Heap} {f : Addr} {fd : FuncData} {CG CB fB : Addr}
/-! ### Group -/
def lenOf : PyData → Nat | .tuple xs => xs.length | _ => 0
def gF (b r : V) : List (Str × V) := [(("back" : Str), b), (("rules" : Str), r)]
def eF (x : V) : List (Str × V) := [(("part" : Str), x)]
def spGI (K : PySem.W.Frag) (CG CB : Addr) : Sp := fun vs H Q E => ∃ (G : Hp) (g dx : Addr) (b r : V) (y x : PyData), Same G H ∧ vs = [.ref g, b, r] ∧ G g = none ∧ H g = some (.ins CG dx []) ∧ Dp K G b y ∧ Sized y ∧ Th K G r x ∧ SzR x ∧
  (isBackD y = true → areR (lenOf y) x = true → ∀ t G' H', Same G G' → Same G' H' → H' g = some (.ins CG dx (gF b t)) → Dp K G' t (.tuple (itemsOf x)) → (∀ a o, a ≠ g → H a = some o → H' a = some o) → (∀ a, H a ≠ none → G' a = G a) → Q .non H') ∧
  (isBackD y = false → ∀ d H', Same H H' → H' d = some (.xd (eF (.str "back"))) → E (.ref CB) (some d) H') ∧
  (isBackD y = true → areR (lenOf y) x = false → ∀ d H', Same H H' → H' d = some (.xd (eF (.str "rules"))) → E (.ref CB) (some d) H')
theorem upd_off {H : Hp} {g : Addr} {o : HO} : ∀ a u, a ≠ g → H a = some u → upd H g o a = some u := fun a u n e => (upd_ne n).trans e
theorem ok_Groupinit (F : Fun K "__init__" "Group.__init__" s_Groupinit f fd) (T : Bt mg) (t_BadGroup : PySem.SupX.SupTxt P K mg "BadGroup" "part" CB fB) (cl : Cls K CG) (na : NoAttr K CG "back") (nr : NoAttr K CG "rules") (h_is_back : OkF P w K mg base "is_back" s_is_back P_is_back 4 (SpD K R_is_back)) (h_are_rules : Ok P w K mg base "are_rules" P_are_rules 6 (spAR K)) :
    FnOk P w K mg base (L2.CX P w) 7 f fd P_Groupinit (spGI K CG CB) := by
  refine F.okX sc_Groupinit (fun vs H Q E h => ?_) fun cdv A outer s H vs Q E hr h => ?_
  · obtain ⟨G, g, dx, b, r, y, x, _, rfl, _⟩ := h; rfl
  have S := sc_Groupinit
  obtain ⟨G, g, dx, b, r, y, x, hs, rfl, hg0, hg, hb, hy, hv, hz, q1, q2, q3⟩ := h
  refine ⟨_, (pss_cons (ps_if (pt_not (pt_val (pe_ok h_is_back.ok (hr.mono (by decide)) (by rfl) (pa_cons (pv 1) pa_nil)))) (pss_one (ps_raise rfl (takes_of rfl rfl rfl rfl) (pmk_sup t_BadGroup hr (pa_cons pe_str pa_nil) (by rfl)))) pss_nil)
  (pss_cons (ps_if (pt_not (pt_val (pe_ok h_are_rules (hr.mono (by decide)) (by rfl) (pa_cons (pe_callB (q_len K rfl) (by rfl) T.len PySem.boot_len (pa_cons (pv 1) pa_nil)) (pa_cons (pv 2) pa_nil))))) (pss_one (ps_raise rfl (takes_of rfl rfl rfl rfl) (pmk_sup t_BadGroup hr (pa_cons pe_str pa_nil) (by rfl)))) pss_nil)
  (pss_cons (ps_fld (pv 0) (pv 1) rfl)
  (pss_one (ps_fld (pv 0) (pe_callTy (q_tuple K rfl) (by rfl) T.tuple (by decide +kernel) (pa_cons (pv 2) pa_nil)) rfl))))), ?_⟩
  have put2 : ∀ t : V, putF "rules" t (putF "back" b []) = (gF b t) := fun t => by rfl
  refine seq_ifB (K := K) (G := G) (b := !isBackD y) (eb_not (eb_B (ed_call (ea_cons (ed_var (i := 1) (σ := L2.start N_Groupinit [.ref g, b, r]) rfl hb) ea_nil) (R := R_is_back) (E := E0) ⟨_, rfl, hy, rfl⟩))) hs (fun hk G1 H1 n1 => ⟨_, rfl, fun d hd => q2 (not_t hk) d _ (n1.hh.trans (same_upd hd)) upd_same⟩) fun hk G1 H1 n1 => ?_
  have hk := not_f hk
  cases y with
  | tuple ds =>
    cases hb with
    | @tup p xs _ hp ha =>
      have lx := dpa_length ha
      refine ⟨_, rfl, p, xs, rfl, .inr (same_tup (n1.gg.trans n1.gh) hp), _, rfl, G1, _, _, x, n1.gh, rfl, hv.mono n1.gg, hz, fun G2 H2 n2 => ⟨_, rfl, ?_⟩⟩
      rw [lx]
      have n12 := n1.trans n2
      have g2 : G2 g = none := (n12.fr g (ne_none hg)).trans hg0
      have hg2 : H2 g = some (.ins CG dx []) := n12.hh _ _ hg
      cases ht : areR ds.length x with
      | false => exact if_on rfl ⟨_, rfl, fun d hd => q3 hk ht d _ (n12.hh.trans (same_upd hd)) upd_same⟩
      | true =>
      refine if_off rfl (nx_of ?_)
      dsimp only
      refine ⟨_, rfl, _, rfl, g, CG, dx, [], rfl, hg2, cl, na, by decide, ?_⟩
      dsimp only
      have off : ∀ {G' H' : Hp} {o : HO}, Same G' H' → G' g = none → Same G' (upd H' g o) := fun s e a u z => (upd_ne (fun w => by rw [w, e] at z; cases z)).trans (s a u z)
      generalize hH3 : upd H2 g (.ins CG dx (putF "back" (.ref p) [])) = H3
      have s3 : Same G2 H3 := by rw [← hH3]; exact off n2.gh g2
      have hg3 : H3 g = some (.ins CG dx (putF "back" (.ref p) [])) := by rw [← hH3]; exact upd_same
      have keep3 : ∀ a o, a ≠ g → H a = some o → H3 a = some o := fun a o n e => by rw [← hH3, upd_ne n]; exact n12.hh _ _ e
      refine ⟨_, rfl, ?_⟩
      cases x with
      | list ys =>
        cases hv.elim id fun z => nomatch z.1 with
        | @lst pl vl _ hl hal =>
          refine ⟨pl, vl, rfl, .inl ⟨s3.seq (n12.gg.seq hl), fun l hl3 => ?_⟩⟩
          have gl : G2 l = none := s3.free hl3
          have lg : g ≠ l := ne_of_none hg3 hl3
          have sG := same_upd (o := .tup vl) gl
          refine ⟨_, rfl, g, CG, dx, _, rfl, (upd_ne lg).trans hg3, cl, nr, (by show 1 < 1000; decide), ?_⟩
          refine q1 hk ht (.ref l) (upd G2 l (.tup vl)) _ (n12.gg.trans sG) (fun a u e => ?_) ?_ (.tup (SqT.of upd_same) (dpa_mono (n12.gg.trans sG) _ hal)) (fun a o n e => ?_) fun a na => ?_
          · by_cases hal : a = l
            · subst hal
              rw [upd_same] at e
              rw [upd_ne (Ne.symm lg), upd_same]
              exact e
            · rw [upd_ne hal] at e
              have hag : a ≠ g := fun z => by rw [z, g2] at e; cases e
              rw [upd_ne hag, upd_ne hal]
              exact s3 _ _ e
          · rw [put2]; exact upd_same
          · rw [upd_ne n]
            exact (same_upd hl3) _ _ (keep3 a o n e)
          · have nl : a ≠ l := fun z => by
              have : H2 a ≠ none := same_none n12.hh na
              rw [z] at this
              by_cases hgl : l = g
              · exact lg hgl.symm
              · rw [← hH3, upd_ne hgl] at hl3
                exact this hl3
            exact (upd_ne nl).trans (n12.fr a na)
      | tuple ys =>
        cases hv.tup with
        | @tup pl vl _ hl hal =>
          refine ⟨pl, vl, rfl, .inr ⟨same_tup s3 (same_tup n12.gg hl), ?_⟩⟩
          refine ⟨_, rfl, g, CG, dx, _, rfl, hg3, cl, nr, (by show 1 < 1000; decide), ?_⟩
          refine q1 hk ht (.ref pl) G2 _ n12.gg (off s3 g2) ?_ (.tup (same_tup n12.gg hl) (dpa_mono n12.gg _ hal)) (fun a o n e => ?_) fun a na => n12.fr a na
          · rw [put2]; exact upd_same
          · rw [upd_ne n]; exact keep3 a o n e
      | _ => cases ht
  | _ => cases hk
/-! ### == of groups -/
/-- at g stands a group of these letters and rules -/
def GrpAt (K : PySem.W.Frag) (CG : Addr) (G : Hp) (g : Addr) (bs rs : List PyData) : Prop := ∃ dx vb vr, G g = some (.ins CG dx (gF vb vr)) ∧ Dp K G vb (.tuple bs) ∧ Dp K G vr (.tuple rs)
theorem GrpAt.mono {G G' : Hp} {g : Addr} {bs rs : List PyData} (h : GrpAt K CG G g bs rs) (s : Same G G') : GrpAt K CG G' g bs rs := by
  obtain ⟨dx, vb, vr, h1, h2, h3⟩ := h
  exact ⟨dx, vb, vr, s _ _ h1, dp_mono s _ h2, dp_mono s _ h3⟩
theorem look_back {b r : V} : (gF b r).lookup ("back" : Str) = some b := by simp [gF, List.lookup]
theorem look_rules {b r : V} : (gF b r).lookup ("rules" : Str) = some r := by
  have e : (("rules" : Str) == ("back" : Str)) = false := by decide
  simp [gF, List.lookup, e]
def spEQ (K : PySem.W.Frag) (CG : Addr) : Sp := fun vs H Q _ => ∃ (G : Hp) (g : Addr) (z : V) (bs rs : List PyData), Same G H ∧ vs = [.ref g, z] ∧ GrpAt K CG G g bs rs ∧
  ((∃ h bs2 rs2, z = .ref h ∧ GrpAt K CG G h bs2 rs2 ∧ SeqAt.shaped (.tuple bs) = true ∧ SeqAt.shaped (.tuple rs) = true ∧ SeqAt.shaped (.tuple bs2) = true ∧ SeqAt.shaped (.tuple rs2) = true ∧ ∀ G' H', Nx G H G' H' → Q (.bl (PyData.eqv (.tuple bs) (.tuple bs2) && PyData.eqv (.tuple rs) (.tuple rs2))) H') ∨
    (∃ x, Th K G z x ∧ ∀ G' H', Nx G H G' H' → Q (.bl false) H'))
theorem ok_Groupeq (F : Fun K "__eq__" "Group.__eq__" s_Groupeq f fd) (T : Bt mg) (g_Group : mg "Group" = some (.ref CG)) (O : OwnC K CG) (na : NoAttr K CG "back") (nr : NoAttr K CG "rules") : FnOk P w K mg base CX0 2 f fd P_Groupeq (spEQ K CG) := by
  refine F.ok sc_Groupeq (fun vs H Q E h => ?_) fun cdv A outer s H vs Q E hr h => ?_
  · obtain ⟨G, g, z, bs, rs, _, rfl, _⟩ := h; rfl
  have S := sc_Groupeq
  obtain ⟨G, g, z, bs, rs, hs, rfl, ⟨dx, vb, vr, hg, hb, hq⟩, h⟩ := h
  refine ⟨_, (pss_one (ps_ret (pe_and (pe_callB (q_isi K rfl) (by rfl) T.isinstance (by decide +kernel) (pa_cons (pv 1) (pa_cons (pe_glob (v := .ref CG) (by rfl) g_Group rfl) pa_nil))) (pe_and (pe_cmpR (q_eqD K rfl hr.units) (pe_fld (pv 0) rfl) (pe_fld (pv 1) rfl) (nomark _)) (pe_one (pe_cmpR (q_eqD K rfl hr.units) (pe_fld (pv 0) rfl) (pe_fld (pv 1) rfl) (nomark _))))))), ?_⟩
  rcases h with ⟨h, bs2, rs2, rfl, ⟨dx2, vb2, vr2, hg2, hb2, hq2⟩, s1, s2, s3, s4, q⟩ | ⟨x, hx, q⟩
  · refine (rd_ret (K := K) (d := .bool (true && (PyData.eqv (.tuple bs) (.tuple bs2) && PyData.eqv (.tuple rs) (.tuple rs2)))) (ed_and (ed_isiC (i := 1) rfl (fun H s => O.tyx (s _ _ hg2)) O.me) fun _ => ed_and (ed_op (ed_fld (i := 0) rfl hg O.cl na look_back hb) (ed_fld (i := 1) rfl hg2 O.cl na look_back hb2) (ro_eqD s1 s3)) fun _ => ed_op (ed_fld (i := 0) rfl hg O.cl nr look_rules hq) (ed_fld (i := 1) rfl hg2 O.cl nr look_rules hq2) (ro_eqD s2 s4))) H hs _ fun u G' H' n1 hd => ?_
    rw [dp_bl hd]
    exact q G' H' n1
  · refine (rd_ret (K := K) (d := .bool (false && false)) (ed_and (ed_isiC (i := 1) rfl (fun H s => hx.ty s) (O.kit x)) fun z => nomatch z)) H hs _ fun u G' H' n1 hd => ?_
    rw [dp_bl hd]
    exact q G' H' n1
/-! ### what is no group -/
def spWG (K : PySem.W.Frag) (CB : Addr) : Sp := fun vs H Q E => ∃ (G : Hp) (v : V) (x : PyData), Same G H ∧ vs = [v] ∧ Dp K G v x ∧ ∀ d H', Same H H' → H' d = some (.xd (eF .non)) → E (.ref CB) (some d) H'
end
end Gw
namespace Gw
open PySem PySem.Spec PyProof.Rows L2 LamX
/-! ### groups made -/
def MkX (P : Program) (w : World) (K : PySem.W.Frag) (mg : Str → Option Value) (base : Heap) (x : Str) (ps ks : List Str) (k : Nat) (C : Addr) (sp : Sp) (g : List Value → List Value → List Value) (gV : List V → List V → List V) : Prop :=
  ∃ (f : Addr) (fd : FuncData), mg x = some (.ref C) ∧ Mk K C f ∧ Binds K fd ps [] ∧ KBn K fd ps 1 ks g gV ∧ FnOk P w K mg base (L2.CX P w) k f fd ps sp
def gR {α : Type} : List α → List α → List α := fun us ws => us ++ ws.reverse
theorem gR_rel {vs : List V} {us : List Value} {zs : List V} {ws : List Value} (h : Vals vs us) (h' : Vals zs ws) : Vals (gR vs zs) (gR us ws) := by
  refine h.append ?_
  induction h' with
  | nil => exact .nil
  | cons a t ih => rw [List.reverse_cons, List.reverse_cons]; exact ih.append (.cons a .nil)
section
variable {X : Cx} {x : Str} {ps ks : List Str} {k : Nat} {sp : Sp} {C : Addr} {p pos : Pos} {e : Expr} {es : List Expr} {kws : List Keyword} {t tk : TA} {g : List Value → List Value → List Value} {gV : List V → List V → List V} {E : XK}
theorem pe_mkX (h : MkX X.prog X.w X.K X.mg X.base x ps ks k C sp g gV) (hx : Passes (L2.CX X.prog X.w) X E) (hr : Room (k + 1) X.A) (hg : Gl X x) (ha : PA X (e :: es) t) (hdb : (x == ("__debug__" : Str)) = false := by decide)
    (he : starEach (e :: es) X.env = (false, eval e X.env) :: starEach es X.env := by rfl) (hpl : (backTo pos (starEach es X.env)).any (·.1) = false := by rfl) : PE X (.Call (.Name x p) (e :: es) [] pos) (tMake C sp [] E t) := by
  obtain ⟨f, fd, hm, M, hb, _, F⟩ := h
  exact pe_make M F hr hg hm hb .nil hx ha hdb he hpl
theorem pe_mkK0 (h : MkX X.prog X.w X.K X.mg X.base x ps ks k C sp g gV) (hx : Passes (L2.CX X.prog X.w) X E) (hr : Room (k + 1) X.A) (hg : Gl X x) (hkw : PK X kws tk) (hall : (backToKw pos (keywordEach kws X.env)).all (·.1.isSome) = true := by rfl)
    (hks : (backToKw pos (keywordEach kws X.env)).filterMap (·.1) = ks := by rfl) (hdb : (x == ("__debug__" : Str)) = false := by decide)
    (hpl : ((backTo pos (starEach [] X.env)).any (·.1) || (backToKw pos (keywordEach kws X.env)).any (·.1.isNone)) = false := by rfl) : PE X (.Call (.Name x p) [] kws pos) (tMakeK C 0 ks.length sp gV E tNil tk) := by
  obtain ⟨f, fd, hm, M, _, hk, F⟩ := h
  exact pe_makeK0 M F hr hg hm hk hx hkw hall hks hdb hpl
end
/-! ### over a view -/
/-- te makes (or is) a group of these letters and rules -/
def EvG (K : PySem.W.Frag) (CG : Addr) (te : TE) (σ : L2.St) (G : Hp) (bs rs : List PyData) : Prop := ∀ H, Same G H → ∀ Q : VK, (∀ g G' H', Nx G H G' H' → GrpAt K CG G' g bs rs → Q (.ref g) H') → te σ H Q
section
variable {K : PySem.W.Frag} {CG CB : Addr} {σ : L2.St} {G H : Hp} {tb tr te : TE} {bs rs bs2 rs2 ds : List PyData} {x d : PyData} {E : XK} {i : Nat} {v : V} {g : Addr}
theorem EvG.mono {G1 : Hp} (h : EvG K CG te σ G bs rs) (g : Same G G1) : EvG K CG te σ G1 bs rs := fun H s Q q => h H (g.trans s) Q fun a G' H' m ha => by
  obtain ⟨G2, n2, s2⟩ := m.over g s
  exact q a G2 H' n2 (ha.mono s2)
theorem eg_var (h : σ[i]? = some (some (.ref g))) (hg : GrpAt K CG G g bs rs) : EvG K CG (tVar i) σ G bs rs := fun H s Q q => ⟨_, h, q g G H (Nx.refl s) hg⟩
/-- __init__ at a new place -/
theorem grp_init {G1 H1 : Hp} {vb vr : V} {Q : VK} (s : Same G1 H1) (hb : Dp K G1 vb (.tuple bs)) (hr : Th K G1 vr x) (hy : isBackD (.tuple bs) = true) (hz : bs.length ≤ 1000) (hx : areR bs.length x = true) (hzr : SzR x)
    (q : ∀ g G' H', Nx G1 H1 G' H' → GrpAt K CG G' g bs (itemsOf x) → Q (.ref g) H') : ∀ a dx, H1 a = none → H1 dx = none → dx ≠ a → spGI K CG CB [.ref a, vb, vr] (upd (upd H1 dx (.own a)) a (.ins CG dx [])) (fun v H2 => v = .non ∧ Q (.ref a) H2) E := fun a dx ha hdx hne => by
  have s1 := same_upd (o := .own a) hdx
  have ha' : upd H1 dx (.own a) a = none := (upd_ne (Ne.symm hne)).trans ha
  have s2 := same_upd (o := .ins CG dx []) ha'
  refine ⟨G1, a, dx, vb, vr, .tuple bs, x, (s.trans s1).trans s2, rfl, s.free ha, upd_same, hb, (show bs.length ≤ sizeLine from Nat.le_trans hz (by decide)), hr, hzr, fun _ _ t G' H' gg gh hg hd keep fr => ⟨rfl, ?_⟩, fun z => absurd (hy.symm.trans z) (by decide), fun _ z => absurd (hx.symm.trans z) (by decide)⟩
  have na : G' a = none := (fr a (ne_none upd_same)).trans (s.free ha)
  have sG := same_upd (o := .ins CG dx (gF vb t)) na
  refine q a (upd G' a (.ins CG dx (gF vb t))) H' ⟨gg.trans sG, fun b o e => ?_, fun b o e => ?_, fun b nb => ?_⟩ ⟨dx, vb, t, upd_same, dp_mono (gg.trans sG) _ hb, dp_mono sG _ hd⟩
  · by_cases hba : b = a
    · subst hba
      rw [upd_same] at e
      cases e
      exact hg
    · rw [upd_ne hba] at e
      exact gh _ _ e
  · have hba : b ≠ a := ne_of_none e ha
    exact keep b o hba (s2 _ _ (s1 _ _ e))
  · have hba : b ≠ a := fun z => nb (by rw [z]; exact ha)
    rw [upd_ne hba]
    refine fr b ?_
    rw [upd_ne hba]
    by_cases hbd : b = dx
    · exact absurd (hbd ▸ hdx) nb
    · rw [upd_ne hbd]; exact nb
theorem eg_make (hb : EvD K tb σ G (.tuple bs)) (hr : EvD K tr σ G x) (hy : isBackD (.tuple bs) = true) (hz : bs.length ≤ 1000) (hx : areR bs.length x = true) (hzr : SzR x) : EvG K CG (tMake CG (spGI K CG CB) [] E (tCons tb (tCons tr tNil))) σ G bs (itemsOf x) := fun H s Q q =>
  hb H s _ fun vb G1 H1 n1 h1 => (hr.mono n1.gg) H1 n1.gh _ fun vr G2 H2 n2 h2 => grp_init n2.gh (dp_mono n2.gg _ h1) (.inl h2) hy hz hx hzr fun g G' H' n ha => q g G' H' ((n1.trans n2).trans n) ha
theorem eg_makeK (hb : EvD K tb σ G (.tuple bs)) (hr : EvD K tr σ G x) (hy : isBackD (.tuple bs) = true) (hz : bs.length ≤ 1000) (hx : areR bs.length x = true) (hzr : SzR x) : EvG K CG (tMakeK CG 0 2 (spGI K CG CB) gR E tNil (tCons tr (tCons tb tNil))) σ G bs (itemsOf x) := fun H s Q q =>
  hr H s _ fun vr G1 H1 n1 h1 => (hb.mono n1.gg) H1 n1.gh _ fun vb G2 H2 n2 h2 => ⟨rfl, rfl, grp_init n2.gh h2 (.inl (dp_mono n2.gg _ h1)) hy hz hx hzr fun g G' H' n ha => q g G' H' ((n1.trans n2).trans n) ha⟩
theorem seq_letG {i : Nat} {u : TS} {D : Ends} (h : EvG K CG te σ G bs rs) (s : Same G H) (k : ∀ g G1 H1, Nx G H G1 H1 → GrpAt K CG G1 g bs rs → u D (σ.set i (some (.ref g))) H1) : tSeq (tAsg te (gName i)) u D σ H := h H s _ fun g G1 H1 n hg => k g G1 H1 n hg
theorem ed_gb (O : OwnC K CG) (na : NoAttr K CG "back") (h : EvG K CG te σ G bs rs) : EvD K (tFld K te "back") σ G (.tuple bs) := fun H s Q q => h H s _ fun g G1 H1 n ⟨dx, vb, vr, h1, h2, h3⟩ =>
  ⟨g, CG, dx, _, vb, rfl, n.gh _ _ h1, O.cl, na, look_back, q vb G1 H1 n h2⟩
theorem ed_gr (O : OwnC K CG) (nr : NoAttr K CG "rules") (h : EvG K CG te σ G bs rs) : EvD K (tFld K te "rules") σ G (.tuple rs) := fun H s Q q => h H s _ fun g G1 H1 n ⟨dx, vb, vr, h1, h2, h3⟩ =>
  ⟨g, CG, dx, _, vr, rfl, n.gh _ _ h1, O.cl, nr, look_rules, q vr G1 H1 n h3⟩
structure ShG (bs rs : List PyData) : Prop where
  b : SeqAt.shaped (.tuple bs) = true
  r : SeqAt.shaped (.tuple rs) = true
def eqG (bs rs bs2 rs2 : List PyData) : Bool := PyData.eqv (.tuple bs) (.tuple bs2) && PyData.eqv (.tuple rs) (.tuple rs2)
/-- group == group -/
theorem ed_gg {t2 : TE} {c : Bool → Bool} (O : OwnC K CG) (h1 : EvG K CG te σ G bs rs) (h2 : EvG K CG t2 σ G bs2 rs2) (w1 : ShG bs rs) (w2 : ShG bs2 rs2) : EvD K (tOp (rOwnEq K CG (spEQ K CG) E c) te t2) σ G (.bool (c (eqG bs rs bs2 rs2))) := fun H s Q q =>
  h1 H s _ fun g G1 H1 n1 hg => (h2.mono n1.gg) H1 n1.gh _ fun g2 G2 H2 n2 hg2 => by
    have hg' := hg.mono n2.gg
    obtain ⟨dx, vb, vr, e1, _⟩ := hg'
    obtain ⟨dx2, vb2, vr2, e2, _⟩ := id hg2
    exact ⟨g, dx, _, _, rfl, n2.gh _ _ e1, O.tyx (n2.gh _ _ e2), (by show (_ || _) = true; rw [Bool.or_eq_true]; left; exact beq_self_eq_true _), G2, g, _, bs, rs, n2.gh, rfl, hg.mono n2.gg, .inl ⟨g2, bs2, rs2, rfl, hg2, w1.b, w1.r, w2.b, w2.r, fun G' H' n => ⟨_, rfl, q _ G' H' ((n1.trans n2).trans n) (.bl _)⟩⟩⟩
/-- group == data -/
theorem ed_gd {t2 : TE} {c : Bool → Bool} (O : OwnC K CG) (h1 : EvG K CG te σ G bs rs) (h2 : EvD K t2 σ G x) : EvD K (tOp (rOwnEq K CG (spEQ K CG) E c) te t2) σ G (.bool (c false)) := fun H s Q q =>
  h1 H s _ fun g G1 H1 n1 hg => (h2.mono n1.gg) H1 n1.gh _ fun v G2 H2 n2 hv => by
    obtain ⟨dx, vb, vr, e1, _⟩ := hg.mono n2.gg
    exact ⟨g, dx, _, _, rfl, n2.gh _ _ e1, dp_ty n2.gh hv, O.nf x, G2, g, v, bs, rs, n2.gh, rfl, hg.mono n2.gg, .inr ⟨x, .inl hv, fun G' H' n => ⟨_, rfl, q _ G' H' ((n1.trans n2).trans n) (.bl _)⟩⟩⟩
theorem ro_neB {a b : Bool} : ROp K rNe (.bool a) (.bool b) (.bool (a != b)) := fun G H s vx vy hx hy Q q => by
  rw [dp_bl hx, dp_bl hy]
  refine ⟨rfl, ?_⟩
  have e : (!decide (V.bl a = V.bl b)) = (a != b) := by cases a <;> cases b <;> rfl
  rw [e]
  exact q _ G H (Nx.refl s) (.bl _)
end
end Gw
namespace Gw
open PySem PySem.Spec PyProof.Rows L2
/-! ### [.. for a, b, c in ..], things turned around -/
section
variable {K : PySem.W.Frag} {σ : L2.St} {G : Hp} {tl te : TE} {ds : List PyData}
theorem en_lcT3 {i j k : Nat} {vs : List Nat} (f : PyData → PyData) (h : EvD K tl σ G (.tuple ds)) (hw : ∀ v1 v2 v3, wipe ((((wipe σ vs).set i (some v1)).set j (some v2)).set k (some v3)) vs = wipe σ vs) (hz : ds.length ≤ sizeLine) (h3 : ∀ d ∈ ds, ∃ x y z, d = .tuple [x, y, z])
    (he : ∀ x y z v1 v2 v3 Gi, PyData.tuple [x, y, z] ∈ ds → Same G Gi → Dp K Gi v1 x → Dp K Gi v2 y → Dp K Gi v3 z → EvD K te ((((wipe σ vs).set i (some v1)).set j (some v2)).set k (some v3)) Gi (f (.tuple [x, y, z]))) :
    EvN K (tLc (iTup K tl) (gTup K 3 (gCons (gName i) (gCons (gName j) (gCons (gName k) gNil)))) tYes te vs) σ G (ds.map f) := fun H s Q q =>
  h H s _ fun v G1 H1 n1 hv => by
    cases hv with
    | @tup a xs _ hs ha =>
      refine ⟨a, rfl, ⟨xs, same_tup n1.gh hs⟩, fun D hD => ?_⟩
      refine lc_tup (K := K) (a := a) (xs := xs) (fun k Hc => LcI K G1 H1 D ((ds.take k).map f) Hc) (LcI.start n1.gh hD) (fun k Hc _ p => ?_) (fun kk x Hc hk p => ?_) fun Hc p => ?_
      · obtain ⟨Gi, acc, n, _⟩ := p.ex
        exact same_tup (n1.gh.trans n.hh) hs
      · obtain ⟨dk, hdk, hdx⟩ := dpa_get ha hk
        have hm : dk ∈ ds := List.mem_of_getElem? hdk
        obtain ⟨x1, x2, x3, rfl⟩ := h3 dk hm
        cases hdx with
        | @tup b ys _ hy hya =>
          obtain _ | ⟨d1, _ | ⟨d2, _ | ⟨d3, _ | _⟩⟩⟩ := hya
          obtain ⟨Gi0, acc0, n0, _⟩ := id p.ex
          refine ⟨b, _, rfl, same_tup (n1.gh.trans n0.hh) hy, rfl, _, _, rfl, _, _, rfl, _, _, rfl, rfl, hw _ _ _, ?_⟩
          refine LcI.turn (b := true) (e := f (.tuple [x1, x2, x3])) hD p ?_ (fun Gi g => eb_yes) (fun _ Gi g => he x1 x2 x3 _ _ _ Gi hm (n1.gg.trans g) (dp_mono g _ d1) (dp_mono g _ d2) (dp_mono g _ d3)) fun H' p' => ?_
          · have := (List.getElem?_eq_some_iff.mp hdk).1
            rw [List.length_map, List.length_take]; omega
          · rw [List.take_succ, hdk, List.map_append]
            exact p'
      · rw [dpa_length ha, List.take_length] at p
        exact p.finN n1 hD q
theorem en_lcL3 {i j k : Nat} {vs : List Nat} (f : PyData → PyData) (h : EvD K tl σ G (.list ds)) (hw : ∀ v1 v2 v3, wipe ((((wipe σ vs).set i (some v1)).set j (some v2)).set k (some v3)) vs = wipe σ vs) (hz : ds.length ≤ sizeLine) (h3 : ∀ d ∈ ds, ∃ x y z, d = .tuple [x, y, z])
    (he : ∀ x y z v1 v2 v3 Gi, PyData.tuple [x, y, z] ∈ ds → Same G Gi → Dp K Gi v1 x → Dp K Gi v2 y → Dp K Gi v3 z → EvD K te ((((wipe σ vs).set i (some v1)).set j (some v2)).set k (some v3)) Gi (f (.tuple [x, y, z]))) :
    EvN K (tLc (iList K tl) (gTup K 3 (gCons (gName i) (gCons (gName j) (gCons (gName k) gNil)))) tYes te vs) σ G (ds.map f) := fun H s Q q =>
  h H s _ fun v G1 H1 n1 hv => by
    cases hv with
    | @lst a xs _ hs ha =>
      refine ⟨a, rfl, ⟨xs, n1.gh.seq hs⟩, fun D hD => ?_⟩
      refine lc_list (K := K) (a := a) (xs := xs) (fun k Hc => LcI K G1 H1 D ((ds.take k).map f) Hc) (LcI.start n1.gh hD) (fun k Hc _ p => ?_) (fun kk x Hc hk p => ?_) fun Hc p => ?_
      · obtain ⟨Gi, acc, n, _⟩ := p.ex
        exact (n1.gh.trans n.hh).seq hs
      · obtain ⟨dk, hdk, hdx⟩ := dpa_get ha hk
        have hm : dk ∈ ds := List.mem_of_getElem? hdk
        obtain ⟨x1, x2, x3, rfl⟩ := h3 dk hm
        cases hdx with
        | @tup b ys _ hy hya =>
          obtain _ | ⟨d1, _ | ⟨d2, _ | ⟨d3, _ | _⟩⟩⟩ := hya
          obtain ⟨Gi0, acc0, n0, _⟩ := id p.ex
          refine ⟨b, _, rfl, same_tup (n1.gh.trans n0.hh) hy, rfl, _, _, rfl, _, _, rfl, _, _, rfl, rfl, hw _ _ _, ?_⟩
          refine LcI.turn (b := true) (e := f (.tuple [x1, x2, x3])) hD p ?_ (fun Gi g => eb_yes) (fun _ Gi g => he x1 x2 x3 _ _ _ Gi hm (n1.gg.trans g) (dp_mono g _ d1) (dp_mono g _ d2) (dp_mono g _ d3)) fun H' p' => ?_
          · have := (List.getElem?_eq_some_iff.mp hdk).1
            rw [List.length_map, List.length_take]; omega
          · rw [List.take_succ, hdk, List.map_append]
            exact p'
      · rw [dpa_length ha, List.take_length] at p
        exact p.finN n1 hD q
/-! [::-1] of a list or a tuple -/
def tRevE (K : PySem.W.Frag) (te : TE) : TE := fun σ H Q => tRevL K te σ H Q ∨ tRevT K te σ H Q
theorem q_revE {X : Cx} (K : PySem.W.Frag) {e : Expr} {te : TE} {k : Nat} {p1 p2 p3 pos : Pos} (ek : X.K = K) (he : PE X e te) : PE X (.Subscript e (.Slice none none (some (.UnaryOp .USub (.Constant (.int 1) k p1) p2)) p3) pos) (tRevE K te) := by
  subst ek
  exact ⟨fun pins s σ H Q I q => q.elim (fun q => (pe_revL he).run pins s σ H Q I q) fun q => (pe_revT he).run pins s σ H Q I q⟩
theorem ed_revEL (h : EvD K tl σ G (.list ds)) : EvD K (tRevE K tl) σ G (.list ds.reverse) := fun H s Q q => .inl (h H s _ fun v G1 H1 n1 hv => by
  cases hv with
  | @lst a xs _ hs ha =>
    refine ⟨a, xs, rfl, n1.gh.seq hs, fun p hp => ?_⟩
    have m := Nx.new (o := .lst xs.reverse) n1.gh hp
    exact q _ _ _ (n1.trans m) (.lst (SqL.of upd_same) (dpa_mono m.gg _ (dpa_reverse ha))))
theorem ed_revET (h : EvD K tl σ G (.tuple ds)) : EvD K (tRevE K tl) σ G (.tuple ds.reverse) := fun H s Q q => .inr (ed_revT h H s Q q)
theorem en_lcL2 {i j : Nat} {vs : List Nat} (f : PyData → PyData) (h : EvD K tl σ G (.list ds)) (hw : ∀ v1 v2, wipe (((wipe σ vs).set i (some v1)).set j (some v2)) vs = wipe σ vs) (hz : ds.length ≤ sizeLine) (h3 : ∀ d ∈ ds, ∃ x y, d = .tuple [x, y])
    (he : ∀ x y v1 v2 Gi, PyData.tuple [x, y] ∈ ds → Same G Gi → Dp K Gi v1 x → Dp K Gi v2 y → EvD K te (((wipe σ vs).set i (some v1)).set j (some v2)) Gi (f (.tuple [x, y]))) :
    EvN K (tLc (iList K tl) (gTup K 2 (gCons (gName i) (gCons (gName j) gNil))) tYes te vs) σ G (ds.map f) := fun H s Q q =>
  h H s _ fun v G1 H1 n1 hv => by
    cases hv with
    | @lst a xs _ hs ha =>
      refine ⟨a, rfl, ⟨xs, n1.gh.seq hs⟩, fun D hD => ?_⟩
      refine lc_list (K := K) (a := a) (xs := xs) (fun k Hc => LcI K G1 H1 D ((ds.take k).map f) Hc) (LcI.start n1.gh hD) (fun k Hc _ p => ?_) (fun kk x Hc hk p => ?_) fun Hc p => ?_
      · obtain ⟨Gi, acc, n, _⟩ := p.ex
        exact (n1.gh.trans n.hh).seq hs
      · obtain ⟨dk, hdk, hdx⟩ := dpa_get ha hk
        have hm : dk ∈ ds := List.mem_of_getElem? hdk
        obtain ⟨x1, x2, rfl⟩ := h3 dk hm
        cases hdx with
        | @tup b ys _ hy hya =>
          obtain _ | ⟨d1, _ | ⟨d2, _ | _⟩⟩ := hya
          obtain ⟨Gi0, acc0, n0, _⟩ := id p.ex
          refine ⟨b, _, rfl, same_tup (n1.gh.trans n0.hh) hy, rfl, _, _, rfl, _, _, rfl, rfl, hw _ _, ?_⟩
          refine LcI.turn (b := true) (e := f (.tuple [x1, x2])) hD p ?_ (fun Gi g => eb_yes) (fun _ Gi g => he x1 x2 _ _ Gi hm (n1.gg.trans g) (dp_mono g _ d1) (dp_mono g _ d2)) fun H' p' => ?_
          · have := (List.getElem?_eq_some_iff.mp hdk).1
            rw [List.length_map, List.length_take]; omega
          · rw [List.take_succ, hdk, List.map_append]
            exact p'
      · rw [dpa_length ha, List.take_length] at p
        exact p.finN n1 hD q
/-! new lists -/
theorem en_cat2 {es : List PyData} {tr : TE} (h1 : EvN K tl σ G ds) (h2 : EvN K tr σ G es) (hz : ds.length + es.length ≤ sizeLine) : EvN K (tOp rCat tl tr) σ G (ds ++ es) := fun H s Q q =>
  h1 H s _ fun p vs G1 H1 n1 hp gp e ha => (h2.mono n1.gg) H1 n1.gh _ fun p2 ws G2 H2 n2 hp2 gp2 e2 ha2 => ⟨p, p2, vs, ws, rfl, rfl, n2.hh _ _ e, e2, by rw [dpa_length ha, dpa_length ha2]; exact hz, fun p3 hp3 =>
    q p3 (vs ++ ws) G2 _ ((n1.trans n2).trans (Nx.lay n2.gh hp3)) ((n1.trans n2).hh.free hp3) (n2.gh.free hp3) upd_same (dpa_append (dpa_mono n2.gg _ ha) ha2)⟩
theorem en_catV {es : List PyData} {tr : TE} {i : Nat} {l : Addr} {xs : List V} (h : σ[i]? = some (some (.ref l))) (hl : G l = some (.lst xs)) (ha : DpAll K G xs ds) (hr : EvN K tr σ G es) (hz : ds.length + es.length ≤ sizeLine) : EvN K (tOp rCat (tVar i) tr) σ G (ds ++ es) := fun H s Q q =>
  ⟨_, h, hr H s _ fun p vs G' H' n hp gp e hv => ⟨l, p, xs, vs, rfl, rfl, n.hh _ _ (s _ _ hl), e, by rw [dpa_length ha, dpa_length hv]; exact hz, fun p2 hp2 =>
    q p2 (xs ++ vs) G' _ (n.trans (Nx.lay n.gh hp2)) (n.hh.free hp2) (n.gh.free hp2) upd_same (dpa_append (dpa_mono n.gg _ ha) hv)⟩⟩
theorem en_listL {i : Nat} {v : V} (h : σ[i]? = some (some v)) (hv : Dp K G v (.list ds)) : EvN K (tCB (rListQ K) (tCons (tVar i) tNil)) σ G ds := fun H s Q q => by
  cases hv with
  | @lst a xs _ hs ha => exact ⟨_, h, a, xs, rfl, .inl (s.seq hs), fun p hp => q p xs G _ (Nx.lay s hp) hp (s.free hp) upd_same ha⟩
theorem rd_setN {i : Nat} {u : TS} {d : PyData} (h : EvN K te σ G ds) (h1 : ∀ p vs G', Same G G' → G' p = some (.lst vs) → DpAll K G' vs ds → RtD K u (σ.set i (some (.ref p))) G' d) : RtD K (tSeq (tAsg te (gName i)) u) σ G d := fun H s D q => h H s _ fun p vs G1 H1 n1 hp gp e ha => by
  obtain ⟨m, gi⟩ := n1.tell hp gp e
  exact h1 p vs _ m.gg upd_same (dpa_mono gi _ ha) H1 m.gh D fun v G2 H2 n2 hd => q v G2 H2 (m.trans n2) hd
end
end Gw
namespace Gw
open PySem PySem.Spec PyProof.Rows L2 LamX
/-! ### a list that grows, over a view -/
structure Grow (K : PySem.W.Frag) (G H : Hp) (p : Addr) (ds : List PyData) (Gi Hc : Hp) : Prop where
  n : Nx G H Gi Hc
  g : Gi p = none
  ex : ∃ acc, Hc p = some (.lst acc) ∧ DpAll K Gi acc ds
section
variable {K : PySem.W.Frag} {G H Gi Hc G2 H2 : Hp} {p : Addr} {ds : List PyData}
theorem Grow.start (s : Same G H) (hp : H p = none) : Grow K G H p [] G (upd H p (.lst [])) := ⟨Nx.lay s hp, s.free hp, [], upd_same, .nil⟩
theorem Grow.step (h : Grow K G H p ds Gi Hc) (n : Nx Gi Hc G2 H2) : Grow K G H p ds G2 H2 := by
  obtain ⟨acc, e, ha⟩ := h.ex
  exact ⟨h.n.trans n, (n.fr p (ne_none e)).trans h.g, acc, n.hh _ _ e, dpa_mono n.gg _ ha⟩
theorem Grow.add (h : Grow K G H p ds Gi Hc) (hp : H p = none) {v : V} {d : PyData} (hd : Dp K Gi v d) {acc : List V} (e : Hc p = some (.lst acc)) : Grow K G H p (ds ++ [d]) Gi (upd Hc p (.lst (acc ++ [v]))) := by
  obtain ⟨acc', e', ha⟩ := h.ex
  rw [e] at e'
  cases e'
  refine ⟨⟨h.n.gg, fun b u q => ?_, fun b u q => ?_, h.n.fr⟩, h.g, acc ++ [v], upd_same, dpa_append ha (.cons hd .nil)⟩
  · rw [upd_ne (ne_of_none q h.g)]; exact h.n.gh b u q
  · rw [upd_ne (ne_of_none q hp)]; exact h.n.hh b u q
end
section
variable {K : PySem.W.Frag} {σ : L2.St} {G H : Hp}
theorem seq_forR {te : TE} {g : TG} {tb u : TS} {D : Ends} {n : Nat} (Pv : Nat → L2.St → Hp → Prop) (h : EvD K te σ G (.int (n : Int))) (s : Same G H) (hz : n ≤ 1000000) (h0 : ∀ G1 H1, Nx G H G1 H1 → Pv 0 σ H1)
    (hs : ∀ (i : Nat) (σ : L2.St) (Hc : Hp), i < n → Pv i σ Hc → g (.int ((0 : Int) + (i : Int))) σ Hc fun σ2 H2 => tb { nx := Pv (i + 1), rt := D.rt, bk := u D, ct := Pv (i + 1) } σ2 H2) (hd : ∀ σ Hc, Pv n σ Hc → u D σ Hc) : tSeq (tFor (iRng1 (tCons te tNil)) g tb) u D σ H :=
  h H s _ fun v G1 H1 n1 hv => ⟨(n : Int), by rw [dp_int hv], by omega, by omega, by
    rw [Int.toNat_natCast]
    exact for_range (lo := 0) (n := n) Pv (h0 G1 H1 n1) hs hd⟩
end
end Gw
namespace Gw
open PySem PySem.Spec PyProof.Rows L2 LamX
/-! ### an object that is being made: it stands in the heap, not in the view -/
structure No (g : Addr) (G H G' H' : Hp) : Prop where
  gg : Same G G'
  gh : Same G' H'
  hh : ∀ a o, a ≠ g → H a = some o → H' a = some o
  fr : ∀ a, H a ≠ none → G' a = G a
section
variable {K : PySem.W.Frag} {CG g dx : Addr} {σ : L2.St} {G H G1 H1 G2 H2 : Hp} {te : TE} {d : PyData} {f : Str} {fs : List (Str × V)}
theorem No.of (n : Nx G H G1 H1) : No g G H G1 H1 := ⟨n.gg, n.gh, fun a o _ e => n.hh a o e, n.fr⟩
theorem No.trans (a : No g G H G1 H1) (b : No g G1 H1 G2 H2) (hg : ∀ o, H g = some o → H1 g ≠ none) : No g G H G2 H2 := by
  refine ⟨a.gg.trans b.gg, b.gh, fun x o n e => b.hh x o n (a.hh x o n e), fun x hx => (b.fr x ?_).trans (a.fr x hx)⟩
  cases hxo : H x with
  | none => exact absurd hxo hx
  | some o =>
    by_cases hxg : x = g
    · subst hxg; exact hg o hxo
    · rw [a.hh x o hxg hxo]; exact fun z => nomatch z
theorem off_same {o : HO} (s : Same G H) (g0 : G g = none) : Same G (upd H g o) := fun a u z => (upd_ne (fun w => by rw [w, g0] at z; cases z)).trans (s a u z)
theorem asg_fld {D : Ends} (h : EvD K te σ G d) (s : Same G H) (g0 : G g = none) (hg : H g = some (.ins CG dx fs)) (hσ : σ[0]? = some (some (.ref g))) (cl : Cls K CG) (na : NoAttr K CG f) (hz : fs.length < 1000)
    (k : ∀ v G1 H1, No g G H G1 H1 → G1 g = none → H1 g = some (.ins CG dx (putF f v fs)) → Dp K G1 v d → D.nx σ H1) : sFld K (tVar 0) te f D σ H := h H s _ fun v G1 H1 n1 hd => by
  have g1 : G1 g = none := (n1.fr g (ne_none hg)).trans g0
  exact ⟨_, hσ, g, CG, dx, fs, rfl, n1.hh _ _ hg, cl, na, hz, k v G1 _ ⟨n1.gg, off_same n1.gh g1, fun a o n e => (upd_ne n).trans (n1.hh a o e), n1.fr⟩ g1 upd_same hd⟩
theorem seq_fld {u : TS} {D : Ends} (h : EvD K te σ G d) (s : Same G H) (g0 : G g = none) (hg : H g = some (.ins CG dx fs)) (hσ : σ[0]? = some (some (.ref g))) (cl : Cls K CG) (na : NoAttr K CG f) (hz : fs.length < 1000)
    (k : ∀ v G1 H1, No g G H G1 H1 → G1 g = none → H1 g = some (.ins CG dx (putF f v fs)) → Dp K G1 v d → u D σ H1) : tSeq (sFld K (tVar 0) te f) u D σ H := asg_fld (D := { D with nx := u D }) h s g0 hg hσ cl na hz k
/-- made at a new place -/
theorem obj_made {a : Addr} {o : HO} (s : Same G H) (ha : H a = none) (hdx : H dx = none) (hne : dx ≠ a) (n : No a G (upd (upd H dx (.own a)) a o) G1 H1) {fs : List (Str × V)} (e1 : H1 a = some (.ins CG dx fs)) : Nx G H (upd G1 a (.ins CG dx fs)) H1 ∧ Same G1 (upd G1 a (.ins CG dx fs)) := by
  have na : G1 a = none := (n.fr a (ne_none upd_same)).trans (s.free ha)
  have sG := same_upd (o := .ins CG dx fs) na
  have s1 := same_upd (o := .own a) hdx
  refine ⟨⟨n.gg.trans sG, fun b u e => ?_, fun b u e => ?_, fun b nb => ?_⟩, sG⟩
  · by_cases hba : b = a
    · subst hba
      rw [upd_same] at e
      rw [← Option.some.inj e]; exact e1
    · rw [upd_ne hba] at e
      exact n.gh _ _ e
  · have hba : b ≠ a := ne_of_none e ha
    exact n.hh b u hba ((upd_ne hba).trans (s1 _ _ e))
  · have hba : b ≠ a := fun z => nb (by rw [z]; exact ha)
    rw [upd_ne hba]
    refine n.fr b ?_
    rw [upd_ne hba]
    by_cases hbd : b = dx
    · exact absurd (hbd ▸ hdx) nb
    · rw [upd_ne hbd]; exact nb
end
end Gw
namespace Gw
open PySem PySem.Spec PyProof.Rows L2 LamX
/-! ### machines -/
def oD : Option Nat → PyData | none => .none | some k => .int (k : Int)
def wayL (w : List (Option Nat)) : PyData := .list (w.map oD)
def wayT (w : List (Option Nat)) : PyData := .tuple (w.map oD)
abbrev nsD (es : List Nat) : List PyData := es.map fun (k : Nat) => PyData.int (k : Int)
structure WOk (L n : Nat) (w : List (Option Nat)) : Prop where
  l : w.length = L
  s : ∀ k, some k ∈ w → k < n
structure MOk (L : Nat) (ws : List (List (Option Nat))) (es : List Nat) : Prop where
  l1 : 1 ≤ L
  l2 : L ≤ 169
  n1 : 1 ≤ ws.length
  n2 : ws.length ≤ 2000
  w : ∀ w ∈ ws, WOk L ws.length w
  e : ∀ k ∈ es, k < ws.length
  a : ∀ i, i + 1 < es.length → es.getD i 0 < es.getD (i + 1) 0
  z : es.length ≤ 2000
section
variable {P : Program} {w : World} {K : PySem.W.Frag} {mg : Str → Option Value} {base : Heap} {f : Addr} {fd : FuncData}
theorem all_true {α : Type} (l : List α) : (l.map fun _ => true).all id = true := by
  rw [List.all_eq_true]
  intro x hx
  obtain ⟨_, _, rfl⟩ := List.mem_map.mp hx
  rfl
theorem map_const {l : List PyData} : (l.map fun _ => PyData.bool true) = (l.map fun _ => true).map .bool := by rw [List.map_map]; rfl
def R_is_way : List PyData → PyData → Prop := fun ds d => ∃ (L n : Nat) (w : List (Option Nat)), ds = [.int (L : Int), .int (n : Int), wayL w] ∧ WOk L n w ∧ L ≤ 1000 ∧ d = .bool true
theorem ok_is_way (D : DefAt K mg "is_way" s_is_way P_is_way f fd) (T : Bt mg) (h_is_number_in : Ok P w K mg base "is_number_in" P_is_number_in 2 (SpD K R_is_number_in)) (h_is_list : Ok P w K mg base "is_list" P_is_list 1 (spIsL K)) : Ok P w K mg base "is_way" P_is_way 3 (SpD K R_is_way) := by
  refine D.ok (okD D.F sc_is_way (fun ds d h => ?_) fun cdv A outer s H hr => ?_)
  · obtain ⟨L, n, w, rfl, _⟩ := h; rfl
  have S := sc_is_way
  refine ⟨_, (pss_cons (ps_if (PW.pt (pw_or (pt_not (pt_val (pe_ok h_is_list (hr.mono (by decide)) (by rfl) (pa_cons (pv 2) pa_nil)))) (pw_or1 (pt_cmpR op_ne (pe_callB (q_len K rfl) (by rfl) T.len PySem.boot_len (pa_cons (pv 2) pa_nil)) (pv 0) (nomark _))))) (pss_one (ps_ret pe_bl)) pss_nil)
  (pss_one (ps_ret (pe_callB (q_all K rfl rfl) (by rfl) T.all (by decide +kernel) (pa_cons (pe_lc (own := [("to", 3)]) (g := gName 3) (by rfl) S.nd  (q_iE K rfl (pv 2)) (blkOk_by (N := N_is_way) (sc := defScope s_is_way) (by decide +kernel)) (fun _ _ _ _ _ => (pg_name (i := 3) S.nd rfl (by first | exact .inl rfl | exact .inr rfl))) (fun _ _ _ _ _ => pts_nil) (fun _ _ _ _ _ => (pe_or (pe_cmpR op_isN (pv 3) pe_non (nomark _)) (pe_one (pe_ok h_is_number_in (hr.mono (by decide)) (by rfl) (pa_cons (pv 3) (pa_cons pe_int (pa_cons (pe_op op_sub (pv 1) pe_int) pa_nil)))))))) pa_nil))))), fun G ds d vs hR ha H0 hs D' qq _ => ?_⟩
  obtain ⟨L, n, w, rfl, W, lL, rfl⟩ := hR
  obtain _ | ⟨h0, _ | ⟨h1, _ | ⟨h2, _ | _⟩⟩⟩ := ha
  have big : 100000 ≤ sizeLine := by decide
  have lw : (w.map oD).length = L := by rw [List.length_map, W.l]
  refine (rd_seqIf (b := false) (EvB.cast (eb_or (a := false) (b := false) (EvB.cast (eb_not (eb_B (ed_isL (i := 2) rfl (.inl h2)))) rfl) fun _ => EvB.cast (eb_test (ed_op (EvD.cast (ed_cb (ea_cons (ed_var (i := 2) rfl h2) ea_nil) rcl_lenL) (congrArg (fun n : Nat => PyData.int (n : Int)) lw)) (ed_var (i := 0) rfl h0) ro_neI)) (by simp)) rfl) (fun z => nomatch z) fun _ => ?_) H0 hs D' qq
  refine rd_ret (EvD.cast (ed_cb (ea_cons (EvN.toD (EvN.cast (en_iL (en_lcL1 (i := 3) (fun _ => .bool true) (ed_var (i := 2) rfl h2) (fun _ => rfl) (by omega) fun d v Gi hd g hdv => ?_)) map_const)) ea_nil) rcl_all) (by rw [all_true]))
  obtain ⟨o, ho, rfl⟩ := List.mem_map.mp hd
  cases o with
  | none => exact EvD.cast (ed_or (a := true) (b := true) (ed_op (ed_var (i := 3) rfl hdv) ed_non (fun G H s vx vy hx hy Q q => by rw [dp_non hx, dp_non hy]; exact ⟨rfl, q _ G H (Nx.refl s) (.bl _)⟩)) fun z => nomatch z) rfl
  | some k =>
    have hk := W.s k ho
    refine EvD.cast (ed_or (a := false) (b := inR 0 ((n : Int) - 1) (.int (k : Int))) (ed_op (ed_var (i := 3) rfl hdv) ed_non (fun G H s vx vy hx hy Q q => by rw [dp_int hx, dp_non hy]; exact ⟨rfl, q _ G H (Nx.refl s) (.bl _)⟩)) fun _ => ed_call (R := R_is_number_in) (E := E0) (ea_cons (ed_var (i := 3) rfl hdv) (ea_cons ed_int (ea_cons (ed_op (ed_var (i := 1) rfl (dp_mono g _ h1)) ed_int ro_i) ea_nil))) ⟨_, 0, (n : Int) - 1, rfl, rfl⟩) ?_
    show PyData.bool (false || (decide ((0 : Int) ≤ (k : Int)) && decide ((k : Int) ≤ (n : Int) - 1))) = .bool true
    rw [decide_eq_true (by omega : (0 : Int) ≤ (k : Int)), decide_eq_true (by omega : (k : Int) ≤ (n : Int) - 1)]
    rfl
def R_are_ways : List PyData → PyData → Prop := fun ds d => ∃ (L : Nat) (ws : List (List (Option Nat))), ds = [.int (L : Int), .list (ws.map wayL)] ∧ 1 ≤ ws.length ∧ ws.length ≤ 2000 ∧ (∀ w ∈ ws, WOk L ws.length w) ∧ L ≤ 1000 ∧ d = .bool true
theorem ok_are_ways (D : DefAt K mg "are_ways" s_are_ways P_are_ways f fd) (T : Bt mg) {t2k : Tok} (c_MOST_STATES : mg "MOST_STATES" = some (.int 2000 t2k)) (h_is_list : Ok P w K mg base "is_list" P_is_list 1 (spIsL K)) (h_is_way : Ok P w K mg base "is_way" P_is_way 3 (SpD K R_is_way)) : Ok P w K mg base "are_ways" P_are_ways 4 (SpD K R_are_ways) := by
  refine D.ok (okD D.F sc_are_ways (fun ds d h => ?_) fun cdv A outer s H hr => ?_)
  · obtain ⟨L, ws, rfl, _⟩ := h; rfl
  have S := sc_are_ways
  refine ⟨_, (pss_cons (ps_if (PW.pt (pw_or (pt_not (pt_val (pe_ok h_is_list (hr.mono (by decide)) (by rfl) (pa_cons (pv 1) pa_nil)))) (pw_or1 (pt_not (pt_chain op_le op_le pe_int (pe_callB (q_len K rfl) (by rfl) T.len PySem.boot_len (pa_cons (pv 1) pa_nil)) (pe_glob (v := .int 2000) (by rfl) c_MOST_STATES ⟨_, rfl⟩)))))) (pss_one (ps_ret pe_bl)) pss_nil)
  (pss_one (ps_ret (pe_callB (q_all K rfl rfl) (by rfl) T.all (by decide +kernel) (pa_cons (pe_lc (own := [("way", 2)]) (g := gName 2) (by rfl) S.nd  (q_iE K rfl (pv 1)) (blkOk_by (N := N_are_ways) (sc := defScope s_are_ways) (by decide +kernel)) (fun _ _ _ _ _ => (pg_name (i := 2) S.nd rfl (by first | exact .inl rfl | exact .inr rfl))) (fun _ _ _ _ _ => pts_nil) (fun _ _ _ _ _ => (pe_ok h_is_way (hr.mono (by decide)) (by rfl) (pa_cons (pv 0) (pa_cons (pe_callB (q_len K rfl) (by rfl) T.len PySem.boot_len (pa_cons (pv 1) pa_nil)) (pa_cons (pv 2) pa_nil)))))) pa_nil))))), fun G ds d vs hR ha H0 hs D' qq _ => ?_⟩
  obtain ⟨L, ws, rfl, n1, n2, W, lL, rfl⟩ := hR
  obtain _ | ⟨h0, _ | ⟨h1, _ | _⟩⟩ := ha
  have big : 100000 ≤ sizeLine := by decide
  have lw : (ws.map wayL).length = ws.length := List.length_map _
  have hlen : ∀ {σ : L2.St} {Gi : Hp} {v : V}, σ[1]? = some (some v) → Dp K Gi v (.list (ws.map wayL)) → EvD K (tCB (rLenQ K) (tCons (tVar 1) tNil)) σ Gi (.int (ws.length : Int)) := fun {σ Gi v} h hd => EvD.cast (ed_cb (ea_cons (ed_var (i := 1) h hd) ea_nil) rcl_lenL) (congrArg (fun n : Nat => PyData.int (n : Int)) lw)
  refine (rd_seqIf (b := false) (EvB.cast (eb_or (a := false) (b := false) (EvB.cast (eb_not (eb_B (ed_isL (i := 1) rfl (.inl h1)))) rfl) fun _ => EvB.cast (eb_not (eb_test (ed_chain ed_int (hlen rfl h1) (ro_b (f := fun i j => decide (i ≤ j))) (fun _ => ed_int) fun _ => (ro_b (f := fun i j => decide (i ≤ j)))))) (by rw [decide_eq_true (by omega : (1 : Int) ≤ (ws.length : Int)), decide_eq_true (by omega : (ws.length : Int) ≤ 2000)]; rfl)) rfl) (fun z => nomatch z) fun _ => ?_) H0 hs D' qq
  refine rd_ret (EvD.cast (ed_cb (ea_cons (EvN.toD (EvN.cast (en_iL (en_lcL1 (i := 2) (fun _ => .bool true) (ed_var (i := 1) rfl h1) (fun _ => rfl) (by omega) fun d v Gi hd g hdv => ?_)) map_const)) ea_nil) rcl_all) (by rw [all_true]))
  obtain ⟨o, ho, rfl⟩ := List.mem_map.mp hd
  exact ed_call (R := R_is_way) (E := E0) (ea_cons (ed_var (i := 0) rfl (dp_mono g _ h0)) (ea_cons (hlen rfl (dp_mono g _ h1)) (ea_cons (ed_var (i := 2) rfl hdv) ea_nil))) ⟨L, ws.length, o, rfl, W o ho, lL, rfl⟩
def R_are_ends : List PyData → PyData → Prop := fun ds d => ∃ (n : Nat) (es : List Nat), ds = [.int (n : Int), .list (nsD es)] ∧ (∀ k ∈ es, k < n) ∧ (∀ i, i + 1 < es.length → es.getD i 0 < es.getD (i + 1) 0) ∧ es.length ≤ 2000 ∧ d = .bool true
theorem ok_are_ends (D : DefAt K mg "are_ends" s_are_ends P_are_ends f fd) (T : Bt mg) (h_is_list : Ok P w K mg base "is_list" P_is_list 1 (spIsL K)) (h_is_number_in : Ok P w K mg base "is_number_in" P_is_number_in 2 (SpD K R_is_number_in)) : Ok P w K mg base "are_ends" P_are_ends 4 (SpD K R_are_ends) := by
  refine D.ok (okD D.F sc_are_ends (fun ds d h => ?_) fun cdv A outer s H hr => ?_)
  · obtain ⟨n, es, rfl, _⟩ := h; rfl
  have S := sc_are_ends
  refine ⟨_, (pss_cons (ps_if (PW.pt (pw_or (pt_not (pt_val (pe_ok h_is_list (hr.mono (by decide)) (by rfl) (pa_cons (pv 1) pa_nil)))) (pw_or1 (pt_not (pt_val (pe_callB (q_all K rfl rfl) (by rfl) T.all (by decide +kernel) (pa_cons (pe_lc (own := [("end", 2)]) (g := gName 2) (by rfl) S.nd  (q_iE K rfl (pv 1)) (blkOk_by (N := N_are_ends) (sc := defScope s_are_ends) (by decide +kernel)) (fun _ _ _ _ _ => (pg_name (i := 2) S.nd rfl (by first | exact .inl rfl | exact .inr rfl))) (fun _ _ _ _ _ => pts_nil) (fun _ _ _ _ _ => (pe_ok h_is_number_in (hr.mono (by decide)) (by rfl) (pa_cons (pv 2) (pa_cons pe_int (pa_cons (pe_op op_sub (pv 0) pe_int) pa_nil)))))) pa_nil))))))) (pss_one (ps_ret pe_bl)) pss_nil)
  (pss_one (ps_ret (pe_callB (q_all K rfl rfl) (by rfl) T.all (by decide +kernel) (pa_cons (pe_lc (own := [("k", 3)]) (g := gName 3) (by rfl) S.nd  (pi_range1 (by rfl) T.range (pa_cons (pe_op op_sub (pe_callB (q_len K rfl) (by rfl) T.len PySem.boot_len (pa_cons (pv 1) pa_nil)) pe_int) pa_nil)) (blkOk_by (N := N_are_ends) (sc := defScope s_are_ends) (by decide +kernel)) (fun _ _ _ _ _ => (pg_name (i := 3) S.nd rfl (by first | exact .inl rfl | exact .inr rfl))) (fun _ _ _ _ _ => pts_nil) (fun _ _ _ _ _ => (pe_cmpR op_lt (pe_ix (q_ixL K rfl) (pv 1) (pv 3) (fun _ _ => rfl)) (pe_ix (q_ixL K rfl) (pv 1) (pe_op op_add (pv 3) pe_int) (fun _ _ => rfl)) (nomark _)))) pa_nil))))), fun G ds d vs hR ha H0 hs D' qq _ => ?_⟩
  obtain ⟨n, es, rfl, hE, hA, lE, rfl⟩ := hR
  obtain _ | ⟨h0, _ | ⟨h1, _ | _⟩⟩ := ha
  have big : 100000 ≤ sizeLine := by decide
  have le : (nsD es).length = es.length := List.length_map _
  have hlen : ∀ {σ : L2.St} {Gi : Hp} {v : V}, σ[1]? = some (some v) → Dp K Gi v (.list (nsD es)) → EvD K (tCB (rLenQ K) (tCons (tVar 1) tNil)) σ Gi (.int (es.length : Int)) := fun {σ Gi v} h hd => EvD.cast (ed_cb (ea_cons (ed_var (i := 1) h hd) ea_nil) rcl_lenL) (congrArg (fun n : Nat => PyData.int (n : Int)) le)
  refine (rd_seqIf (b := false) (EvB.cast (eb_or (a := false) (b := false) (EvB.cast (eb_not (eb_B (ed_isL (i := 1) rfl (.inl h1)))) rfl) fun _ => EvB.cast (eb_not (eb_B (EvD.cast (ed_cb (ea_cons (EvN.toD (EvN.cast (en_iL (en_lcL1 (i := 2) (fun _ => .bool true) (ed_var (i := 1) rfl h1) (fun _ => rfl) (by omega) fun d v Gi hd g hdv => ?_)) map_const)) ea_nil) rcl_all) (by rw [all_true])))) rfl) rfl) (fun z => nomatch z) fun _ => ?_) H0 hs D' qq
  · obtain ⟨k, hk, rfl⟩ := List.mem_map.mp hd
    have hkn := hE k hk
    refine EvD.cast (ed_call (R := R_is_number_in) (E := E0) (ea_cons (ed_var (i := 2) rfl hdv) (ea_cons ed_int (ea_cons (ed_op (ed_var (i := 0) rfl (dp_mono g _ h0)) ed_int ro_i) ea_nil))) ⟨_, 0, (n : Int) - 1, rfl, rfl⟩) ?_
    show PyData.bool (decide ((0 : Int) ≤ (k : Int)) && decide ((k : Int) ≤ (n : Int) - 1)) = .bool true
    rw [decide_eq_true (by omega : (0 : Int) ≤ (k : Int)), decide_eq_true (by omega : (k : Int) ≤ (n : Int) - 1)]
    rfl
  · have mc : ∀ l : List Nat, (l.map fun _ => PyData.bool true) = (l.map fun _ => true).map .bool := fun l => by rw [List.map_map]; rfl
    refine rd_ret (EvD.cast (ed_cb (ea_cons (EvN.toD (EvN.cast (en_lcR1 (i := 3) (m := (es.length : Int) - 1) (fun _ => .bool true) (ed_op (hlen rfl h1) ed_int ro_i) (fun _ => rfl) (by omega) (by omega) fun k Gi hk g => ?_) (mc _))) ea_nil) rcl_all) (by rw [all_true]))
    have hk1 : k + 1 < es.length := by omega
    have at1 : ∀ i, i < es.length → (nsD es)[i]? = some (.int ((es.getD i 0 : Nat) : Int)) := fun i hi => by
      rw [List.getElem?_map, List.getElem?_eq_getElem hi, List.getD_eq_getElem?_getD, List.getElem?_eq_getElem hi]; rfl
    have h1i := dp_mono g _ h1
    refine EvD.cast (ed_op (ed_op (ed_var (i := 1) rfl h1i) (ed_var (i := 3) rfl (.int (k : Int))) (ro_ixL (k := k) rfl (at1 k (by omega)))) (ed_op (ed_var (i := 1) rfl h1i) (ed_op (ed_var (i := 3) rfl (.int (k : Int))) ed_int ro_i) (ro_ixL (k := k + 1) (by omega) (at1 (k + 1) hk1))) (ro_b (f := fun i j => decide (i < j)))) ?_
    have := hA k hk1
    rw [decide_eq_true (by omega)]
end
end Gw
namespace Gw
open PySem PySem.Spec PyProof.Rows L2 LamX
/-! ### machines made -/
def mF (a b c : V) : List (Str × V) := [(("letters" : Str), a), (("ways" : Str), b), (("ends" : Str), c)]
def MacAt (K : PySem.W.Frag) (CG : Addr) (G : Hp) (g : Addr) (L : Nat) (ws : List (List (Option Nat))) (es : List Nat) : Prop := ∃ dx v1 v2 v3, G g = some (.ins CG dx (mF v1 v2 v3)) ∧ Dp K G v1 (.int (L : Int)) ∧ Dp K G v2 (.tuple (ws.map wayT)) ∧ Dp K G v3 (.tuple (nsD es))
theorem MacAt.mono {K : PySem.W.Frag} {CG : Addr} {G G' : Hp} {g : Addr} {L : Nat} {ws : List (List (Option Nat))} {es : List Nat} (h : MacAt K CG G g L ws es) (s : Same G G') : MacAt K CG G' g L ws es := by
  obtain ⟨dx, v1, v2, v3, h0, h1, h2, h3⟩ := h
  exact ⟨dx, v1, v2, v3, s _ _ h0, dp_mono s _ h1, dp_mono s _ h2, dp_mono s _ h3⟩
def spMI (K : PySem.W.Frag) (CG : Addr) : Sp := fun vs H Q _ => ∃ (G : Hp) (g dx : Addr) (vl vw ve : V) (L : Nat) (ws : List (List (Option Nat))) (es : List Nat), Same G H ∧ vs = [.ref g, vl, vw, ve] ∧ G g = none ∧ H g = some (.ins CG dx []) ∧ Dp K G vl (.int (L : Int)) ∧ Dp K G vw (.list (ws.map wayL)) ∧ Dp K G ve (.list (nsD es)) ∧ MOk L ws es ∧
  ∀ v1 v2 v3 G' H', No g G H G' H' → G' g = none → H' g = some (.ins CG dx (mF v1 v2 v3)) → Dp K G' v1 (.int (L : Int)) → Dp K G' v2 (.tuple (ws.map wayT)) → Dp K G' v3 (.tuple (nsD es)) → Q .non H'
section
variable {P : Program} {w : World} {K : PySem.W.Frag} {mg : Str → Option Value} {base : Heap} {f : Addr} {fd : FuncData} {CG CB fB : Addr}
theorem ok_Machineinit (F : Fun K "__init__" "Machine.__init__" s_Machineinit f fd) (T : Bt mg) (t_BadMachine : PySem.SupX.SupTxt P K mg "BadMachine" "part" CB fB) (cl : Cls K CG) (nl : NoAttr K CG "letters") (nw : NoAttr K CG "ways") (ne : NoAttr K CG "ends") {t169 : Tok} (c_MOST_READ : mg "MOST_READ" = some (.int 169 t169))
    (h_is_number_in : Ok P w K mg base "is_number_in" P_is_number_in 2 (SpD K R_is_number_in)) (h_are_ways : Ok P w K mg base "are_ways" P_are_ways 4 (SpD K R_are_ways)) (h_are_ends : Ok P w K mg base "are_ends" P_are_ends 4 (SpD K R_are_ends)) : FnOk P w K mg base (L2.CX P w) 5 f fd P_Machineinit (spMI K CG) := by
  refine F.okX sc_Machineinit (fun vs H Q E h => ?_) fun cdv A outer s H vs Q E hr h => ?_
  · obtain ⟨G, g, dx, vl, vw, ve, L, ws, es, _, rfl, _⟩ := h; rfl
  have S := sc_Machineinit
  obtain ⟨G, g, dx, vl, vw, ve, L, ws, es, hs, rfl, g0, hg, h1, h2, h3, M, q⟩ := h
  refine ⟨_, (pss_cons (ps_if (pt_not (pt_val (pe_ok h_is_number_in (hr.mono (by decide)) (by rfl) (pa_cons (pv 1) (pa_cons pe_int (pa_cons (pe_glob (v := .int 169) (by rfl) c_MOST_READ ⟨_, rfl⟩) pa_nil)))))) (pss_one (ps_raise rfl (takes_of rfl rfl rfl rfl) (pmk_sup t_BadMachine hr (pa_cons pe_str pa_nil) (by rfl)))) pss_nil)
  (pss_cons (ps_if (pt_not (pt_val (pe_ok h_are_ways (hr.mono (by decide)) (by rfl) (pa_cons (pv 1) (pa_cons (pv 2) pa_nil))))) (pss_one (ps_raise rfl (takes_of rfl rfl rfl rfl) (pmk_sup t_BadMachine hr (pa_cons pe_str pa_nil) (by rfl)))) pss_nil)
  (pss_cons (ps_if (pt_not (pt_val (pe_ok h_are_ends (hr.mono (by decide)) (by rfl) (pa_cons (pe_callB (q_len K rfl) (by rfl) T.len PySem.boot_len (pa_cons (pv 2) pa_nil)) (pa_cons (pv 3) pa_nil))))) (pss_one (ps_raise rfl (takes_of rfl rfl rfl rfl) (pmk_sup t_BadMachine hr (pa_cons pe_str pa_nil) (by rfl)))) pss_nil)
  (pss_cons (ps_fld (pv 0) (pv 1) rfl)
  (pss_cons (ps_fld (pv 0) (pe_callTy (q_tuple K rfl) (by rfl) T.tuple (by decide +kernel) (pa_cons (pe_lc (own := [("way", 4)]) (g := gName 4) (by rfl) S.nd  (q_iE K rfl (pv 2)) (blkOk_by (N := N_Machineinit) (sc := defScope s_Machineinit) (by decide +kernel)) (fun _ _ _ _ _ => (pg_name (i := 4) S.nd rfl (by first | exact .inl rfl | exact .inr rfl))) (fun _ _ _ _ _ => pts_nil) (fun _ _ _ _ _ => (pe_callTy (q_tuple K rfl) (by rfl) T.tuple (by decide +kernel) (pa_cons (pv 4) pa_nil)))) pa_nil)) rfl)
  (pss_one (ps_fld (pv 0) (pe_callTy (q_tuple K rfl) (by rfl) T.tuple (by decide +kernel) (pa_cons (pv 3) pa_nil)) rfl))))))), ?_⟩
  have big : 100000 ≤ sizeLine := by decide
  have l2 := M.l2
  have l1 := M.l1
  have lws : (ws.map wayL).length = ws.length := List.length_map _
  have n2 := M.n2
  -- checks
  refine seq_chk (K := K) (G := G) (EvB.cast (eb_not (eb_B (ed_call (σ := L2.start N_Machineinit [.ref g, vl, vw, ve]) (R := R_is_number_in) (E := E0) (ea_cons (ed_var (i := 1) rfl h1) (ea_cons ed_int (ea_cons ed_int ea_nil))) ⟨_, 1, 169, rfl, rfl⟩))) (by
    show (!(decide ((1 : Int) ≤ (L : Int)) && decide ((L : Int) ≤ 169))) = false
    rw [decide_eq_true (by omega : (1 : Int) ≤ (L : Int)), decide_eq_true (by omega : (L : Int) ≤ 169)]; rfl)) hs fun G1 H1 m1 => ?_
  refine seq_chk (K := K) (G := G1) (EvB.cast (eb_not (eb_B (ed_call (σ := L2.start N_Machineinit [.ref g, vl, vw, ve]) (R := R_are_ways) (E := E0) (ea_cons (ed_var (i := 1) rfl (dp_mono m1.gg _ h1)) (ea_cons (ed_var (i := 2) rfl (dp_mono m1.gg _ h2)) ea_nil)) ⟨L, ws, rfl, M.n1, M.n2, M.w, by omega, rfl⟩))) rfl) m1.gh fun G2 H2 m2 => ?_
  have m12 := m1.trans m2
  refine seq_chk (K := K) (G := G2) (EvB.cast (eb_not (eb_B (ed_call (σ := L2.start N_Machineinit [.ref g, vl, vw, ve]) (R := R_are_ends) (E := E0) (ea_cons (EvD.cast (ed_cb (ea_cons (ed_var (i := 2) rfl (dp_mono m12.gg _ h2)) ea_nil) rcl_lenL) (congrArg (fun n : Nat => PyData.int (n : Int)) lws)) (ea_cons (ed_var (i := 3) rfl (dp_mono m12.gg _ h3)) ea_nil)) ⟨ws.length, es, rfl, M.e, M.a, M.z, rfl⟩))) rfl) m2.gh fun G3 H3 m3 => ?_
  have m13 := m12.trans m3
  have g3 : G3 g = none := (m13.fr g (ne_none hg)).trans g0
  have hg3 := m13.hh _ _ hg
  -- fields
  refine seq_fld (K := K) (CG := CG) (G := G3) (ed_var (i := 1) rfl (dp_mono m13.gg _ h1)) m13.gh g3 hg3 rfl cl nl (by decide) fun v1 G4 H4 m4 g4 hg4 hv1 => ?_
  have h24 := dp_mono (m13.gg.trans m4.gg) _ h2
  have h34 := dp_mono (m13.gg.trans m4.gg) _ h3
  refine seq_fld (K := K) (CG := CG) (G := G4) (d := .tuple (ws.map wayT)) (ed_cb (ea_cons (EvN.toD (EvN.cast (en_iL (en_lcL1 (i := 4) (fun d => .tuple (itemsOf d)) (ed_var (i := 2) rfl h24) (fun _ => rfl) (by omega) fun d v Gi hd g hdv => ?_)) (by rw [List.map_map]; rfl))) ea_nil) rcl_tupleL) m4.gh g4 hg4 rfl cl nw (by show 1 < 1000; decide) fun v2 G5 H5 m5 g5 hg5 hv2 => ?_
  · obtain ⟨o, ho, rfl⟩ := List.mem_map.mp hd
    exact ed_cb (ea_cons (ed_var (i := 4) rfl hdv) ea_nil) rcl_tupleL
  refine asg_fld (K := K) (CG := CG) (G := G5) (ed_cb (ea_cons (ed_var (i := 3) rfl (dp_mono m5.gg _ h34)) ea_nil) rcl_tupleL) m5.gh g5 hg5 rfl cl ne (by show 2 < 1000; decide) fun v3 G6 H6 m6 g6 hg6 hv3 => ?_
  have nn := ((No.of (g := g) m13).trans m4 (fun o e => ne_none (m13.hh _ _ e))).trans m5 (fun o _ => ne_none hg4)
  have nn := nn.trans m6 (fun o _ => ne_none hg5)
  exact q v1 v2 v3 G6 H6 nn g6 hg6 (dp_mono (m5.gg.trans m6.gg) _ hv1) (dp_mono m6.gg _ hv2) hv3
/-! ### over a view -/
def MkM (P : Program) (w : World) (K : PySem.W.Frag) (mg : Str → Option Value) (base : Heap) (x : Str) (ps : List Str) (k : Nat) (C : Addr) (sp : Sp) : Prop :=
  ∃ (f : Addr) (fd : FuncData), mg x = some (.ref C) ∧ Mk K C f ∧ Binds K fd ps [] ∧ FnOk P w K mg base (L2.CX P w) k f fd ps sp
def EvM (K : PySem.W.Frag) (CG : Addr) (te : TE) (σ : L2.St) (G : Hp) (L : Nat) (ws : List (List (Option Nat))) (es : List Nat) : Prop := ∀ H, Same G H → ∀ Q : VK, (∀ g G' H', Nx G H G' H' → MacAt K CG G' g L ws es → Q (.ref g) H') → te σ H Q
end
section
variable {X : Cx} {x : Str} {ps : List Str} {k : Nat} {sp : Sp} {C : Addr} {p pos : Pos} {e : Expr} {es : List Expr} {t : TA} {E : XK}
theorem pe_mkM (h : MkM X.prog X.w X.K X.mg X.base x ps k C sp) (hx : Passes (L2.CX X.prog X.w) X E) (hr : Room (k + 1) X.A) (hg : Gl X x) (ha : PA X (e :: es) t) (hdb : (x == ("__debug__" : Str)) = false := by decide)
    (he : starEach (e :: es) X.env = (false, eval e X.env) :: starEach es X.env := by rfl) (hpl : (backTo pos (starEach es X.env)).any (·.1) = false := by rfl) : PE X (.Call (.Name x p) (e :: es) [] pos) (tMake C sp [] E t) := by
  obtain ⟨f, fd, hm, M, hb, F⟩ := h
  exact pe_make M F hr hg hm hb .nil hx ha hdb he hpl
end
section
variable {K : PySem.W.Frag} {CG : Addr} {σ : L2.St} {G H : Hp} {ta tb tc te : TE} {E : XK} {L : Nat} {ws : List (List (Option Nat))} {es : List Nat}
theorem em_make (ha : EvD K ta σ G (.int (L : Int))) (hb : EvD K tb σ G (.list (ws.map wayL))) (hc : EvD K tc σ G (.list (nsD es))) (M : MOk L ws es) : EvM K CG (tMake CG (spMI K CG) [] E (tCons ta (tCons tb (tCons tc tNil)))) σ G L ws es := fun H s Q q =>
  ha H s _ fun va G1 H1 n1 h1 => (hb.mono n1.gg) H1 n1.gh _ fun vb G2 H2 n2 h2 => (hc.mono (n1.gg.trans n2.gg)) H2 n2.gh _ fun vc G3 H3 n3 h3 a dx hna hnd hne => by
    have s1 := same_upd (o := .own a) hnd
    have ha' : upd H3 dx (.own a) a = none := (upd_ne (Ne.symm hne)).trans hna
    have s2 := same_upd (o := .ins CG dx []) ha'
    refine ⟨G3, a, dx, va, vb, vc, L, ws, es, (n3.gh.trans s1).trans s2, rfl, n3.gh.free hna, upd_same, dp_mono (n2.gg.trans n3.gg) _ h1, dp_mono n3.gg _ h2, h3, M, fun v1 v2 v3 G' H' nn g0 hg d1 d2 d3 => ⟨rfl, ?_⟩⟩
    obtain ⟨nx, sG⟩ := obj_made n3.gh hna hnd hne nn hg
    exact q a _ H' (((n1.trans n2).trans n3).trans nx) ⟨dx, v1, v2, v3, upd_same, dp_mono sG _ d1, dp_mono sG _ d2, dp_mono sG _ d3⟩
theorem seq_letM {i : Nat} {u : TS} {D : Ends} (h : EvM K CG te σ G L ws es) (s : Same G H) (k : ∀ g G1 H1, Nx G H G1 H1 → MacAt K CG G1 g L ws es → u D (σ.set i (some (.ref g))) H1) : tSeq (tAsg te (gName i)) u D σ H := h H s _ fun g G1 H1 n hg => k g G1 H1 n hg
theorem em_var {i : Nat} {g : Addr} (h : σ[i]? = some (some (.ref g))) (hg : MacAt K CG G g L ws es) : EvM K CG (tVar i) σ G L ws es := fun H s Q q => ⟨_, h, q g G H (Nx.refl s) hg⟩
theorem look_ways {a b c : V} : (mF a b c).lookup (("ways" : Str)) = some b := by
  unfold mF
  have h1 : (("ways" : Str) == ("letters" : Str)) = false := by decide
  simp [List.lookup, h1]
theorem look_ends {a b c : V} : (mF a b c).lookup (("ends" : Str)) = some c := by
  unfold mF
  have h1 : (("ends" : Str) == ("letters" : Str)) = false := by decide
  have h2 : (("ends" : Str) == ("ways" : Str)) = false := by decide
  simp [List.lookup, h1, h2]
theorem ed_mw (O : OwnC K CG) (na : NoAttr K CG "ways") (h : EvM K CG te σ G L ws es) : EvD K (tFld K te "ways") σ G (.tuple (ws.map wayT)) := fun H s Q q => h H s _ fun g G1 H1 n ⟨dx, v1, v2, v3, h0, h1, h2, h3⟩ =>
  ⟨g, CG, dx, _, v2, rfl, n.gh _ _ h0, O.cl, na, look_ways, q v2 G1 H1 n h2⟩
theorem ed_me (O : OwnC K CG) (na : NoAttr K CG "ends") (h : EvM K CG te σ G L ws es) : EvD K (tFld K te "ends") σ G (.tuple (nsD es)) := fun H s Q q => h H s _ fun g G1 H1 n ⟨dx, v1, v2, v3, h0, h1, h2, h3⟩ =>
  ⟨g, CG, dx, _, v3, rfl, n.gh _ _ h0, O.cl, na, look_ends, q v3 G1 H1 n h3⟩
end
section
variable {P : Program} {w : World} {K : PySem.W.Frag} {mg : Str → Option Value} {base : Heap} {f : Addr} {fd : FuncData} {CG CB fB : Addr}
def spWM (K : PySem.W.Frag) (CG : Addr) : Sp := fun vs H Q _ => ∃ (G : Hp) (g : Addr) (L : Nat) (ws : List (List (Option Nat))) (es : List Nat), Same G H ∧ vs = [.ref g] ∧ MacAt K CG G g L ws es ∧ ∀ G' H', Nx G H G' H' → Q .non H'
end
end Gw
namespace Gw
open PySem PySem.Spec PyProof.Rows L2 LamX
/-! ### dicts by comprehensions -/
theorem dc_it {J : It} {n : Nat} {Gd : Hp → Prop} {Y : Nat → Hp → V → Hp → Prop} (w : Walk J n Gd Y) {g : TG} {tt : TT} {tk tv : TE} {vs : List Nat} {σ : L2.St} {H1 : Hp} {D : Addr} {Qd : Hp → Prop} (Pv : Nat → Hp → Prop) (h0 : Pv 0 (upd H1 D (.dK []))) (hG : ∀ i H, i ≤ n → Pv i H → Gd H)
    (hs : ∀ i x H H', i < n → Pv i H → Y i H x H' → g x (wipe σ vs) H' fun σ2 H2 => wipe σ2 vs = wipe σ vs ∧ tt σ2 H2 fun b H3 => if b = true then tk σ2 H3 fun y H4 => tv σ2 H4 fun z H5 => ∃ kvs k, y = kV k ∧ H5 D = some (.dK kvs) ∧ kvs.length < sizeLine ∧ Pv (i + 1) (upd H5 D (.dK (putK kvs k z))) else Pv (i + 1) H3)
    (hd : ∀ H, Pv n H → Qd H) : ∃ W : Nat → Nat → Hp → Prop, (∃ m, W 0 m (upd H1 D (.dK []))) ∧ ∀ i m H, W i m H → (J.stop i H ∧ Qd H) ∨ (J.go i H ∧ ∃ Nx : Hp → Prop, (∀ H', Nx H' → ∃ m', m' < m ∧ W (i + 1) m' H') ∧
      ∀ x H', J.yld i H x H' → g x (wipe σ vs) H' fun σ2 H2 => wipe σ2 vs = wipe σ vs ∧ tt σ2 H2 fun b H3 => if b = true then tk σ2 H3 fun y H4 => tv σ2 H4 fun z H5 => ∃ kvs k, y = kV k ∧ H5 D = some (.dK kvs) ∧ kvs.length < sizeLine ∧ Nx (upd H5 D (.dK (putK kvs k z))) else Nx H3) := by
  refine ⟨fun i m H => i ≤ n ∧ m = n - i ∧ Pv i H, ⟨n, Nat.zero_le _, rfl, h0⟩, fun i m H ⟨hi, hm, hp⟩ => ?_⟩
  rcases Nat.lt_or_ge i n with z | z
  · refine .inr ⟨w.goes i H z (hG i H hi hp), Pv (i + 1), fun H' hp' => ⟨n - (i + 1), by omega, by omega, rfl, hp'⟩, fun x H' hy => hs i x H H' z hp (w.yields i H x H' z (hG i H hi hp) hy)⟩
  · have e : i = n := by omega
    subst e
    exact .inl ⟨w.stops H (hG i H hi hp), hd H hp⟩
theorem one_of {n c : Nat} (h : n + 64 < c) : n + 1 < c := by omega
theorem put_len (kvs : List (Key × V)) (k : Key) (v : V) : (putK kvs k v).length ≤ kvs.length + 1 := by
  unfold putK
  split
  · rw [List.length_map]; omega
  · rw [List.length_append]; exact Nat.le_refl _
section
variable {K : PySem.W.Frag} {σ : L2.St} {G H G1 H1 : Hp} {tl te : TE} {tt : TT} {ds : List PyData} {p : Addr} {Gi Hc : Hp}
theorem en_lcLF2 {i j : Nat} {vs : List Nat} (f : PyData → Option PyData) (h : EvD K tl σ G (.list ds)) (hw : ∀ v1 v2, wipe (((wipe σ vs).set i (some v1)).set j (some v2)) vs = wipe σ vs) (hz : ds.length ≤ sizeLine) (h3 : ∀ d ∈ ds, ∃ x y, d = .tuple [x, y])
    (ht : ∀ x y v1 v2 Gi, PyData.tuple [x, y] ∈ ds → Same G Gi → Dp K Gi v1 x → Dp K Gi v2 y → EvB K tt (((wipe σ vs).set i (some v1)).set j (some v2)) Gi (f (.tuple [x, y])).isSome)
    (he : ∀ x y e v1 v2 Gi, PyData.tuple [x, y] ∈ ds → f (.tuple [x, y]) = some e → Same G Gi → Dp K Gi v1 x → Dp K Gi v2 y → EvD K te (((wipe σ vs).set i (some v1)).set j (some v2)) Gi e) :
    EvN K (tLc (iList K tl) (gTup K 2 (gCons (gName i) (gCons (gName j) gNil))) tt te vs) σ G (ds.filterMap f) := fun H s Q q =>
  h H s _ fun v G1 H1 n1 hv => by
    cases hv with
    | @lst a xs _ hs ha =>
      refine ⟨a, rfl, ⟨xs, n1.gh.seq hs⟩, fun D hD => ?_⟩
      refine lc_list (K := K) (a := a) (xs := xs) (fun k Hc => LcI K G1 H1 D ((ds.take k).filterMap f) Hc) (LcI.start n1.gh hD) (fun k Hc _ p => ?_) (fun kk x Hc hk p => ?_) fun Hc p => ?_
      · obtain ⟨Gi, acc, n, _⟩ := p.ex
        exact (n1.gh.trans n.hh).seq hs
      · obtain ⟨dk, hdk, hdx⟩ := dpa_get ha hk
        have hm : dk ∈ ds := List.mem_of_getElem? hdk
        obtain ⟨x1, x2, rfl⟩ := h3 dk hm
        cases hdx with
        | @tup b ys _ hy hya =>
          obtain _ | ⟨d1, _ | ⟨d2, _ | _⟩⟩ := hya
          obtain ⟨Gi0, acc0, n0, _⟩ := id p.ex
          refine ⟨b, _, rfl, same_tup (n1.gh.trans n0.hh) hy, rfl, _, _, rfl, _, _, rfl, rfl, hw _ _, ?_⟩
          refine LcI.turn (b := (f (.tuple [x1, x2])).isSome) (e := (f (.tuple [x1, x2])).getD .none) hD p (Nat.lt_of_le_of_lt (List.length_filterMap_le _ _) ?_) (fun Gi g => ht x1 x2 _ _ Gi hm (n1.gg.trans g) (dp_mono g _ d1) (dp_mono g _ d2)) (fun hb Gi g => ?_) fun H' p' => ?_
          · have := (List.getElem?_eq_some_iff.mp hdk).1
            rw [List.length_take]; omega
          · obtain ⟨e, hee⟩ := Option.isSome_iff_exists.mp hb
            rw [hee]
            exact he x1 x2 e _ _ Gi hm hee (n1.gg.trans g) (dp_mono g _ d1) (dp_mono g _ d2)
          · rw [fm_take f ds kk _ hdk]
            cases hf : f (.tuple [x1, x2]) with
            | none => rw [hf] at p'; simpa using p'
            | some e => rw [hf] at p'; simpa using p'
      · rw [dpa_length ha, List.take_length] at p
        exact p.finN n1 hD q
theorem dc_tup {g : TG} {tk tv : TE} {vs : List Nat} {Q : VK} (h : EvD K te σ G (.tuple ds)) (s : Same G H)
    (k : ∀ a xs G1 H1, Nx G H G1 H1 → SqT K G1 a xs → DpAll K G1 xs ds → ∀ D, H1 D = none → ∃ W : Nat → Nat → Hp → Prop, (∃ m, W 0 m (upd H1 D (.dK []))) ∧ ∀ i m H, W i m H → ((Itt K a).stop i H ∧ Q (.ref D) H) ∨ ((Itt K a).go i H ∧ ∃ Nx : Hp → Prop, (∀ H', Nx H' → ∃ m', m' < m ∧ W (i + 1) m' H') ∧
      ∀ x H', (Itt K a).yld i H x H' → g x (wipe σ vs) H' fun σ2 H2 => wipe σ2 vs = wipe σ vs ∧ tt σ2 H2 fun b H3 => if b = true then tk σ2 H3 fun y H4 => tv σ2 H4 fun z H5 => ∃ kvs k, y = kV k ∧ H5 D = some (.dK kvs) ∧ kvs.length < sizeLine ∧ Nx (upd H5 D (.dK (putK kvs k z))) else Nx H3)) : tDc (iTup K te) g tt tk tv vs σ H Q := h H s _ fun v G1 H1 n1 hv => by
  cases hv with
  | @tup a xs _ hs ha => exact ⟨a, rfl, ⟨xs, same_tup n1.gh hs⟩, k a xs G1 H1 n1 hs ha⟩
/-- the list that grows takes another one's things -/
theorem Grow.addAll {es : List PyData} (h : Grow K G H p ds Gi Hc) (hp : H p = none) {vs : List V} (hd : DpAll K Gi vs es) {acc : List V} (e : Hc p = some (.lst acc)) : Grow K G H p (ds ++ es) Gi (upd Hc p (.lst (acc ++ vs))) := by
  obtain ⟨acc', e', ha⟩ := h.ex
  rw [e] at e'
  cases e'
  refine ⟨⟨h.n.gg, fun b u q => ?_, fun b u q => ?_, h.n.fr⟩, h.g, acc ++ vs, upd_same, dpa_append ha hd⟩
  · rw [upd_ne (ne_of_none q h.g)]; exact h.n.gh b u q
  · rw [upd_ne (ne_of_none q hp)]; exact h.n.hh b u q
theorem EvN.tellV {te : TE} {Q : VK} (h : EvN K te σ G ds) (s : Same G H) (k : ∀ p vs G1 H1, Nx G H G1 H1 → H p = none → G1 p = some (.lst vs) → DpAll K G1 vs ds → Q (.ref p) H1) : te σ H Q := h H s _ fun p vs G1 H1 n hp gp e ha => by
  obtain ⟨m, gi⟩ := n.tell hp gp e
  exact k p vs _ H1 m hp upd_same (dpa_mono gi _ ha)
theorem seq_letV {te : TE} {i : Nat} {u : TS} {D : Ends} (h : EvN K te σ G ds) (s : Same G H) (k : ∀ p vs G1 H1, Nx G H G1 H1 → H p = none → G1 p = some (.lst vs) → DpAll K G1 vs ds → u D (σ.set i (some (.ref p))) H1) : tSeq (tAsg te (gName i)) u D σ H := h.tellV s k
end
end Gw
namespace Gw
open PySem PySem.Spec PyProof.Rows L2 LamX
/-! ### moves of a view that stands beside a draw -/
structure Mv (K : PySem.W.Frag) (TQ : List (Addr × Str)) (d l c : Addr) (G H G' H' : Hp) : Prop where
  vw : Vw G' H' d l c
  tb : Tabs TQ H'
  dp : ∀ {v : V} {x : PyData}, Dp K G v x → Dp K G' v x
  is : ∀ {a C dx : Addr} {fs : List (Str × V)}, G a = some (.ins C dx fs) → G' a = some (.ins C dx fs)
  ls : ∀ {p : Addr} {xs : List V}, H p = some (.lst xs) → p ≠ d → p ≠ l → H' p = some (.lst xs)
  no : ∀ {p : Addr} {xs : List V}, H p = some (.lst xs) → p ≠ d → p ≠ l → G p = none → G' p = none
  lv : ∀ {p : Addr} {o : HO}, (∀ ps, o ≠ .tbl ps) → G p = some o → G' p = some o
section
variable {K : PySem.W.Frag} {TQ : List (Addr × Str)} {d l c : Addr} {G H G1 H1 G2 H2 : Hp}
theorem Mv.refl (v : Vw G H d l c) (t : Tabs TQ H) : Mv K TQ d l c G H G H := ⟨v, t, fun h => h, fun h => h, fun h _ _ => h, fun _ _ _ h => h, fun _ h => h⟩
theorem Mv.trans (a : Mv K TQ d l c G H G1 H1) (b : Mv K TQ d l c G1 H1 G2 H2) : Mv K TQ d l c G H G2 H2 :=
  ⟨b.vw, b.tb, fun h => b.dp (a.dp h), fun h => b.is (a.is h), fun h p q => b.ls (a.ls h p q) p q, fun h p q g => b.no (a.ls h p q) p q (a.no h p q g), fun n h => b.lv n (a.lv n h)⟩
theorem Mv.nx (v : Vw G H d l c) (t : Tabs TQ H) (n : Nx G H G1 H1) : Mv K TQ d l c G H G1 H1 :=
  have w := Nw.of v n
  ⟨w.vw, tabs_same t n.hh, fun h => dp_mono n.gg _ h, fun h => n.gg _ _ h, fun h _ _ => n.hh _ _ h, fun h _ _ g => (n.fr _ (ne_none h)).trans g, fun _ h => n.gg _ _ h⟩
theorem Mv.nw (v : Vw G H d l c) (t : Tabs TQ H) (n : Nw d l c G H G1 H1) : Mv K TQ d l c G H G1 H1 :=
  ⟨n.vw, tabs_nd t n.nd v.dr, fun h => dp_mono n.gg _ h, fun h => n.gg _ _ h, fun h p q => n.nd.hh _ _ p q h, fun h _ _ g => (n.fr _ (ne_none h)).trans g, fun _ h => n.gg _ _ h⟩
theorem Mv.nd (v : Vw G H d l c) (t : Tabs TQ H) (n : Nd d l H H1) (D : Drw H1 d l c) : Mv K TQ d l c G H G H1 := Mv.nw v t (Nw.draw v n D)
theorem Mv.same (v : Vw G H d l c) (t : Tabs TQ H) (s : Same H H1) : Mv K TQ d l c G H G H1 := Mv.nw v t (Nw.draw v (Nd.of s) (v.dr.same s))
/-- a lambda's table was laid -/
theorem Mv.ext (v : Vw G H d l c) (e : ExtN H H1) (t : Tabs TQ H1) : Mv K TQ d l c G H (noT G) H1 :=
  ⟨⟨noT_ext (noT_same.trans v.gh) e, noT_none v.gd, noT_none v.gl, noT_none v.gc, by
      obtain ⟨r, t, ls, cs, h1, h2, h3, h4, h5⟩ := v.dr.at'
      exact ⟨v.dr.ne, r, t, ls, cs, e _ _ h1 (fun _ z => nomatch z), e _ _ h2 (fun _ z => nomatch z), e _ _ h3 (fun _ z => nomatch z), h4, h5⟩⟩, t, (fun h => dp_noT _ h), (fun h => noT_of h (fun _ z => nomatch z)), (fun h _ _ => e _ _ h (fun _ z => nomatch z)), (fun _ _ _ g => noT_none g), (fun n h => noT_of h n)⟩
/-- a list of this heap comes into the view -/
theorem Mv.tell {p : Addr} {xs : List V} (v : Vw G H d l c) (t : Tabs TQ H) (g : G p = none) (h : H p = some (.lst xs)) (h1 : p ≠ d) (h2 : p ≠ l) (h3 : p ≠ c) : Vw (upd G p (.lst xs)) H d l c ∧ Same G (upd G p (.lst xs)) := by
  have gi : Same G (upd G p (.lst xs)) := fun b u q => by rw [upd_ne (ne_of_none q g)]; exact q
  refine ⟨⟨fun b u q => ?_, (upd_ne (Ne.symm h1)).trans v.gd, (upd_ne (Ne.symm h2)).trans v.gl, (upd_ne (Ne.symm h3)).trans v.gc, v.dr⟩, gi⟩
  by_cases hq : b = p
  · subst hq; rw [upd_same] at q; rw [h]; exact q
  · rw [upd_ne hq] at q; exact v.gh b u q
/-- a list that grows or is changed, beside the view -/
structure Gr (K : PySem.W.Frag) (d l c : Addr) (G H : Hp) (p : Addr) (ds : List PyData) : Prop where
  g : G p = none
  nd : p ≠ d
  nl : p ≠ l
  nc : p ≠ c
  ex : ∃ acc, H p = some (.lst acc) ∧ DpAll K G acc ds
theorem dpa_by {G G1 : Hp} (h : ∀ {v : V} {x : PyData}, Dp K G v x → Dp K G1 v x) : ∀ {vs : List V} {ds : List PyData}, DpAll K G vs ds → DpAll K G1 vs ds
  | _, _, .nil => .nil
  | _, _, .cons a t => .cons (h a) (dpa_by h t)
theorem Gr.mv {p : Addr} {ds : List PyData} (r : Gr K d l c G H p ds) (m : Mv K TQ d l c G H G1 H1) : Gr K d l c G1 H1 p ds := by
  obtain ⟨acc, e, ha⟩ := r.ex
  exact ⟨m.no e r.nd r.nl r.g, r.nd, r.nl, r.nc, acc, m.ls e r.nd r.nl, dpa_by m.dp ha⟩
theorem Gr.start {p : Addr} (v : Vw G H d l c) (hp : H p = none) : Gr K d l c G (upd H p (.lst [])) p [] ∧ Vw G (upd H p (.lst [])) d l c ∧ Same H (upd H p (.lst [])) := by
  have s : Same H (upd H p (.lst [])) := same_upd hp
  obtain ⟨h1, h2, h3⟩ := v.dr.off hp
  exact ⟨⟨v.gh.free hp, h1, h2, h3, [], upd_same, .nil⟩, ⟨v.gh.trans s, v.gd, v.gl, v.gc, v.dr.same s⟩, s⟩
theorem tabs_updM {T : List (Addr × Str)} {p : Addr} {ys : List V} {o : HO} (t : Tabs T H) (hp : H p = some (.lst ys)) : Tabs T (upd H p o) := fun q hq => by
  obtain ⟨ps, h1, h2, h3⟩ := t q hq
  refine ⟨ps, (upd_ne (fun z => by rw [z, hp] at h1; cases h1)).trans h1, h2, fun pos cv hc => ?_⟩
  obtain ⟨c0, e1, e2⟩ := h3 pos cv hc
  exact ⟨c0, e1, (upd_ne (fun z => by rw [z, hp] at e2; cases e2)).trans e2⟩
/-- the list is written anew -/
theorem Gr.put {p : Addr} {ds es : List PyData} {xs : List V} (r : Gr K d l c G H p ds) (v : Vw G H d l c) (t : Tabs TQ H) (ha : DpAll K G xs es) : Gr K d l c G (upd H p (.lst xs)) p es ∧ Mv K TQ d l c G H G H ∧ Vw G (upd H p (.lst xs)) d l c ∧ Tabs TQ (upd H p (.lst xs)) := by
  obtain ⟨acc, e, _⟩ := r.ex
  refine ⟨⟨r.g, r.nd, r.nl, r.nc, xs, upd_same, ha⟩, Mv.refl v t, ⟨fun b u q => ?_, v.gd, v.gl, v.gc, v.dr.upd r.nd r.nl r.nc⟩, tabs_updM t e⟩
  rw [upd_ne (ne_of_none q r.g)]
  exact v.gh b u q
/-- a deed upon the draw that lays a tuple, too -/
theorem Nw.tup {p : Addr} {xs : List V} {H' : Hp} (v : Vw G H d l c) (n : Nd d l H H') (D : Drw H' d l c) (h0 : H p = none) (h : H' p = some (.tup xs)) : Nw d l c G H (upd G p (.tup xs)) H' := by
  have g := v.gh.free h0
  obtain ⟨h1, h2, h3⟩ := v.dr.off h0
  refine ⟨fun b u q => by rw [upd_ne (ne_of_none q g)]; exact q, ⟨fun b u q => ?_, (upd_ne (Ne.symm h1)).trans v.gd, (upd_ne (Ne.symm h2)).trans v.gl, (upd_ne (Ne.symm h3)).trans v.gc, D⟩, n, fun b hb => upd_ne fun z => hb (by rw [z]; exact h0)⟩
  by_cases hq : b = p
  · subst hq; rw [upd_same] at q; rw [← Option.some.inj q]; exact h
  · rw [upd_ne hq] at q
    exact n.hh b u (fun z => by rw [z, v.gd] at q; cases q) (fun z => by rw [z, v.gl] at q; cases q) (v.gh b u q)
end
/-! ### the whole heap as a view beside the draw -/
def offD (d l c : Addr) (H : Hp) : Hp := fun a => if a = d ∨ a = l ∨ a = c then none else H a
section
variable {K : PySem.W.Frag} {d l c : Addr} {H : Hp}
theorem offD_of {a : Addr} {o : HO} (h : H a = some o) (h1 : a ≠ d) (h2 : a ≠ l) (h3 : a ≠ c) : offD d l c H a = some o := by
  unfold offD
  rw [if_neg (by rintro (z | z | z) <;> contradiction)]; exact h
theorem offD_vw (D : Drw H d l c) : Vw (offD d l c H) H d l c := by
  refine ⟨fun a o h => ?_, by simp [offD], by simp [offD], by simp [offD], D⟩
  unfold offD at h
  split at h
  · cases h
  · exact h
theorem sqT_off (D : Drw H d l c) {a : Addr} {xs : List V} (h : SqT K H a xs) : SqT K (offD d l c H) a xs := by
  obtain ⟨r, t, ls, cs, h1, h2, h3, h4, h5⟩ := D.at'
  rcases h with (e | ⟨o, e⟩) | e
  · exact SqT.of (offD_of e (ne_of e h1 (fun z => nomatch z)) (ne_of e h2 (fun z => nomatch z)) (ne_of e h3 (fun z => nomatch z)))
  · exact .inl (.inr ⟨o, offD_of e (ne_of e h1 (fun z => nomatch z)) (ne_of e h2 (fun z => nomatch z)) (ne_of e h3 (fun z => nomatch z))⟩)
  · exact .inr e
mutual
theorem dp_off (D : Drw H d l c) : ∀ (x : PyData) {v : V}, noL x = true → Dp K H v x → Dp K (offD d l c H) v x
  | .none, _, _, .non => .non
  | .bool b, _, _, .bl _ => .bl b
  | .int i, _, _, .int _ => .int i
  | .str x, _, _, .str _ => .str x
  | .tuple ds, _, z, .tup hs ha => .tup (sqT_off D hs) (dpa_off D ds (by rw [noL] at z; exact z) ha)
theorem dpa_off (D : Drw H d l c) : ∀ (ds : List PyData) {vs : List V}, noLA ds = true → DpAll K H vs ds → DpAll K (offD d l c H) vs ds
  | [], _, _, .nil => .nil
  | x :: ds, _, z, .cons h t => by
    rw [noLA, Bool.and_eq_true] at z
    exact .cons (dp_off D x z.1 h) (dpa_off D ds z.2 t)
end
end
end Gw
namespace Gw
open PySem PySem.Spec PyProof.Rows L2 LamX
/-! ### pair rows -/
abbrev wD (ws : List Int) : PyData := .tuple (ws.map .int)
def prAt (m : Int) (a b : List Int) (k : Nat) : Int := (a.getD k m) * (m + 1) + b.getD k m
def prI (m : Int) (a b : List Int) : List Int := (List.range (max a.length b.length)).map (prAt m a b)
def poA (m : Int) (r : List Int) : List Int := (r.map fun x => x.fdiv (m + 1)).filter fun y => decide (y < m)
def poB (m : Int) (r : List Int) : List Int := (r.map fun x => x.fmod (m + 1)).filter fun y => decide (y < m)
theorem rcl_max2 {K : PySem.W.Frag} {i j : Nat} : RCl K (fun xs H Q => ∃ i j : Int, xs = [V.int i, V.int j] ∧ Q (.int (if j > i then j else i)) H) [.int (i : Int), .int (j : Int)] (.int ((max i j : Nat) : Int)) := fun G H s vs hv Q q => by
  obtain _ | ⟨h1, _ | ⟨h2, _ | _⟩⟩ := hv
  refine ⟨_, _, by rw [dp_int h1, dp_int h2], q _ G H (Nx.refl s) ?_⟩
  have e : (if (j : Int) > (i : Int) then (j : Int) else (i : Int)) = ((max i j : Nat) : Int) := by
    split <;> omega
  rw [e]
  exact .int _
section
variable {P : Program} {w : World} {K : PySem.W.Frag} {mg : Str → Option Value} {base : Heap} {f : Addr} {fd : FuncData}
def R_row_of_pair : List PyData → PyData → Prop := fun ds d => ∃ (m : Int) (a b : List Int), ds = [.int m, wD a, wD b] ∧ a.length ≤ 100000 ∧ b.length ≤ 100000 ∧ 0 ≤ m ∧ m ≤ 1000 ∧ d = wD (prI m a b)
theorem ok_row_of_pair (D : DefAt K mg "row_of_pair" s_row_of_pair P_row_of_pair f fd) (T : Bt mg) : Ok P w K mg base "row_of_pair" P_row_of_pair 1 (SpD K R_row_of_pair) := by
  refine D.ok (okD D.F sc_row_of_pair (fun ds d h => ?_) fun cdv A outer s H hr => ?_)
  · obtain ⟨m, a, b, rfl, _⟩ := h; rfl
  have S := sc_row_of_pair
  refine ⟨_, (pss_cons (ps_set (i := 3) S.nd rfl (by first | exact .inl rfl | exact .inr rfl) (pe_lst pa_nil))
  (pss_cons (ps_for PassesOwn.never rfl (pi_range1 (by rfl) T.range (pa_cons (pe_callB (call_max2 rfl) (by rfl) T.max (by decide +kernel) (pa_cons (pe_callB (q_len K rfl) (by rfl) T.len PySem.boot_len (pa_cons (pv 1) pa_nil)) (pa_cons (pe_callB (q_len K rfl) (by rfl) T.len PySem.boot_len (pa_cons (pv 2) pa_nil)) pa_nil))) pa_nil)) (pg_name (i := 4) S.nd rfl (by first | exact .inl rfl | exact .inr rfl)) (pss_cons (ps_set (i := 5) S.nd rfl (by first | exact .inl rfl | exact .inr rfl) (pe_ifExp (pt_cmpR op_lt (pv 4) (pe_callB (q_len K rfl) (by rfl) T.len PySem.boot_len (pa_cons (pv 1) pa_nil)) (nomark _)) (pe_ix (q_ixT K rfl) (pv 1) (pv 4) (fun _ _ => rfl)) (pv 0)))
  (pss_cons (ps_set (i := 6) S.nd rfl (by first | exact .inl rfl | exact .inr rfl) (pe_ifExp (pt_cmpR op_lt (pv 4) (pe_callB (q_len K rfl) (by rfl) T.len PySem.boot_len (pa_cons (pv 2) pa_nil)) (nomark _)) (pe_ix (q_ixT K rfl) (pv 2) (pv 4) (fun _ _ => rfl)) (pv 0)))
  (pss_one (ps_expr (pe_bm PySem.F.plainAttrs_list PySem.F.slot_list_append PySem.F.type_list_append mt_append (pv 3) (pa_cons (pe_op op_add (pe_op op_mul (pv 5) (pe_op op_add (pv 0) pe_int)) (pv 6)) pa_nil)))))))
  (pss_one (ps_ret (pe_callTy (q_tuple K rfl) (by rfl) T.tuple (by decide +kernel) (pa_cons (pv 3) pa_nil)))))), fun G ds d vs hR ha H0 hs D' qq _ => ?_⟩
  obtain ⟨m, a, b, rfl, la, lb, hm0, hm1, rfl⟩ := hR
  obtain _ | ⟨hm, _ | ⟨h1, _ | ⟨h2, _ | _⟩⟩⟩ := ha
  have big : 2000000 ≤ sizeLine := by decide
  have lad : (a.map PyData.int).length = a.length := List.length_map _
  have lbd : (b.map PyData.int).length = b.length := List.length_map _
  refine ⟨Nat.zero_le _, fun p hp => ?_⟩
  have g0 := Grow.start (K := K) hs hp
  have hN : (max a.length b.length) ≤ 100000 := by omega
  refine seq_forR (K := K) (G := G) (n := max a.length b.length) (fun k σ Hc => ∃ y4 y5 y6 Gi, σ = [some _, some _, some _, some (.ref p), y4, y5, y6] ∧ Grow K G H0 p (((List.range k).map (prAt m a b)).map .int) Gi Hc) (ed_cb (ea_cons (EvD.cast (ed_cb (ea_cons (ed_var (i := 1) rfl h1) ea_nil) rcl_len) (congrArg (fun n : Nat => PyData.int (n : Int)) lad)) (ea_cons (EvD.cast (ed_cb (ea_cons (ed_var (i := 2) rfl h2) ea_nil) rcl_len) (congrArg (fun n : Nat => PyData.int (n : Int)) lbd)) ea_nil)) rcl_max2) g0.n.gh (by omega) (fun G1 H1 n1 => ⟨_, _, _, G1, rfl, g0.step n1⟩) (fun k σ Hc hk hP => ?_) fun σ Hc hP => ?_
  · obtain ⟨y4, y5, y6, Gi, rfl, gr⟩ := hP
    have hmi := dp_mono gr.n.gg _ hm
    have h1i := dp_mono gr.n.gg _ h1
    have h2i := dp_mono gr.n.gg _ h2
    have ek : (0 : Int) + (k : Int) = (k : Int) := by omega
    rw [ek]
    have getA : ∀ c : List Int, (if decide ((k : Int) < (c.length : Int)) = true then c.getD k m else m) = c.getD k m := fun c => by
      split
      · rfl
      · rename_i z
        have : ¬ k < c.length := fun h => z (decide_eq_true (by omega))
        rw [List.getD_eq_getElem?_getD, List.getElem?_eq_none (by omega)]; rfl
    refine seq_let (K := K) (G := Gi) (d := .int (a.getD k m)) (ed_if (b := decide ((k : Int) < (a.length : Int))) (EvB.cast (eb_test (ed_op (ed_var (i := 4) rfl (.int (k : Int))) (EvD.cast (ed_cb (ea_cons (ed_var (i := 1) rfl h1i) ea_nil) rcl_len) (congrArg (fun n : Nat => PyData.int (n : Int)) lad)) ro_b)) rfl) (fun z => ?_) fun z => ?_) gr.n.gh fun v5 G2 H2 n2 hd5 => ?_
    · have hka : k < a.length := by have := of_decide_eq_true z; omega
      refine ed_op (ed_var (i := 1) rfl h1i) (ed_var (i := 4) rfl (.int (k : Int))) (ro_ixT (k := k) rfl ?_)
      rw [List.getElem?_map, List.getElem?_eq_getElem hka, List.getD_eq_getElem?_getD, List.getElem?_eq_getElem hka]; rfl
    · have hka : ¬ k < a.length := by have := of_decide_eq_false z; omega
      refine (ed_var (i := 0) rfl hmi).cast ?_
      rw [List.getD_eq_getElem?_getD, List.getElem?_eq_none (by omega)]; rfl
    have g2 := gr.step n2
    have hmi2 := dp_mono n2.gg _ hmi
    have h2i2 := dp_mono n2.gg _ h2i
    refine seq_let (K := K) (G := G2) (d := .int (b.getD k m)) (ed_if (b := decide ((k : Int) < (b.length : Int))) (EvB.cast (eb_test (ed_op (ed_var (i := 4) rfl (.int (k : Int))) (EvD.cast (ed_cb (ea_cons (ed_var (i := 2) rfl h2i2) ea_nil) rcl_len) (congrArg (fun n : Nat => PyData.int (n : Int)) lbd)) ro_b)) rfl) (fun z => ?_) fun z => ?_) g2.n.gh fun v6 G3 H3 n3 hd6 => ?_
    · have hka : k < b.length := by have := of_decide_eq_true z; omega
      refine ed_op (ed_var (i := 2) rfl h2i2) (ed_var (i := 4) rfl (.int (k : Int))) (ro_ixT (k := k) rfl ?_)
      rw [List.getElem?_map, List.getElem?_eq_getElem hka, List.getD_eq_getElem?_getD, List.getElem?_eq_getElem hka]; rfl
    · have hka : ¬ k < b.length := by have := of_decide_eq_false z; omega
      refine (ed_var (i := 0) rfl hmi2).cast ?_
      rw [List.getD_eq_getElem?_getD, List.getElem?_eq_none (by omega)]; rfl
    have g3 := g2.step n3
    obtain ⟨acc3, e3, _⟩ := id g3.ex
    refine ⟨_, rfl, .inl ⟨rfl, _, SqL.of e3⟩, ?_⟩
    have cm : CMul (a.getD k m) (m + 1) := .inr ⟨by omega, by omega⟩
    refine (ed_op (K := K) (G := G3) (σ := [some _, some _, some _, some (.ref p), some (.int (k : Int)), some v5, some v6]) (ed_op (ed_var (i := 5) rfl (dp_mono n3.gg _ hd5)) (ed_op (ed_var (i := 0) rfl (dp_mono n3.gg _ hmi2)) ed_int ro_i) (ro_ic (f := fun i j => i * j) cm)) (ed_var (i := 6) rfl hd6) ro_i) H3 g3.n.gh _ fun v4 G4 H4 n4 hd4 => ?_
    have g4 := g3.step n4
    obtain ⟨acc4, e4, ha4⟩ := id g4.ex
    refine ⟨p, acc4, v4, rfl, rfl, e4, ?_, ⟨_, _, _, G4, rfl, ?_⟩⟩
    · have h1 := dpa_length ha4
      rw [List.length_map, List.length_map, List.length_range] at h1
      omega
    · rw [List.range_succ, List.map_append, List.map_append]
      exact g4.add hp hd4 e4
  · obtain ⟨y4, y5, y6, Gi, rfl, gr⟩ := hP
    obtain ⟨acc, e, hacc⟩ := gr.ex
    obtain ⟨m1, gi⟩ := gr.n.tell hp gr.g e
    exact (rd_ret (K := K) (G := upd Gi p (.lst acc)) (d := wD (prI m a b)) (ed_cb (ea_cons (ed_var (i := 3) rfl (.lst (SqL.of upd_same) (dpa_mono gi _ hacc))) ea_nil) rcl_tupleL)) Hc m1.gh D' fun v G2 H2 n2 hd => qq v G2 H2 (m1.trans n2) hd
end
/-! ### the law's own rows -/
def rowN (r : List Nat) : PyData := .tuple (nsD r)
def goL (ws : List (List (Option Nat))) : Option Nat → List Nat → Option Nat
  | o, [] => o
  | none, _ :: r => goL ws none r
  | some s, i :: r => goL ws ((ws.getD s []).getD i none) r
def extL (L : Nat) (r : List Nat) : List (List Nat) := (List.range L).map fun i => r ++ [i]
def rowsL (L : Nat) : Nat → List (List Nat)
  | 0 => [[]]
  | k + 1 => ((rowsL L k).map (extL L)).flatten
theorem getD_map {l : List (Option Nat)} {i : Nat} (h : i < l.length) : (l.map oD)[i]? = some (oD (l.getD i none)) := by
  rw [List.getElem?_map, List.getElem?_eq_getElem h, List.getD_eq_getElem?_getD, List.getElem?_eq_getElem h]; rfl
theorem getD_mem {l : List (Option Nat)} {i : Nat} (h : i < l.length) : l.getD i none ∈ l := by
  rw [List.getD_eq_getElem?_getD, List.getElem?_eq_getElem h]; exact List.getElem_mem h
def allL (L k : Nat) : List (List Nat) := ((List.range (k + 1)).map (rowsL L)).flatten
theorem allL_succ (L k : Nat) : allL L (k + 1) = allL L k ++ rowsL L (k + 1) := by
  unfold allL
  rw [List.range_succ, List.map_append, List.flatten_append]
  simp
section
variable {K : PySem.W.Frag} {σ : L2.St} {G H : Hp} {t1 t2 : TE} {ds es : List PyData}
theorem seq_par2 {i j : Nat} {u : TS} {D : Ends} (h1 : EvN K t1 σ G ds) (h2 : EvN K t2 σ G es) (s : Same G H) (k : ∀ p vs q us G1 H1, Nx G H G1 H1 → G1 p = some (.lst vs) → G1 q = some (.lst us) → DpAll K G1 vs ds → DpAll K G1 us es → u D ((σ.set i (some (.ref p))).set j (some (.ref q))) H1) : tSeq (tPar i j (tCons t1 (tCons t2 tNil))) u D σ H :=
  h1.tellV s fun p vs G1 H1 n1 _ e1 a1 => (h2.mono n1.gg).tellV n1.gh fun q us G2 H2 n2 _ e2 a2 => ⟨_, _, rfl, k p vs q us G2 H2 (n1.trans n2) (n2.gg _ _ e1) e2 (dpa_mono n2.gg _ a1) a2⟩
theorem en_catW {i j : Nat} {l m : Addr} {xs ys : List V} (h : σ[i]? = some (some (.ref l))) (hl : G l = some (.lst xs)) (ha : DpAll K G xs ds) (h' : σ[j]? = some (some (.ref m))) (hm : G m = some (.lst ys)) (hb : DpAll K G ys es) (hz : ds.length + es.length ≤ sizeLine) : EvN K (tOp rCat (tVar i) (tVar j)) σ G (ds ++ es) := fun H s Q q =>
  ⟨_, h, _, h', l, m, xs, ys, rfl, rfl, s _ _ hl, s _ _ hm, by rw [dpa_length ha, dpa_length hb]; exact hz, fun p2 hp2 => q p2 (xs ++ ys) G _ (Nx.lay s hp2) hp2 (s.free hp2) upd_same (dpa_append ha hb)⟩
end
section
variable {P : Program} {w : World} {K : PySem.W.Frag} {mg : Str → Option Value} {base : Heap} {f : Addr} {fd : FuncData}
def R_law_pairs_read : List PyData → PyData → Prop := fun ds d => ∃ (bs a b : List Int), ds = [wD bs, wD a, wD b] ∧ bs.length ≤ 1000 ∧ a.length ≤ 100000 ∧ b.length ≤ 100000 ∧ d = wD (prI bs.length a b)
theorem ok_law_pairs_read (D : DefAt K mg "_law_pairs_read" s_law_pairs_read P_law_pairs_read f fd) (T : Bt mg) : Ok P w K mg base "_law_pairs_read" P_law_pairs_read 1 (SpD K R_law_pairs_read) := by
  refine D.ok (okD D.F sc_law_pairs_read (fun ds d h => ?_) fun cdv A outer s H hr => ?_)
  · obtain ⟨bs, a, b, rfl, _⟩ := h; rfl
  have S := sc_law_pairs_read
  refine ⟨_, (pss_cons (ps_par (i := 3) (j := 4) rfl S.nd rfl rfl (by decide) rfl rfl (pa_cons (pe_callB (q_len K rfl) (by rfl) T.len PySem.boot_len (pa_cons (pv 0) pa_nil)) (pa_cons (pe_lst pa_nil) pa_nil)) (by rfl))
  (pss_cons (ps_for PassesOwn.never rfl (pi_range1 (by rfl) T.range (pa_cons (pe_callB (call_max2 rfl) (by rfl) T.max (by decide +kernel) (pa_cons (pe_callB (q_len K rfl) (by rfl) T.len PySem.boot_len (pa_cons (pv 1) pa_nil)) (pa_cons (pe_callB (q_len K rfl) (by rfl) T.len PySem.boot_len (pa_cons (pv 2) pa_nil)) pa_nil))) pa_nil)) (pg_name (i := 5) S.nd rfl (by first | exact .inl rfl | exact .inr rfl)) (pss_one (ps_expr (pe_bm PySem.F.plainAttrs_list PySem.F.slot_list_append PySem.F.type_list_append mt_append (pv 4) (pa_cons (pe_op op_add (pe_op op_mul (pe_ifExp (pt_cmpR op_lt (pv 5) (pe_callB (q_len K rfl) (by rfl) T.len PySem.boot_len (pa_cons (pv 1) pa_nil)) (nomark _)) (pe_ix (q_ixT K rfl) (pv 1) (pv 5) (fun _ _ => rfl)) (pv 3)) (pe_op op_add (pv 3) pe_int)) (pe_ifExp (pt_cmpR op_lt (pv 5) (pe_callB (q_len K rfl) (by rfl) T.len PySem.boot_len (pa_cons (pv 2) pa_nil)) (nomark _)) (pe_ix (q_ixT K rfl) (pv 2) (pv 5) (fun _ _ => rfl)) (pv 3))) pa_nil)))))
  (pss_one (ps_ret (pe_callTy (q_tuple K rfl) (by rfl) T.tuple (by decide +kernel) (pa_cons (pv 4) pa_nil)))))), fun G ds d vs hR ha H0 hs D' qq _ => ?_⟩
  obtain ⟨bs, a, b, rfl, lbs, la, lb, rfl⟩ := hR
  obtain _ | ⟨hb0, _ | ⟨h1, _ | ⟨h2, _ | _⟩⟩⟩ := ha
  have big : 2000000 ≤ sizeLine := by decide
  obtain ⟨ab, rfl, hsb⟩ := dp_ints_t hb0
  have lad : (a.map PyData.int).length = a.length := List.length_map _
  have lbd : (b.map PyData.int).length = b.length := List.length_map _
  refine ⟨_, rfl, ab, _, rfl, .inr (same_tup hs hsb), Nat.zero_le _, fun p hp => ⟨_, _, rfl, ?_⟩⟩
  have lbv : (bs.map V.int).length = bs.length := List.length_map _
  rw [lbv]
  have g0 := Grow.start (K := K) hs hp
  dsimp only
  generalize hm : (bs.length : Int) = m
  refine seq_forR (K := K) (G := G) (n := max a.length b.length) (fun k σ Hc => ∃ y5 Gi, σ = [some _, some _, some _, some (.int m), some (.ref p), y5] ∧ Grow K G H0 p (((List.range k).map (prAt m a b)).map .int) Gi Hc) (ed_cb (ea_cons (EvD.cast (ed_cb (ea_cons (ed_var (i := 1) rfl h1) ea_nil) rcl_len) (congrArg (fun n : Nat => PyData.int (n : Int)) lad)) (ea_cons (EvD.cast (ed_cb (ea_cons (ed_var (i := 2) rfl h2) ea_nil) rcl_len) (congrArg (fun n : Nat => PyData.int (n : Int)) lbd)) ea_nil)) rcl_max2) g0.n.gh (by omega) (fun G1 H1 n1 => ⟨_, G1, rfl, g0.step n1⟩) (fun k σ Hc hk hP => ?_) fun σ Hc hP => ?_
  · obtain ⟨y5, Gi, rfl, gr⟩ := hP
    have h1i := dp_mono gr.n.gg _ h1
    have h2i := dp_mono gr.n.gg _ h2
    have ek : (0 : Int) + (k : Int) = (k : Int) := by omega
    rw [ek]
    obtain ⟨acc3, e3, _⟩ := id gr.ex
    refine ⟨_, rfl, .inl ⟨rfl, _, SqL.of e3⟩, ?_⟩
    have cm : CMul (a.getD k m) (m + 1) := .inr ⟨by omega, by omega⟩
    have pick : ∀ {i : Nat} {c : List Int} {v : V} {σ : L2.St}, σ[i]? = some (some v) → σ[5]? = some (some (.int (k : Int))) → σ[3]? = some (some (.int m)) → Dp K Gi v (wD c) → EvD K (tIf (tTest (tOp (rI0 fun i j => V.bl (decide (i < j))) (tVar 5) (tCB (rLenQ K) (tCons (tVar i) tNil)))) (tOp (rIxT K) (tVar i) (tVar 5)) (tVar 3)) σ Gi (.int (c.getD k m)) := fun {i c v σ} hi h5 h3 hd => by
      have lc : (c.map PyData.int).length = c.length := List.length_map _
      refine ed_if (b := decide ((k : Int) < (c.length : Int))) (EvB.cast (eb_test (ed_op (ed_var (i := 5) h5 (.int (k : Int))) (EvD.cast (ed_cb (ea_cons (ed_var (i := i) hi hd) ea_nil) rcl_len) (congrArg (fun n : Nat => PyData.int (n : Int)) lc)) (ro_b (f := fun i j => decide (i < j))))) rfl) (fun z => ?_) fun z => ?_
      · have hka : k < c.length := by have := of_decide_eq_true z; omega
        refine ed_op (ed_var (i := i) hi hd) (ed_var (i := 5) h5 (.int (k : Int))) (ro_ixT (k := k) rfl ?_)
        rw [List.getElem?_map, List.getElem?_eq_getElem hka, List.getD_eq_getElem?_getD, List.getElem?_eq_getElem hka]; rfl
      · have hka : ¬ k < c.length := by have := of_decide_eq_false z; omega
        refine (ed_var (i := 3) h3 (.int m)).cast ?_
        rw [List.getD_eq_getElem?_getD, List.getElem?_eq_none (by omega)]; rfl
    refine (ed_op (K := K) (G := Gi) (σ := [some _, some _, some _, some (.int m), some (.ref p), some (.int (k : Int))]) (ed_op (pick (i := 1) rfl rfl rfl h1i) (ed_op (ed_var (i := 3) rfl (.int m)) ed_int ro_i) (ro_ic (f := fun i j => i * j) cm)) (pick (i := 2) rfl rfl rfl h2i) ro_i) Hc gr.n.gh _ fun v4 G4 H4 n4 hd4 => ?_
    have g4 := gr.step n4
    obtain ⟨acc4, e4, ha4⟩ := id g4.ex
    refine ⟨p, acc4, v4, rfl, rfl, e4, ?_, ⟨_, G4, rfl, ?_⟩⟩
    · have h1 := dpa_length ha4
      rw [List.length_map, List.length_map, List.length_range] at h1
      omega
    · rw [List.range_succ, List.map_append, List.map_append]
      exact g4.add hp hd4 e4
  · obtain ⟨y5, Gi, rfl, gr⟩ := hP
    obtain ⟨acc, e, hacc⟩ := gr.ex
    obtain ⟨m1, gi⟩ := gr.n.tell hp gr.g e
    exact (rd_ret (K := K) (G := upd Gi p (.lst acc)) (d := wD (prI m a b)) (ed_cb (ea_cons (ed_var (i := 4) rfl (.lst (SqL.of upd_same) (dpa_mono gi _ hacc))) ea_nil) rcl_tupleL)) Hc m1.gh D' fun v G2 H2 n2 hd => qq v G2 H2 (m1.trans n2) (by rw [hm]; exact hd)
def R_law_went : List PyData → PyData → Prop := fun ds d => ∃ (L : Nat) (ws : List (List (Option Nat))) (r : List Nat), ds = [.list (ws.map wayL), rowN r] ∧ 0 < ws.length ∧ (∀ w ∈ ws, WOk L ws.length w) ∧ (∀ i ∈ r, i < L) ∧ d = oD (goL ws (some 0) r)
theorem ok_law_went (D : DefAt K mg "_law_went" s_law_went P_law_went f fd) (T : Bt mg) : Ok P w K mg base "_law_went" P_law_went 1 (SpD K R_law_went) := by
  refine D.ok (okD D.F sc_law_went (fun ds d h => ?_) fun cdv A outer s H hr => ?_)
  · obtain ⟨L, ws, r, rfl, _⟩ := h; rfl
  have S := sc_law_went
  refine ⟨_, (pss_cons (ps_set (i := 2) S.nd rfl (by first | exact .inl rfl | exact .inr rfl) pe_int)
  (pss_cons (ps_for PassesOwn.never rfl (q_iT K rfl (pv 1)) (pg_name (i := 3) S.nd rfl (by first | exact .inl rfl | exact .inr rfl)) (pss_one (ps_set (i := 2) S.nd rfl (by first | exact .inl rfl | exact .inr rfl) (pe_ifExp (pt_cmpR op_isN (pv 2) pe_non (nomark _)) pe_non (pe_ix (q_ixL K rfl) (pe_ix (q_ixL K rfl) (pv 0) (pv 2) (fun _ _ => rfl)) (pv 3) (fun _ _ => rfl))))))
  (pss_one (ps_ret (pv 2))))), fun G ds d vs hR ha H0 hs D' qq _ => ?_⟩
  obtain ⟨L, ws, r, rfl, n1, W, hrL, rfl⟩ := hR
  obtain _ | ⟨h1, _ | ⟨h2, _ | _⟩⟩ := ha
  cases h2 with
  | @tup a xs _ hsq hxa =>
  have lx : xs.length = r.length := by rw [dpa_length hxa, List.length_map]
  refine seq_asg ?_
  refine ⟨_, rfl, a, rfl, ⟨xs, same_tup hs hsq⟩, for_it (walk_tup (K := K) (a := a) (xs := xs)) (fun j σ Hc => ∃ v2 y3 Gi o, σ = [some _, some (.ref a), some v2, y3] ∧ Nx G H0 Gi Hc ∧ Dp K Gi v2 (oD o) ∧ goL ws o (r.drop j) = goL ws (some 0) r ∧ ∀ s, o = some s → s < ws.length) ⟨_, _, G, some 0, rfl, Nx.refl hs, .int 0, rfl, fun s e => by cases e; exact n1⟩ (fun j σ Hc _ hP => ?_) (fun j x σ Hc Hc' hj hP hy => ?_) fun σ Hc hP => ?_⟩
  · obtain ⟨_, _, Gi, _, _, n, _⟩ := hP
    exact same_tup (hs.trans n.hh) hsq
  · obtain ⟨v2, y3, Gi, o, rfl, n, hv2, hgo, hok⟩ := hP
    obtain ⟨rfl, hx⟩ := hy
    obtain ⟨dx, hdx, hd⟩ := dpa_get hxa hx
    rw [List.getElem?_map] at hdx
    obtain ⟨i, hi, rfl⟩ := Option.map_eq_some_iff.mp hdx
    have hjr : j < r.length := by omega
    have ei : r[j] = i := by rw [List.getElem?_eq_getElem hjr] at hi; exact Option.some.inj hi
    have hdrop : r.drop j = i :: r.drop (j + 1) := by rw [List.drop_eq_getElem_cons hjr, ei]
    rw [hdrop] at hgo
    have hx0 := dp_int hd
    subst hx0
    have hiL : i < L := hrL i (List.mem_of_getElem? hi)
    have h1i := dp_mono n.gg _ h1
    cases o with
    | none =>
      dsimp only [gName]
      refine asg_let (K := K) (G := Gi) (ed_if (b := true) (d := oD none) (eb_test (ed_op (ed_var (i := 2) rfl hv2) ed_non (fun G H s vx vy hx hy Q q => by rw [dp_non hx, dp_non hy]; exact ⟨rfl, q _ G H (Nx.refl s) (.bl _)⟩))) (fun _ => ed_non) (fun z => nomatch z)) n.gh fun v3 G3 H3 n3 hv3 => ⟨v3, _, G3, none, rfl, n.trans n3, hv3, hgo, fun s e => nomatch e⟩
    | some st =>
      have hst := hok st rfl
      have g1 : (ws.map wayL)[st]? = some (wayL (ws.getD st [])) := by
        rw [List.getElem?_map, List.getElem?_eq_getElem hst, List.getD_eq_getElem?_getD, List.getElem?_eq_getElem hst]; rfl
      have hwm : ws.getD st [] ∈ ws := by rw [List.getD_eq_getElem?_getD, List.getElem?_eq_getElem hst]; exact List.getElem_mem hst
      have Wk := W _ hwm
      have hil : i < (ws.getD st []).length := by rw [Wk.l]; exact hiL
      have g2 : ((ws.getD st []).map oD)[i]? = some (oD ((ws.getD st []).getD i none)) := getD_map hil
      dsimp only [gName]
      refine asg_let (K := K) (G := Gi) (ed_if (b := false) (d := oD ((ws.getD st []).getD i none)) (eb_test (ed_op (ed_var (i := 2) rfl hv2) ed_non (fun G H s vx vy hx hy Q q => by rw [dp_int hx, dp_non hy]; exact ⟨rfl, q _ G H (Nx.refl s) (.bl _)⟩))) (fun z => nomatch z) fun _ => ed_op (ed_op (ed_var (i := 0) rfl h1i) (ed_var (i := 2) rfl hv2) (ro_ixL (k := st) rfl g1)) (ed_var (i := 3) rfl (.int (i : Int))) (ro_ixL (k := i) rfl g2)) n.gh fun v3 G3 H3 n3 hv3 => ⟨v3, _, G3, _, rfl, n.trans n3, hv3, hgo, fun s e => ?_⟩
      refine Wk.s s ?_
      rw [← e]
      exact getD_mem hil
  · obtain ⟨v2, y3, Gi, o, rfl, n, hv2, hgo, hok⟩ := hP
    rw [lx, List.drop_length] at hgo
    have : o = goL ws (some 0) r := by rw [← hgo]; cases o <;> rfl
    subst this
    exact ⟨_, rfl, qq _ Gi Hc n hv2⟩
end
/-! ### machines drawn -/
section
variable {K : PySem.W.Frag} {TQ : List (Addr × Str)} {d l c : Addr} {G H G1 H1 : Hp}
theorem Mv.told {p : Addr} {xs : List V} (m : Mv K TQ d l c G H G1 H1) (h0 : H p = none) (g : G1 p = none) (e : H1 p = some (.lst xs)) (n1 : p ≠ d) (n2 : p ≠ l) (n3 : p ≠ c) : Mv K TQ d l c G H (upd G1 p (.lst xs)) H1 := by
  obtain ⟨v, s⟩ := Mv.tell m.vw m.tb g e n1 n2 n3
  exact ⟨v, m.tb, fun h => dp_mono s _ (m.dp h), fun h => s _ _ (m.is h), m.ls, fun h p1 p2 g1 => by
    rw [upd_ne (fun z => by rw [z, h0] at h; cases h)]; exact m.no h p1 p2 g1, fun n h => s _ _ (m.lv n h)⟩
theorem Gr.told {p q : Addr} {ds : List PyData} {o : HO} (r : Gr K d l c G H q ds) (hne : q ≠ p) (g : G p = none) : Gr K d l c (upd G p o) H q ds := by
  obtain ⟨acc, e, ha⟩ := r.ex
  exact ⟨(upd_ne hne).trans r.g, r.nd, r.nl, r.nc, acc, e, dpa_mono (fun b u z => by rw [upd_ne (ne_of_none z g)]; exact z) _ ha⟩
theorem Gr.off {p q : Addr} {ds : List PyData} {o : HO} (r : Gr K d l c G H q ds) (hne : q ≠ p) : Gr K d l c G (upd H p o) q ds := by
  obtain ⟨acc, e, ha⟩ := r.ex
  exact ⟨r.g, r.nd, r.nl, r.nc, acc, (upd_ne hne).trans e, ha⟩
theorem Mv.put {p : Addr} {ds es : List PyData} {xs : List V} (m : Mv K TQ d l c G H G1 H1) (h0 : H p = none) (r : Gr K d l c G1 H1 p ds) (ha : DpAll K G1 xs es) : Mv K TQ d l c G H G1 (upd H1 p (.lst xs)) ∧ Gr K d l c G1 (upd H1 p (.lst xs)) p es := by
  obtain ⟨r1, _, r3, r4⟩ := r.put m.vw m.tb ha
  exact ⟨⟨r3, r4, m.dp, m.is, fun h p1 p2 => by rw [upd_ne (fun z => by rw [z, h0] at h; cases h)]; exact m.ls h p1 p2, m.no, m.lv⟩, r1⟩
end
def spSk (K : PySem.W.Frag) : Sp := fun vs H Q _ => ∃ (G : Hp) (TQ : List (Addr × Str)) (d l c : Addr) (L m : Nat), vs = [.ref d, .int (L : Int), .int (m : Int)] ∧ Vw G H d l c ∧ Tabs TQ H ∧ 1 ≤ L ∧ L ≤ 169 ∧ 1 ≤ m ∧ m ≤ 4 ∧
  ∀ v G' H' ws es, MOk L ws es → ws.length ≤ 4 → Mv K TQ d l c G H G' H' → Dp K G' v (.tuple [.list (ws.map wayL), .list (nsD es)]) → Q v H'
section
variable {P : Program} {w : World} {K : PySem.W.Frag} {mg : Str → Option Value} {base : Heap} {f : Addr} {fd : FuncData}
theorem ok_law_machine_sketch (D : DefAt K mg "_law_machine_sketch" s_law_machine_sketch P_law_machine_sketch f fd) (T : Bt mg) (h__law_take : Ok P w K mg base "_law_take" P_law_take 2 spTake) (h__law_pick : Ok P w K mg base "_law_pick" P_law_pick 3 (spPick K)) : Ok P w K mg base "_law_machine_sketch" P_law_machine_sketch 4 (spSk K) := by
  refine D.ok (D.F.ok sc_law_machine_sketch (fun vs H Q E h => ?_) fun cdv A outer s H vs Q E hr h => ?_)
  · obtain ⟨G, TQ, d, l, c, L, m, rfl, _⟩ := h; rfl
  have S := sc_law_machine_sketch
  obtain ⟨G, TQ, d, l, c, L, m, rfl, vw, tb, hL1, hL4, hm1, hm4, q⟩ := h
  refine ⟨_, (pss_cons (ps_set (i := 3) S.nd rfl (by first | exact .inl rfl | exact .inr rfl) (pe_op op_add pe_int (pe_ok h__law_take (hr.mono (by decide)) (by rfl) (pa_cons (pv 0) (pa_cons (pv 2) pa_nil)))))
  (pss_cons (ps_set (i := 4) S.nd rfl (by first | exact .inl rfl | exact .inr rfl) (pe_lst pa_nil))
  (pss_cons (ps_for PassesOwn.never rfl (pi_range1 (by rfl) T.range (pa_cons (pv 3) pa_nil)) (pg_name (i := 5) S.nd rfl (by first | exact .inl rfl | exact .inr rfl)) (pss_one (ps_expr (pe_bm PySem.F.plainAttrs_list PySem.F.slot_list_append PySem.F.type_list_append mt_append (pv 4) (pa_cons (pe_lc (own := [("k", 6)]) (g := gName 6) (by rfl) S.nd  (pi_range1 (by rfl) T.range (pa_cons (pv 1) pa_nil)) (blkOk_by (N := N_law_machine_sketch) (sc := defScope s_law_machine_sketch) (by decide +kernel)) (fun _ _ _ _ _ => (pg_name (i := 6) S.nd rfl (by first | exact .inl rfl | exact .inr rfl))) (fun _ _ _ _ _ => pts_nil) (fun _ _ _ _ _ => (pe_ok h__law_pick (hr.mono (by decide)) (by rfl) (pa_cons (pv 0) (pa_cons (pe_lst (pa_cons pe_non (pa_cons (pe_ok h__law_take (hr.mono (by decide)) (by rfl) (pa_cons (pv 0) (pa_cons (pv 3) pa_nil))) (pa_cons (pe_ok h__law_take (hr.mono (by decide)) (by rfl) (pa_cons (pv 0) (pa_cons (pv 3) pa_nil))) pa_nil)))) pa_nil))))) pa_nil)))))
  (pss_one (ps_ret (pe_tup (pa_cons (pv 4) (pa_cons (pe_lc (own := [("state", 5)]) (g := gName 5) (by rfl) S.nd  (pi_range1 (by rfl) T.range (pa_cons (pv 3) pa_nil)) (blkOk_by (N := N_law_machine_sketch) (sc := defScope s_law_machine_sketch) (by decide +kernel)) (fun _ _ _ _ _ => (pg_name (i := 5) S.nd rfl (by first | exact .inl rfl | exact .inr rfl))) (fun _ _ _ _ _ => (pts_one (pt_cmpR op_eq (pe_ok h__law_take (hr.mono (by decide)) (by rfl) (pa_cons (pv 0) (pa_cons pe_int pa_nil))) pe_int (nomark _)))) (fun _ _ _ _ _ => (pv 5))) pa_nil)))))))), ?_⟩
  have big : 2000000 ≤ sizeLine := by decide
  refine ⟨_, rfl, _, rfl, d, l, c, (m : Int), rfl, vw.dr, by omega, by omega, fun k H1 hk0 hk1 n1 D1 => ⟨_, _, rfl, rfl, ?_⟩⟩
  obtain ⟨n, hn⟩ : ∃ n : Nat, (1 : Int) + k = (n : Int) := ⟨(1 + k).toNat, by omega⟩
  have hn' : (fun (i j : Int) => V.int (i + j)) 1 k = V.int (n : Int) := congrArg V.int hn
  rw [hn']
  have m1 := Mv.nd (K := K) vw tb n1 D1
  refine ⟨Nat.zero_le _, fun p hp => ?_⟩
  obtain ⟨gp, vp, sp⟩ := Gr.start (K := K) m1.vw hp
  have m2 := Mv.same (K := K) m1.vw m1.tb sp
  refine ⟨_, rfl, (n : Int), rfl, by omega, by omega, for_range (lo := 0) (n := (n : Int).toNat) (fun i σ Hc => ∃ y5 y6 Gi ws, σ = [some (.ref d), some (.int (L : Int)), some (.int (m : Int)), some (.int (n : Int)), some (.ref p), y5, y6] ∧ Mv K TQ d l c G H1 Gi Hc ∧ Gr K d l c Gi Hc p (ws.map wayL) ∧ ws.length = i ∧ ∀ w ∈ ws, WOk L n w) ⟨_, _, G, [], rfl, m2, gp, rfl, fun w z => nomatch z⟩ (fun i σ Hc hi hP => ?_) fun σ Hc hP => ?_⟩
  · obtain ⟨y5, y6, Gi, ws, rfl, mv, gr, lw, hw⟩ := hP
    dsimp only [gName]
    obtain ⟨acc, eacc, _⟩ := id gr.ex
    refine ⟨_, rfl, .inl ⟨rfl, _, SqL.of eacc⟩, ?_⟩
    refine ⟨_, rfl, (L : Int), rfl, by omega, by omega, fun q1 hq1 => ?_⟩
    obtain ⟨gq, vq, sq⟩ := Gr.start (K := K) mv.vw hq1
    have mq := Mv.same (K := K) mv.vw mv.tb sq
    have grq := gr.mv mq
    have hpq : p ≠ q1 := fun z => by rw [z, hq1] at eacc; cases eacc
    refine lc_range (lo := 0) (n := (L : Int).toNat) (fun k Hd => ∃ w : List (Option Nat), Mv K TQ d l c Gi Hc Gi Hd ∧ Gr K d l c Gi Hd p (ws.map wayL) ∧ Gr K d l c Gi Hd q1 (w.map oD) ∧ w.length = k ∧ ∀ s, some s ∈ w → s < n) ⟨[], mq, grq, gq, rfl, fun s z => nomatch z⟩ (fun k Hd hk hP => ?_) fun Hd hP => ?_
    · obtain ⟨w, mw, gw, gqw, lw2, hs⟩ := hP
      refine ⟨rfl, tyes ?_⟩
      refine ⟨_, rfl, ?_⟩
      refine ⟨_, rfl, _, rfl, d, l, c, (n : Int), rfl, mw.vw.dr, by omega, by omega, fun a H3 ha0 ha1 n3 D3 => ?_⟩
      refine ⟨_, rfl, _, rfl, d, l, c, (n : Int), rfl, D3, by omega, by omega, fun b H4 hb0 hb1 n4 D4 => ?_⟩
      refine ⟨by show 3 ≤ sizeLine; omega, fun t ht => ?_⟩
      obtain ⟨t1, t2, t3⟩ := D4.off ht
      have D4' := D4.upd (o := .lst [.non, .int a, .int b]) t1 t2 t3
      refine ⟨d, l, c, t, _, rfl, D4', t2, SqL.of upd_same, by show 0 < 3; omega, by show 3 < 1000000; omega, fun v H5 hv n5 D5 => ?_⟩
      obtain ⟨o, ho, hso⟩ : ∃ o : Option Nat, Dp K Gi v (oD o) ∧ ∀ s, o = some s → s < n := by
        have ia : (a.toNat : Int) = a := by omega
        have ib : (b.toNat : Int) = b := by omega
        rcases List.mem_cons.mp hv with rfl | hv
        · exact ⟨none, .non, fun s z => nomatch z⟩
        rcases List.mem_cons.mp hv with rfl | hv
        · exact ⟨some a.toNat, by show Dp K Gi (.int a) (.int (a.toNat : Int)); rw [ia]; exact .int a, fun s z => by cases z; omega⟩
        · rw [List.mem_singleton.mp hv]
          exact ⟨some b.toNat, by show Dp K Gi (.int b) (.int (b.toNat : Int)); rw [ib]; exact .int b, fun s z => by cases z; omega⟩
      have n45 := ((n3.trans n4).trans (Nd.of (same_upd ht))).trans n5
      have m5' := Mv.nd (K := K) mw.vw mw.tb n45 D5
      have m5 := mw.trans m5'
      have g5 := gw.mv m5'
      have gq5 := gqw.mv m5'
      obtain ⟨acq, eq, aq⟩ := id gq5.ex
      obtain ⟨mf, gf⟩ := m5.put hq1 gq5 (dpa_append aq (.cons ho .nil))
      refine ⟨acq, eq, ?_, w ++ [o], mf, g5.off hpq, ?_, ?_, fun s hsm => ?_⟩
      · have := dpa_length aq
        rw [List.length_map, lw2] at this
        omega
      · rw [List.map_append]; exact gf
      · rw [List.length_append, lw2]; rfl
      · rcases List.mem_append.mp hsm with z | z
        · exact hs s z
        · exact hso s (List.mem_singleton.mp z).symm
    · obtain ⟨w, mw, gw, gqw, lw2, hs⟩ := hP
      obtain ⟨acq, eq, aq⟩ := id gqw.ex
      have mt := mw.told hq1 gqw.g eq gqw.nd gqw.nl gqw.nc
      have gt := gw.told (o := .lst acq) hpq gqw.g
      have sg : Same Gi (upd Gi q1 (.lst acq)) := fun b u z => by rw [upd_ne (ne_of_none z gqw.g)]; exact z
      have dq : Dp K (upd Gi q1 (.lst acq)) (.ref q1) (wayL w) := .lst (SqL.of upd_same) (dpa_mono sg _ aq)
      obtain ⟨ac2, e2, a2⟩ := id gt.ex
      obtain ⟨mf, gf⟩ := (mv.trans mt).put hp gt (dpa_append a2 (.cons dq .nil))
      refine ⟨p, ac2, _, rfl, rfl, e2, ?_, ⟨_, _, _, ws ++ [w], rfl, mf, ?_, ?_, fun x hx => ?_⟩⟩
      · have := dpa_length a2
        rw [List.length_map, lw] at this
        omega
      · rw [List.map_append]; exact gf
      · rw [List.length_append, lw]; rfl
      · rcases List.mem_append.mp hx with z | z
        · exact hw x z
        · rw [List.mem_singleton.mp z]
          exact ⟨by omega, hs⟩
  · obtain ⟨y5, y6, Gi, ws, rfl, mv, gr, lw, hw⟩ := hP
    obtain ⟨acc, eacc, _⟩ := id gr.ex
    refine ⟨_, rfl, ?_⟩
    refine ⟨_, rfl, (n : Int), rfl, by omega, by omega, fun p2 hp2 => ?_⟩
    obtain ⟨gq, vq, sq⟩ := Gr.start (K := K) mv.vw hp2
    have mq := Mv.same (K := K) mv.vw mv.tb sq
    have grq := gr.mv mq
    have hpq : p ≠ p2 := fun z => by rw [z, hp2] at eacc; cases eacc
    refine lc_range (lo := 0) (n := (n : Int).toNat) (fun k Hd => ∃ es : List Nat, Mv K TQ d l c Gi Hc Gi Hd ∧ Gr K d l c Gi Hd p (ws.map wayL) ∧ Gr K d l c Gi Hd p2 (nsD es) ∧ es.Pairwise (· < ·) ∧ (∀ e ∈ es, e < k) ∧ es.length ≤ k) ⟨[], mq, grq, gq, List.Pairwise.nil, (fun e z => nomatch z), Nat.le_refl _⟩ (fun k Hd hk hP => ?_) fun Hd hP => ?_
    · obtain ⟨es, mw, gw, ge, pw, le, ln⟩ := hP
      refine ⟨rfl, ?_⟩
      refine ⟨_, rfl, d, l, c, 2, rfl, mw.vw.dr, by decide, by decide, fun a H3 ha0 ha1 n3 D3 => ⟨rfl, _, rfl, ?_⟩⟩
      have m5' := Mv.nd (K := K) mw.vw mw.tb n3 D3
      have m5 := mw.trans m5'
      have g5 := gw.mv m5'
      have gq5 := ge.mv m5'
      generalize decide (V.int a = V.int 0) = bb
      cases bb with
      | false => exact iteF ⟨es, m5, g5, gq5, pw, fun e he => Nat.lt_succ_of_lt (le e he), Nat.le_succ_of_le ln⟩
      | true =>
        refine iteT ?_
        obtain ⟨acq, eq, aq⟩ := id gq5.ex
        have ek : (0 : Int) + (k : Int) = (k : Int) := by omega
        obtain ⟨mf, gf⟩ := m5.put hp2 gq5 (dpa_append aq (.cons (K := K) (.int (k : Int)) .nil))
        refine ⟨_, rfl, acq, eq, ?_, es ++ [k], ?_, ?_, ?_, ?_, fun e he => ?_, ?_⟩
        · have := dpa_length aq
          rw [List.length_map] at this
          omega
        · rw [ek]; exact mf
        · rw [ek]; exact g5.off hpq
        · rw [ek, show nsD (es ++ [k]) = nsD es ++ [PyData.int (k : Int)] from List.map_append]; exact gf
        · rw [List.pairwise_append]
          exact ⟨pw, List.pairwise_singleton _ _, fun a ha b hb => by rw [List.mem_singleton.mp hb]; exact le a ha⟩
        · rcases List.mem_append.mp he with z | z
          · exact Nat.lt_succ_of_lt (le e z)
          · rw [List.mem_singleton.mp z]; exact Nat.lt_succ_self _
        · rw [List.length_append, List.length_singleton]; omega
    · obtain ⟨es, mw, gw, ge, pw, le, ln⟩ := hP
      obtain ⟨ac2, e2, a2⟩ := id ge.ex
      have mt := mw.told hp2 ge.g e2 ge.nd ge.nl ge.nc
      have gt := gw.told (o := .lst ac2) hpq ge.g
      have s2 : Same Gi (upd Gi p2 (.lst ac2)) := fun b u z => by rw [upd_ne (ne_of_none z ge.g)]; exact z
      obtain ⟨ac3, e3, a3⟩ := id gt.ex
      have mu := (mv.trans mt).told hp gt.g e3 gt.nd gt.nl gt.nc
      have s3 : Same (upd Gi p2 (.lst ac2)) (upd (upd Gi p2 (.lst ac2)) p (.lst ac3)) := fun b u z => by rw [upd_ne (ne_of_none z gt.g)]; exact z
      refine ⟨by show 2 ≤ sizeLine; omega, fun t ht => ?_⟩
      have nt := Nx.new (o := .tup [.ref p, .ref p2]) mu.vw.gh ht
      have mt2 := mu.trans (Mv.nx (K := K) mu.vw mu.tb nt)
      have d1 : Dp K (upd (upd Gi p2 (.lst ac2)) p (.lst ac3)) (.ref p) (.list (ws.map wayL)) := .lst (SqL.of upd_same) (dpa_mono s3 _ a3)
      have d2 : Dp K (upd (upd Gi p2 (.lst ac2)) p (.lst ac3)) (.ref p2) (.list (nsD es)) := dp_mono s3 _ (.lst (SqL.of upd_same) (dpa_mono s2 _ a2))
      refine q _ _ _ ws es ⟨hL1, by omega, by omega, by omega, fun x hx => ?_, fun e he => ?_, fun i hi => ?_, by omega⟩ (by omega) (m1.trans mt2) (.tup (SqT.of upd_same) (.cons (dp_mono nt.gg _ d1) (.cons (dp_mono nt.gg _ d2) .nil)))
      · rw [lw, Int.toNat_natCast]; exact hw x hx
      · rw [lw]; exact le e he
      · rw [List.getD_eq_getElem?_getD, List.getElem?_eq_getElem (by omega), List.getD_eq_getElem?_getD, List.getElem?_eq_getElem hi]
        exact List.pairwise_iff_getElem.mp pw i (i + 1) (by omega) hi (by omega)
end
end Gw
namespace Gw
open PySem PySem.Spec PyProof.Rows L2 LamX
/-! ### the state behind a row -/
theorem goL_none (ws : List (List (Option Nat))) : ∀ r : List Nat, goL ws none r = none
  | [] => rfl
  | i :: r => goL_none ws r
section
variable {P : Program} {w : World} {K : PySem.W.Frag} {mg : Str → Option Value} {base : Heap} {f : Addr} {fd : FuncData}
def R_state_behind : List PyData → PyData → Prop := fun ds d => ∃ (L : Nat) (ws : List (List (Option Nat))) (r : List Nat), ds = [.tuple (ws.map wayT), .int 0, rowN r] ∧ 0 < ws.length ∧ (∀ w ∈ ws, WOk L ws.length w) ∧ (∀ i ∈ r, i < L) ∧ d = oD (goL ws (some 0) r)
theorem ok_state_behind (D : DefAt K mg "state_behind" s_state_behind P_state_behind f fd) (T : Bt mg) : Ok P w K mg base "state_behind" P_state_behind 1 (SpD K R_state_behind) := by
  refine D.ok (okD D.F sc_state_behind (fun ds d h => ?_) fun cdv A outer s H hr => ?_)
  · obtain ⟨L, ws, r, rfl, _⟩ := h; rfl
  have S := sc_state_behind
  refine ⟨_, (pss_cons (ps_for PassesOwn.never rfl (q_iT K rfl (pv 2)) (pg_name (i := 3) S.nd rfl (by first | exact .inl rfl | exact .inr rfl)) (pss_cons (ps_if (pt_cmpR op_isN (pv 1) pe_non (nomark _)) (pss_one (ps_ret pe_non)) pss_nil)
  (pss_one (ps_set (i := 1) S.nd rfl (by first | exact .inl rfl | exact .inr rfl) (pe_ix (q_ixT K rfl) (pe_ix (q_ixT K rfl) (pv 0) (pv 1) (fun _ _ => rfl)) (pv 3) (fun _ _ => rfl))))))
  (pss_one (ps_ret (pv 1)))), fun G ds d vs hR ha H0 hs D' qq _ => ?_⟩
  obtain ⟨L, ws, r, rfl, n1, W, hrL, rfl⟩ := hR
  obtain _ | ⟨h1, _ | ⟨h0, _ | ⟨h2, _ | _⟩⟩⟩ := ha
  cases h2 with
  | @tup a xs _ hsq hxa =>
  have lx : xs.length = r.length := by rw [dpa_length hxa, List.length_map]
  refine ⟨_, rfl, a, rfl, ⟨xs, same_tup hs hsq⟩, for_it (walk_tup (K := K) (a := a) (xs := xs)) (fun j σ Hc => ∃ v2 y3 Gi o, σ = [some _, some v2, some (.ref a), y3] ∧ Nx G H0 Gi Hc ∧ Dp K Gi v2 (oD o) ∧ goL ws o (r.drop j) = goL ws (some 0) r ∧ ∀ s, o = some s → s < ws.length) ⟨_, _, G, some 0, rfl, Nx.refl hs, h0, rfl, fun s e => by cases e; exact n1⟩ (fun j σ Hc _ hP => ?_) (fun j x σ Hc Hc' hj hP hy => ?_) fun σ Hc hP => ?_⟩
  · obtain ⟨_, _, Gi, _, _, n, _⟩ := hP
    exact same_tup (hs.trans n.hh) hsq
  · obtain ⟨v2, y3, Gi, o, rfl, n, hv2, hgo, hok⟩ := hP
    obtain ⟨rfl, hx⟩ := hy
    obtain ⟨dx, hdx, hd⟩ := dpa_get hxa hx
    rw [List.getElem?_map] at hdx
    obtain ⟨i, hi, rfl⟩ := Option.map_eq_some_iff.mp hdx
    have hjr : j < r.length := by omega
    have ei : r[j] = i := by rw [List.getElem?_eq_getElem hjr] at hi; exact Option.some.inj hi
    have hdrop : r.drop j = i :: r.drop (j + 1) := by rw [List.drop_eq_getElem_cons hjr, ei]
    rw [hdrop] at hgo
    have hx0 := dp_int hd
    subst hx0
    have hiL : i < L := hrL i (List.mem_of_getElem? hi)
    have h1i := dp_mono n.gg _ h1
    cases o with
    | none =>
      have e0 : goL ws (some 0) r = none := by rw [← hgo]; exact goL_none ws _
      dsimp only [gName]
      refine seq_ifB (K := K) (G := Gi) (b := true) (eb_test (ed_op (ed_var (i := 1) rfl hv2) ed_non (fun G H s vx vy hx hy Q q => by rw [dp_non hx, dp_non hy]; exact ⟨rfl, q _ G H (Nx.refl s) (.bl _)⟩))) n.gh (fun _ G1 H1 m1 => ?_) fun z => nomatch z
      refine (rd_ret (K := K) (G := G1) (d := .none) ed_non) H1 m1.gh _ fun v G2 H2 m2 hd2 => qq v G2 H2 ((n.trans m1).trans m2) ?_
      rw [e0]; exact hd2
    | some st =>
      have hst := hok st rfl
      have g1 : (ws.map wayT)[st]? = some (wayT (ws.getD st [])) := by
        rw [List.getElem?_map, List.getElem?_eq_getElem hst, List.getD_eq_getElem?_getD, List.getElem?_eq_getElem hst]; rfl
      have hwm : ws.getD st [] ∈ ws := by rw [List.getD_eq_getElem?_getD, List.getElem?_eq_getElem hst]; exact List.getElem_mem hst
      have Wk := W _ hwm
      have hil : i < (ws.getD st []).length := by rw [Wk.l]; exact hiL
      have g2 : ((ws.getD st []).map oD)[i]? = some (oD ((ws.getD st []).getD i none)) := getD_map hil
      dsimp only [gName]
      refine seq_ifB (K := K) (G := Gi) (b := false) (eb_test (ed_op (ed_var (i := 1) rfl hv2) ed_non (fun G H s vx vy hx hy Q q => by rw [dp_int hx, dp_non hy]; exact ⟨rfl, q _ G H (Nx.refl s) (.bl _)⟩))) n.gh (fun z => nomatch z) fun _ G1 H1 m1 => ?_
      refine asg_let (K := K) (G := G1) (d := oD ((ws.getD st []).getD i none)) (ed_op (ed_op (ed_var (i := 0) rfl (dp_mono m1.gg _ h1i)) (ed_var (i := 1) rfl (dp_mono m1.gg _ hv2)) (ro_ixT (k := st) rfl g1)) (ed_var (i := 3) rfl (.int (i : Int))) (ro_ixT (k := i) rfl g2)) m1.gh fun v3 G3 H3 n3 hv3 => ⟨v3, _, G3, _, rfl, (n.trans m1).trans n3, hv3, hgo, fun s e => ?_⟩
      refine Wk.s s ?_
      rw [← e]
      exact getD_mem hil
  · obtain ⟨v2, y3, Gi, o, rfl, n, hv2, hgo, hok⟩ := hP
    rw [lx, List.drop_length] at hgo
    have : o = goL ws (some 0) r := by rw [← hgo]; cases o <;> rfl
    subst this
    exact ⟨_, rfl, qq _ Gi Hc n hv2⟩
end
end Gw
namespace Gw
open PySem PySem.Spec PyProof.Rows L2 LamX
/-! ### what is a machine of some letters -/
theorem look_letters {a b c : V} : (mF a b c).lookup (("letters" : Str)) = some a := by
  unfold mF
  simp [List.lookup]
/-- what is of another class -/
def TyF (K : PySem.W.Frag) (C : Addr) (G : Hp) (v : V) : Prop := ∃ ty, (∀ H, Same G H → TyX K H v ty) ∧ PySem.W.kitOne K ty (.ref C) = some false
def spMO (K : PySem.W.Frag) (CM : Addr) : Sp := fun vs H Q _ => ∃ (G : Hp) (n : Int) (v : V), Same G H ∧ vs = [.int n, v] ∧
  ((∃ g L ws es, v = .ref g ∧ MacAt K CM G g L ws es ∧ ∀ G' H', Nx G H G' H' → Q (.bl (decide ((L : Int) = n))) H') ∨ (TyF K CM G v ∧ ∀ G' H', Nx G H G' H' → Q (.bl false) H'))
section
variable {P : Program} {w : World} {K : PySem.W.Frag} {mg : Str → Option Value} {base : Heap} {f : Addr} {fd : FuncData} {CM : Addr}
theorem ok_is_machine_of (D : DefAt K mg "is_machine_of" s_is_machine_of P_is_machine_of f fd) (T : Bt mg) (g_Machine : mg "Machine" = some (.ref CM)) (O : OwnC K CM) (nl : NoAttr K CM "letters") : Ok P w K mg base "is_machine_of" P_is_machine_of 1 (spMO K CM) := by
  refine D.ok (D.F.ok sc_is_machine_of (fun vs H Q E h => ?_) fun cdv A outer s H vs Q E hr h => ?_)
  · obtain ⟨G, n, v, _, rfl, _⟩ := h; rfl
  have S := sc_is_machine_of
  obtain ⟨G, n, v, hs, rfl, h⟩ := h
  refine ⟨_, (pss_one (ps_ret (pe_and (pe_callB (q_isi K rfl) (by rfl) T.isinstance (by decide +kernel) (pa_cons (pv 1) (pa_cons (pe_glob (v := .ref CM) (by rfl) g_Machine rfl) pa_nil))) (pe_one (pe_cmpR (q_eqD K rfl hr.units) (pe_fld (pv 1) rfl) (pv 0) (nomark _)))))), ?_⟩
  rcases h with ⟨g, L, ws, es, rfl, ⟨dx, v1, v2, v3, h0, h1, h2, h3⟩, q⟩ | ⟨⟨ty, h1, h2⟩, q⟩
  · refine (rd_ret (K := K) (G := G) (d := .bool (decide ((L : Int) = n))) (EvD.cast (ed_and (a := true) (b := decide ((L : Int) = n)) (ed_isiC (i := 1) (σ := L2.start N_is_machine_of [.int n, .ref g]) rfl (fun H s => O.tyx (s _ _ h0)) O.me) fun _ => EvD.cast (ed_op (ed_fld (i := 1) rfl h0 O.cl nl look_letters h1) (ed_var (i := 0) rfl (.int n)) (ro_eqD (shaped_int _) (shaped_int _))) (by rw [PyData.eqv]; by_cases z : (L : Int) = n <;> simp [z])) rfl)) H hs _ fun v G1 H1 n1 hd => ?_
    rw [dp_bl hd]; exact q G1 H1 n1
  · refine (rd_ret (K := K) (G := G) (d := .bool false) (EvD.cast (ed_and (a := false) (b := true) (ed_isiC (i := 1) (σ := L2.start N_is_machine_of [.int n, v]) rfl h1 h2) fun z => nomatch z) rfl)) H hs _ fun v G1 H1 n1 hd => ?_
    rw [dp_bl hd]; exact q G1 H1 n1
end
end Gw
namespace Gw
open PySem PySem.Spec PyProof.Rows L2 LamX
/-! ### what is a list, of lists of things too -/
def spIsLG (K : PySem.W.Frag) : Sp := fun vs H Q _ => ∃ (G : Hp) (v : V) (ty : Value) (b : Bool), Same G H ∧ vs = [v] ∧ (∀ H, Same G H → TyX K H v ty) ∧ PySem.W.kitAny K ty [.type "list", .type "tuple"] = some b ∧ ∀ G' H', Nx G H G' H' → Q (.bl b) H'
section
variable {P : Program} {w : World} {K : PySem.W.Frag} {mg : Str → Option Value} {base : Heap} {f : Addr} {fd : FuncData} {CG CM CC : Addr}
theorem ok_is_listG (D : DefAt K mg "is_list" s_is_list P_is_list f fd) (T : Bt mg) : Ok P w K mg base "is_list" P_is_list 1 (spIsLG K) := by
  refine D.ok (D.F.ok sc_is_list (fun vs H Q E h => ?_) fun cdv A outer s H vs Q E hr h => ?_)
  · obtain ⟨G, v, ty, b, _, rfl, _⟩ := h; rfl
  have S := sc_is_list
  obtain ⟨G, v, ty, b, hs, rfl, ht, hk, q⟩ := h
  refine ⟨_, (pss_one (ps_ret (pe_callB (q_isiT K rfl) (by rfl) T.isinstance (by decide +kernel) (pa_cons (pv 0) (pa_cons (pe_tup (pa_cons (pe_bltn (v := .ty "list") (by rfl) T.list (by decide +kernel) rfl) (pa_cons (pe_bltn (v := .ty "tuple") (by rfl) T.tuple (by decide +kernel) rfl) pa_nil))) pa_nil))))), ?_⟩
  have ed : EvD K (tCB (rIsiT K) (tCons (tVar 0) (tCons (tTup (tCons (tC (.ty "list")) (tCons (tC (.ty "tuple")) tNil))) tNil))) (L2.start N_is_list [v]) G (.bool b) := fun H s Q q => by
    refine ⟨v, rfl, by show 2 ≤ sizeLine; decide, fun tp htp => ?_⟩
    have n := Nx.lay (o := .tup [.ty "list", .ty "tuple"]) s htp
    exact ⟨v, tp, [.ty "list", .ty "tuple"], ty, [.type "list", .type "tuple"], _, rfl, upd_same, .cons (.ty "list") (.cons (.ty "tuple") .nil), ht _ n.gh, hk, q _ _ _ n (.bl _)⟩
  exact (rd_ret (K := K) (d := .bool b) ed) H hs _ fun u G' H' n1 hd => by rw [dp_bl hd]; exact q G' H' n1
theorem lst_ty {G : Hp} {p : Addr} {xs : List V} (h : G p = some (.lst xs)) : ∀ H, Same G H → TyX K H (.ref p) (.type "list") := fun H s => .base (.lst (s _ _ h))
theorem tup_ty {G : Hp} {p : Addr} {xs : List V} (h : G p = some (.tup xs)) : ∀ H, Same G H → TyX K H (.ref p) (.type "tuple") := fun H s => .base (.tup (s _ _ h))
theorem lst_is : PySem.W.kitAny K (.type "list") [.type "list", .type "tuple"] = some true := kit_lt (K := K) (.list [])
theorem tup_is : PySem.W.kitAny K (.type "tuple") [.type "list", .type "tuple"] = some true := kit_lt (K := K) (.tuple [])
end
end Gw
namespace Gw
open PySem PySem.Spec PyProof.Rows L2 LamX
/-! ### what are nears -/
section
variable {K : PySem.W.Frag} {σ : L2.St} {G : Hp} {tl te : TE} {i : Nat} {vs : List Nat}
/-- over the things of a list, each judged -/
theorem en_lcTh {p : Addr} {xs : List V} {ds : List PyData} {j : Nat} (hj : σ[j]? = some (some (.ref p))) (hp : G p = some (.lst xs) ∨ G p = some (.tup xs)) (ld : ds.length = xs.length) (hw : ∀ v, wipe ((wipe σ vs).set i (some v)) vs = wipe σ vs) (hz : xs.length ≤ sizeLine)
    (he : ∀ (k : Nat) v d Gi, xs[k]? = some v → ds[k]? = some d → Same G Gi → EvD K te ((wipe σ vs).set i (some v)) Gi d) : EvN K (tLc (iE K (tVar j)) (gName i) tYes te vs) σ G ds := fun H s Q q => by
  have turn : ∀ (D : Addr), H D = none → ∀ (k : Nat) x Hc, xs[k]? = some x → LcI K G H D (ds.take k) Hc → wipe ((wipe σ vs).set i (some x)) vs = wipe σ vs ∧ tYes ((wipe σ vs).set i (some x)) Hc fun b H3 => if b = true then te ((wipe σ vs).set i (some x)) H3 fun y H4 => ∃ acc, H4 D = some (.lst acc) ∧ acc.length < sizeLine ∧ LcI K G H D (ds.take (k + 1)) (upd H4 D (.lst (acc ++ [y]))) else LcI K G H D (ds.take (k + 1)) H3 := fun D hD k x Hc hk pI => by
    have hkl := (List.getElem?_eq_some_iff.mp hk).1
    obtain ⟨d, hd⟩ : ∃ d, ds[k]? = some d := ⟨_, List.getElem?_eq_getElem (by omega)⟩
    refine ⟨hw x, ?_⟩
    refine LcI.turn (b := true) (e := d) hD pI (by rw [List.length_take]; omega) (fun Gi g => eb_yes) (fun _ Gi g => he k x d Gi hk hd g) fun H' p' => ?_
    rw [List.take_succ, hd]
    exact p'
  have fin : ∀ (D : Addr), H D = none → ∀ Hc, LcI K G H D (ds.take xs.length) Hc → Q (.ref D) Hc := fun D hD Hc pI => by
    rw [← ld, List.take_length] at pI
    exact pI.finN (Nx.refl s) hD q
  rcases hp with hp | hp
  · refine .inl ⟨_, hj, p, rfl, ⟨xs, SqL.of (s _ _ hp)⟩, fun D hD => ?_⟩
    exact lc_list (K := K) (a := p) (xs := xs) (fun k Hc => LcI K G H D (ds.take k) Hc) (LcI.start s hD) (fun k Hc _ pI => by
      obtain ⟨Gi, acc, n, _⟩ := pI.ex
      exact n.hh.seq (SqL.of (s _ _ hp))) (fun k x Hc hk pI => turn D hD k x Hc hk pI) fun Hc pI => fin D hD Hc pI
  · refine .inr ⟨_, hj, p, rfl, ⟨xs, SqT.of (s _ _ hp)⟩, fun D hD => ?_⟩
    exact lc_tup (K := K) (a := p) (xs := xs) (fun k Hc => LcI K G H D (ds.take k) Hc) (LcI.start s hD) (fun k Hc _ pI => by
      obtain ⟨Gi, acc, n, _⟩ := pI.ex
      exact same_tup n.hh (SqT.of (s _ _ hp))) (fun k x Hc hk pI => turn D hD k x Hc hk pI) fun Hc pI => fin D hD Hc pI
end
end Gw
namespace Gw
open PySem PySem.Spec PyProof.Rows L2 LamX
/-! ### nears, judged -/
def JM (K : PySem.W.Frag) (CM : Addr) (G : Hp) (n : Int) (v : V) (b : Bool) : Prop := (∃ g L ws es, v = .ref g ∧ MacAt K CM G g L ws es ∧ b = decide ((L : Int) = n)) ∨ (TyF K CM G v ∧ b = false)
def spAN (K : PySem.W.Frag) (CM : Addr) : Sp := fun vs H Q _ => ∃ (G : Hp) (m : Nat) (v : V), Same G H ∧ vs = [.int (m : Int), v] ∧ m ≤ 12 ∧
  ((∃ ty, (∀ H, Same G H → TyX K H v ty) ∧ PySem.W.kitAny K ty [.type "list", .type "tuple"] = some false ∧ ∀ G' H', Nx G H G' H' → Q (.bl false) H') ∨
   (∃ (p : Addr) (xs : List V) (bs : List Bool), v = .ref p ∧ (G p = some (.lst xs) ∨ G p = some (.tup xs)) ∧ xs.length ≤ 100 ∧ bs.length = xs.length ∧ (∀ (k : Nat) v b, xs[k]? = some v → bs[k]? = some b → JM K CM G (((m + 1) ^ 2 : Nat) : Int) v b) ∧ ∀ G' H', Nx G H G' H' → Q (.bl (decide (xs.length = m + 1) && bs.all id)) H'))
theorem TyF.mono {K : PySem.W.Frag} {C : Addr} {G G' : Hp} {v : V} (h : TyF K C G v) (s : Same G G') : TyF K C G' v := by
  obtain ⟨ty, h1, h2⟩ := h
  exact ⟨ty, fun H s2 => h1 H (s.trans s2), h2⟩
section
variable {P : Program} {w : World} {K : PySem.W.Frag} {mg : Str → Option Value} {base : Heap} {f : Addr} {fd : FuncData} {CM : Addr}
theorem ok_are_nears (D : DefAt K mg "are_nears" s_are_nears P_are_nears f fd) (T : Bt mg) (h_is_list : Ok P w K mg base "is_list" P_is_list 1 (spIsLG K)) (h_is_machine_of : Ok P w K mg base "is_machine_of" P_is_machine_of 1 (spMO K CM)) : Ok P w K mg base "are_nears" P_are_nears 2 (spAN K CM) := by
  refine D.ok (D.F.ok sc_are_nears (fun vs H Q E h => ?_) fun cdv A outer s H vs Q E hr h => ?_)
  · obtain ⟨G, m, v, _, rfl, _⟩ := h; rfl
  have S := sc_are_nears
  obtain ⟨G, m, v, hs, rfl, m12, h⟩ := h
  refine ⟨_, (pss_cons (ps_if (PW.pt (pw_or (pt_not (pt_val (pe_ok h_is_list (hr.mono (by decide)) (by rfl) (pa_cons (pv 1) pa_nil)))) (pw_or1 (pt_cmpR op_ne (pe_callB (q_len K rfl) (by rfl) T.len PySem.boot_len (pa_cons (pv 1) pa_nil)) (pe_op op_add (pv 0) pe_int) (nomark _))))) (pss_one (ps_ret pe_bl)) pss_nil)
  (pss_one (ps_ret (pe_callB (q_all K rfl rfl) (by rfl) T.all (by decide +kernel) (pa_cons (pe_lc (own := [("near", 2)]) (g := gName 2) (by rfl) S.nd  (q_iE K rfl (pv 1)) (blkOk_by (N := N_are_nears) (sc := defScope s_are_nears) (by decide +kernel)) (fun _ _ _ _ _ => (pg_name (i := 2) S.nd rfl (by first | exact .inl rfl | exact .inr rfl))) (fun _ _ _ _ _ => pts_nil) (fun _ _ _ _ _ => (pe_ok h_is_machine_of (hr.mono (by decide)) (by rfl) (pa_cons (pe_op op_pow (pe_op op_add (pv 0) pe_int) pe_int) (pa_cons (pv 2) pa_nil))))) pa_nil))))), ?_⟩
  have big : 2000000 ≤ sizeLine := by decide
  rcases h with ⟨ty, h1, h2, q⟩ | ⟨p, xs, bs, rfl, hp, lx, lb, hj, q⟩
  · refine (rd_seqIf (K := K) (G := G) (d := .bool false) (b := true) (EvB.cast (eb_or (a := true) (b := true) (EvB.cast (eb_not (b := false) (eb_B fun H s Q q => ⟨v, rfl, G, v, ty, false, s, rfl, h1, h2, fun G' H' n => q _ G' H' n (.bl _)⟩)) rfl) fun z => nomatch z) rfl) (fun _ => rd_ret ed_bl) fun z => nomatch z) H hs _ fun v G1 H1 n1 hd => ?_
    rw [dp_bl hd]; exact q G1 H1 n1
  · obtain ⟨ty, hty, hk⟩ : ∃ ty, (∀ H, Same G H → TyX K H (.ref p) ty) ∧ PySem.W.kitAny K ty [.type "list", .type "tuple"] = some true := by
      rcases hp with e | e
      · exact ⟨_, lst_ty e, lst_is⟩
      · exact ⟨_, tup_ty e, tup_is⟩
    have hsq : ∀ H, Same G H → SqL K H p xs ∨ SqT K H p xs := fun H s => hp.imp (fun e => SqL.of (s _ _ e)) fun e => SqT.of (s _ _ e)
    have pw : CPow ((m : Int) + 1) 2 := ⟨by decide, by decide, by omega⟩
    have epw : ((m : Int) + 1) ^ (2 : Int).toNat = (((m + 1) ^ 2 : Nat) : Int) := by
      show ((m : Int) + 1) ^ 2 = _
      rw [Int.natCast_pow]
      rfl
    refine (rd_seqIf (K := K) (G := G) (d := .bool (decide (xs.length = m + 1) && bs.all id)) (b := !decide ((xs.length : Int) = (m : Int) + 1)) (EvB.cast (eb_or (a := false) (EvB.cast (eb_not (b := true) (eb_B fun H s Q q => ⟨_, rfl, G, .ref p, ty, true, s, rfl, hty, hk, fun G' H' n => q _ G' H' n (.bl _)⟩)) rfl) fun _ => eb_test (ed_op (x := .int (xs.length : Int)) (fun H s Q q => ⟨_, rfl, p, xs, rfl, hsq H s, q _ G H (Nx.refl s) (.int _)⟩) (ed_op (ed_var (i := 0) rfl (.int (m : Int))) ed_int ro_i) ro_neI)) (by rfl)) (fun hb => ?_) fun hb => ?_) H hs _ fun v G1 H1 n1 hd => ?_
    · refine (rd_ret ed_bl).cast ?_
      have h1 := of_decide_eq_false (not_t hb)
      rw [decide_eq_false (by omega)]; rfl
    · have h1 := of_decide_eq_true (not_f hb)
      rw [decide_eq_true (by omega : xs.length = m + 1), Bool.true_and]
      refine rd_ret (ed_cb (ea_cons (EvN.toD (en_lcTh (K := K) (G := G) (i := 2) (j := 1) (p := p) (xs := xs) (ds := bs.map .bool) rfl hp (by rw [List.length_map, lb]) (fun _ => rfl) (by omega) fun k v d Gi hk hd g => ?_)) ea_nil) rcl_all)
      rw [List.getElem?_map] at hd
      obtain ⟨b, hb2, rfl⟩ := Option.map_eq_some_iff.mp hd
      intro H1 s1 Q1 q1
      refine (EvD.cast (ed_op (K := K) (G := Gi) (ed_op (ed_var (i := 0) rfl (.int (m : Int))) ed_int ro_i) ed_int (ro_ic (f := fun i j => i ^ j.toNat) pw)) (congrArg PyData.int epw)) H1 s1 _ fun vn G2 H2 n2 hn => ?_
      have hn := dp_int hn
      subst hn
      refine ⟨_, rfl, G2, _, v, n2.gh, rfl, ?_⟩
      have sg := g.trans n2.gg
      rcases hj k v b hk hb2 with ⟨g', L, ws, es, rfl, hm, rfl⟩ | ⟨hf, rfl⟩
      · exact .inl ⟨g', L, ws, es, rfl, hm.mono sg, fun G3 H3 n3 => q1 _ G3 H3 (n2.trans n3) (.bl _)⟩
      · exact .inr ⟨hf.mono sg, fun G3 H3 n3 => q1 _ G3 H3 (n2.trans n3) (.bl _)⟩
    · rw [dp_bl hd]; exact q G1 H1 n1
end
end Gw
namespace Gw
open PySem PySem.Spec PyProof.Rows L2 LamX
/-! ### fields that hold objects -/
section
variable {K : PySem.W.Frag} {CG g dx : Addr} {σ : L2.St} {G H : Hp} {f : Str} {fs : List (Str × V)} {i : Nat} {v : V}
theorem asg_fldV {D : Ends} (hi : σ[i]? = some (some v)) (s : Same G H) (g0 : G g = none) (hg : H g = some (.ins CG dx fs)) (hσ : σ[0]? = some (some (.ref g))) (cl : Cls K CG) (na : NoAttr K CG f) (hz : fs.length < 1000)
    (k : ∀ H1, No g G H G H1 → H1 g = some (.ins CG dx (putF f v fs)) → D.nx σ H1) : sFld K (tVar 0) (tVar i) f D σ H :=
  ⟨_, hi, _, hσ, g, CG, dx, fs, rfl, hg, cl, na, hz, k _ ⟨Same.refl G, off_same s g0, fun a o n e => (upd_ne n).trans e, fun a h => rfl⟩ upd_same⟩
theorem seq_fldV {u : TS} {D : Ends} (hi : σ[i]? = some (some v)) (s : Same G H) (g0 : G g = none) (hg : H g = some (.ins CG dx fs)) (hσ : σ[0]? = some (some (.ref g))) (cl : Cls K CG) (na : NoAttr K CG f) (hz : fs.length < 1000)
    (k : ∀ H1, No g G H G H1 → H1 g = some (.ins CG dx (putF f v fs)) → u D σ H1) : tSeq (sFld K (tVar 0) (tVar i) f) u D σ H := asg_fldV (D := { D with nx := u D }) hi s g0 hg hσ cl na hz k
end
end Gw
namespace Gw
open PySem PySem.Spec PyProof.Rows L2 PySem.SeqAt
open AutoSeq1 (wpAny_loadPart')
open MeetsSeq MeetsSeq2 MeetsSeq3 SeqRoads2
/-! ### == of lists and tuples whose items may differ, while objects come -/
section
variable {prog : Program} {w : World} {A : Around} {R : Result → Shared → Prop}
abbrev AllE (N : Nat) (e : Nat → Bool) : Bool := (List.range N).all e
theorem allE_no {N i : Nat} {e : Nat → Bool} (h : i < N) (z : e i = false) : AllE N e = false := by
  rw [Bool.eq_false_iff]
  intro y
  have := List.all_eq_true.mp y i (List.mem_range.mpr h)
  rw [z] at this; cases this
theorem allE_yes {N : Nat} {e : Nat → Bool} (h : ∀ i < N, e i = true) : AllE N e = true := List.all_eq_true.mpr fun i hi => h i (List.mem_range.mp hi)
/-- at each turn both lists are read anew; the items at i give e i -/
def LstE (prog : Program) (w : World) (A : Around) (E : Value → Shared → Prop) (l b : Addr) (N : Nat) (e : Nat → Bool) (I : Nat → Shared → Prop) : Prop :=
  ∀ i s, I i s → ∃ (us vs : Array Value) (n m : Nat), s.heap.get? l = some { cls := .type "list", data := .seq us n } ∧ s.heap.get? b = some { cls := .type "list", data := .seq vs m } ∧ us.size = N ∧ vs.size = N ∧
    ∀ (q1 : i < us.size) (q2 : i < vs.size), wpAny (model prog w) A.in1 (eqBool us[i] vs[i]) (fun r t => r = e i ∧ I (i + 1) t) E s
theorem lstE_loop (l b : Addr) (N : Nat) (e : Nat → Bool) (I : Nat → Shared → Prop) (hl : LstE prog w A (fun x t => R (.error x) t) l b N e I) (fin : ∀ j s, I j s → R (.ok (.ret (.bool (AllE N e)))) s) (k : Nat) :
    ∀ i : Nat, N - i = k → i ≤ N → (∀ j < i, e j = true) → ∀ s, I i s → wpAny (model prog w) A.in1 (Builtin.«list.__eq__.loop» ⟨[.ref l, .ref b, rawInt i, rawInt 2], []⟩) (GQ.FinOf prog w A R) (fun x t => R (.error x) t) s := by
  induction k with
  | zero =>
    intro i hk hi pre s hI
    obtain ⟨us, vs, n, m, z1, z2, zs1, zs2, _⟩ := hl _ _ hI
    have eN : i = N := by omega
    subst eN
    have out := fin _ s hI
    rw [allE_yes pre] at out
    obtain ⟨hp, g, d, tk, os⟩ := s
    wp_walk using wpAny_loadPart' z1, wpAny_loadPart' z2
    have g1 : us[((i : Nat) : Int).toNat]? = none := by simp [zs1]
    have g2 : vs[((i : Nat) : Int).toNat]? = none := by simp [zs2]
    rw [g1, g2]
    wp_walk using wpAny_loadPart' z1, wpAny_loadPart' z2
    show R (.ok (.ret (.bool (us.size == vs.size)))) _
    rw [zs1, zs2, beq_self_eq_true]
    exact out
  | succ k ih =>
    intro i hk hi pre s hI
    obtain ⟨us, vs, n, m, z1, z2, zs1, zs2, turn⟩ := hl _ _ hI
    have q1 : i < us.size := by omega
    have q2 : i < vs.size := by omega
    have one := turn q1 q2
    obtain ⟨hp, g, d, tk, os⟩ := s
    wp_walk using wpAny_loadPart' z1, wpAny_loadPart' z2
    have g1 : us[((i : Nat) : Int).toNat]? = some us[i] := by simp [q1]
    have g2 : vs[((i : Nat) : Int).toNat]? = some vs[i] := by simp [q2]
    rw [g1, g2]
    refine wpAny_bind (wpAny_mono one (fun r t z => ?_) fun _ _ x => x)
    obtain ⟨er, hI2⟩ := z
    subst er
    cases he : e i with
    | true =>
      have next := ih (i + 1) (by omega) (by omega) (fun j hj => by
        rcases Nat.lt_succ_iff_lt_or_eq.mp hj with h | h
        · exact pre j h
        · rw [h]; exact he) t hI2
      have hc : ((i : Int) + 1) = ((i + 1 : Nat) : Int) := by omega
      obtain ⟨hp2, g', d', tk', os'⟩ := t
      wp_walk
      rw [hc]
      exact ⟨plainId_quiet plain_eq_loop _, codeAny_builtin entry_eq_loop (by rw [Around.under_plainId plain_eq_loop _]; exact next)⟩
    | false =>
      have out := fin _ t hI2
      rw [allE_no (by omega) he] at out
      obtain ⟨us', vs', n', m', y1, y2, ys1, ys2, _⟩ := hl _ _ hI2
      have q3 : i < us'.size := by omega
      have q4 : i < vs'.size := by omega
      obtain ⟨hp2, g', d', tk', os'⟩ := t
      wp_walk using wpAny_loadPart' y1, wpAny_loadPart' y2
      have g3 : us'[((i : Nat) : Int).toNat]? = some us'[i] := by simp [q3]
      have g4 : vs'[((i : Nat) : Int).toNat]? = some vs'[i] := by simp [q4]
      rw [g3, g4]
      wp_walk
      exact out
theorem rc_lstE {E : Value → Shared → Prop} {s : Shared} {l b : Addr} {N : Nat} {e : Nat → Bool} {Q : Value → Shared → Prop} (hu : A.units < cLine) (I : Nat → Shared → Prop) (hl : LstE prog w A E l b N e I)
    (fin : ∀ j s, I j s → Q (.bool (AllE N e)) s) (h : I 0 s) : wpAny (model prog w) A (richCompare .Eq (.ref l) (.ref b)) Q E s := by
  obtain ⟨us, vs, n, m, z1, z2, zs1, zs2, _⟩ := hl _ _ h
  refine wpAny_richCompare_same_room (op := .Eq) ⟨_, z1, rfl⟩ ⟨_, z2, rfl⟩ F.slot_list_eq (GQ.call_here F.slot_list_eq ⟨_, z1, rfl⟩ F.entry_list_eq (F.args_list_eq_2 _ _) ?_) hu
  have loop := lstE_loop (A := A) (R := wants (fun v t => v ≠ .notImplemented ∧ Q v t) E) l b N e I hl (fun j t q => ⟨(fun x => nomatch x), fin j t q⟩) _ 0 rfl (Nat.zero_le _) (fun _ z => absurd z (Nat.not_lt_zero _)) s h
  obtain ⟨hp, g, d, tk, os⟩ := s
  have f3 := AutoSeq1.sub_list_list
  have hne : ¬ (us.size != vs.size) = true := by simp [zs1, zs2]
  wp_walk using wpAny_loadPart' z1, wpAny_loadPart' z2
  exact ⟨plainId_quiet plain_eq_loop _, codeAny_builtin entry_eq_loop (by rw [Around.under_plainId plain_eq_loop _]; exact loop)⟩
theorem tupE_core (l b : Addr) (us vs : Array Value) (n m : Nat) (dd dd2 : Option Addr) (sl sl2 : Array (Option Value)) (hsz : us.size = vs.size) (e : Nat → Bool) (I : Nat → Shared → Prop)
    (turn : ∀ i (q1 : i < us.size) (q2 : i < vs.size) s, I i s → wpAny (model prog w) A.in1 (eqBool us[i] vs[i]) (fun r t => r = e i ∧ I (i + 1) t) (fun x t => R (.error x) t) s)
    (fin : ∀ j s, I j s → R (.ok (.ret (.bool (AllE us.size e)))) s) {s : Shared} (z1 : s.heap.get? l = some { cls := .type "tuple", dict := dd, data := .seq us n, slots := sl }) (z2 : s.heap.get? b = some { cls := .type "tuple", dict := dd2, data := .seq vs m, slots := sl2 }) (h : I 0 s) :
    wpAny (model prog w) A.in1 (Builtin.«tuple.__eq__» ⟨[.ref l, .ref b], []⟩) (GQ.FinOf prog w A R) (fun x t => R (.error x) t) s := by
  have f2 := AutoSeq1.sub_tuple_tuple
  have lz : (us.toList.zip vs.toList).length = us.size := by simp [hsz]
  have start := h
  obtain ⟨hp, g, d, tk, os⟩ := s
  wp_walk using wpAny_loadPart' z1, wpAny_loadPart' z2, wpAny_forIn_list _ (fun rest b t => b.1 = none ∧ ∃ i, rest = (us.toList.zip vs.toList).drop i ∧ i ≤ us.size ∧ (∀ j < i, e j = true) ∧ I i t) _
  case turn =>
    rintro ⟨y, x⟩ rest c t ⟨hc, i, hz, hi, pre, hI⟩
    have hlt : i < (us.toList.zip vs.toList).length := by
      rcases Nat.lt_or_ge i (us.toList.zip vs.toList).length with q | q
      · exact q
      · rw [List.drop_of_length_le q] at hz; cases hz
    have q1 : i < us.size := lz ▸ hlt
    have q2 : i < vs.size := hsz ▸ q1
    rw [List.drop_eq_getElem_cons hlt] at hz
    injection hz with pair tail
    have ey : y = us[i] := by have := congrArg Prod.fst pair; simpa using this
    have ex : x = vs[i] := by have := congrArg Prod.snd pair; simpa using this
    subst ey ex
    refine wpAny_bind (wpAny_mono (turn i q1 q2 t hI) (fun r t2 z => ?_) fun _ _ x => x)
    obtain ⟨er, hI2⟩ := z
    subst er
    cases he : e i with
    | true =>
      wp_walk
      exact ⟨rfl, i + 1, tail, q1, fun j hj => by
        rcases Nat.lt_succ_iff_lt_or_eq.mp hj with h | h
        · exact pre j h
        · rw [h]; exact he, hI2⟩
    | false =>
      have out := fin _ t2 hI2
      rw [allE_no q1 he] at out
      wp_walk
      exact out
  case fin =>
    rintro ⟨b1, b2⟩ t ⟨hb', i, hz, hi, pre, hI⟩
    simp only at hb'
    subst hb'
    have hge : us.size ≤ i := by
      rcases Nat.lt_or_ge i (us.toList.zip vs.toList).length with q | q
      · rw [List.drop_eq_getElem_cons q] at hz; cases hz
      · exact lz ▸ q
    have eN : i = us.size := by omega
    have out := fin _ t hI
    rw [allE_yes (eN ▸ pre)] at out
    wp_walk
    simpa [Builtin.Tuple.tupleCompareSizes, hsz] using out
  case h =>
    exact ⟨rfl, 0, rfl, Nat.zero_le _, fun _ z => absurd z (Nat.not_lt_zero _), start⟩
theorem rc_tupE {E : Value → Shared → Prop} {s : Shared} {l b : Addr} {us vs : Array Value} {e : Nat → Bool} {Q : Value → Shared → Prop} (hsz : us.size = vs.size) (hu : A.units < cLine) (I : Nat → Shared → Prop) (z1 : s.heap.IsTuple l us) (z2 : s.heap.IsTuple b vs)
    (turn : ∀ i (q1 : i < us.size) (q2 : i < vs.size) s, I i s → wpAny (model prog w) A.in1 (eqBool us[i] vs[i]) (fun r t => r = e i ∧ I (i + 1) t) E s) (fin : ∀ j s, I j s → Q (.bool (AllE us.size e)) s) (h : I 0 s) : wpAny (model prog w) A (richCompare .Eq (.ref l) (.ref b)) Q E s := by
  obtain ⟨⟨cls, dd, data, sl⟩, ho, hc, n, hd⟩ := id z1
  obtain ⟨⟨cls2, dd2, data2, sl2⟩, ho2, hc2, m, hd2⟩ := id z2
  simp only at hc hd hc2 hd2
  subst hc hd hc2 hd2
  refine wpAny_richCompare_same_room (op := .Eq) ⟨_, ho, rfl⟩ ⟨_, ho2, rfl⟩ F.slot_tuple_eq (GQ.call_here F.slot_tuple_eq ⟨_, ho, rfl⟩ F.entry_tuple_eq (F.args_tuple_eq_2 _ _) ?_) hu
  exact tupE_core (R := wants (fun v t => v ≠ .notImplemented ∧ Q v t) E) l b us vs n m dd dd2 sl sl2 hsz e I turn (fun j t q => ⟨(fun x => nomatch x), fin j t q⟩) ho ho2 h
end
/-! what two values give, by the abstract heap -/
abbrev EqvB := V → V → Hp → Bool → Prop
def MonB (D : EqvB) : Prop := ∀ x y H H' b, Ext H H' → D x y H b → D x y H' b
def EqB (X : Cx) (n : Nat) (D : EqvB) : Prop :=
  ∀ (A : Around) (pins : List (Addr × Obj)) (s : Shared) (σ : L2.St) (H : Hp) (x y : V) (u v : Value) (b : Bool), Sub X n A → Inv X pins σ H s → RelV x u → RelV y v → D x y H b → wpAny (model X.prog X.w) A (eqBool u v) (fun r t => r = b ∧ ∃ H', Inv X pins σ H' t ∧ Ext H H') X.xe s
def PrsB (D : EqvB) (xs ys : List V) (H : Hp) (e : Nat → Bool) : Prop := xs.length = ys.length ∧ ∀ (i : Nat) x y, xs[i]? = some x → ys[i]? = some y → D x y H (e i)
section
variable {X : Cx} {n : Nat} {D : EqvB}
theorem turnE (hD : MonB D) (h : EqB X n D) {A : Around} (sb : Sub X (n + 1) A) {pins : List (Addr × Obj)} {σ : L2.St} {H : Hp} {xs ys : List V} {us vs : List Value} {e : Nat → Bool} (p : PrsB D xs ys H e) (r : Vals xs us) (r2 : Vals ys vs)
    (i : Nat) (q1 : i < us.toArray.size) (q2 : i < vs.toArray.size) (t : Shared) (l : LoopI X pins σ H t) : wpAny (model X.prog X.w) A.in1 (eqBool us.toArray[i] vs.toArray[i]) (fun r t2 => r = e i ∧ LoopI X pins σ H t2) X.xe t := by
  obtain ⟨H1, I1, e1⟩ := l
  have q1' : i < us.length := by simpa using q1
  have q2' : i < vs.length := by simpa using q2
  have k1 : i < xs.length := by rw [r.length]; exact q1'
  have k2 : i < ys.length := by rw [r2.length]; exact q2'
  obtain ⟨u, hu, ru⟩ := r.get (List.getElem?_eq_getElem k1)
  obtain ⟨v, hv, rv⟩ := r2.get (List.getElem?_eq_getElem k2)
  have eu : us.toArray[i] = u := by rw [List.getElem?_eq_getElem q1'] at hu; simpa using hu
  have ev : vs.toArray[i] = v := by rw [List.getElem?_eq_getElem q2'] at hv; simpa using hv
  rw [eu, ev]
  refine wpAny_mono (h A.in1 pins t σ H1 _ _ u v (e i) sb.in1 I1 ru rv (hD _ _ _ _ _ e1 (p.2 i _ _ (List.getElem?_eq_getElem k1) (List.getElem?_eq_getElem k2)))) (fun r t2 q => ?_) fun _ _ x => x
  obtain ⟨hr, H2, I2, e2⟩ := q
  exact ⟨hr, H2, I2, e1.trans e2⟩
/-- sequences of one kind: what their items give -/
def rSqB (K : PySem.W.Frag) (D : EqvB) : R2 := fun x y H Q => ∃ (a b : Addr) (xs ys : List V) (e : Nat → Bool), x = .ref a ∧ y = .ref b ∧ ((H a = some (.lst xs) ∧ H b = some (.lst ys)) ∨ (SqT K H a xs ∧ SqT K H b ys)) ∧ PrsB D xs ys H e ∧ ∀ H', Ext H H' → Q (.bl (AllE xs.length e)) H'
theorem op_sqB (hD : MonB D) (h : EqB X n D) (hr : Room (n + 1) X.A) : OpR X (compareOp .Eq) (rSqB X.K D) := by
  intro pins s σ H x y v u Q I rx ry hq
  obtain ⟨a, b, xs, ys, e, rfl, rfl, hk, p, q⟩ := hq
  cases rx
  cases ry
  show wpAny (model X.prog X.w) X.A (richCompare .Eq (.ref a) (.ref b)) (EP X pins σ Q) X.xe s
  have sb : Sub X (n + 1) X.A := ⟨hr, rfl⟩
  have out : ∀ t, LoopI X pins σ H t → EP X pins σ Q (.bool (AllE xs.length e)) t := fun t ⟨H', I', e'⟩ => ⟨.bl (AllE xs.length e), H', I', rfl, q H' e'⟩
  rcases hk with ⟨ha, hb⟩ | ⟨ha, hb⟩
  · refine rc_lstE (N := xs.length) (e := e) hr.units0 (fun _ t => LoopI X pins σ H t) (fun i t z => ?_) (fun _ t z => out t z) ⟨H, I, Ext.rfl'⟩
    obtain ⟨H1, I1, e1⟩ := id z
    obtain ⟨_, us, k, r, g1⟩ := I1.hok a _ (e1 _ _ ha)
    obtain ⟨_, vs, k2, r2, g2⟩ := I1.hok b _ (e1 _ _ hb)
    exact ⟨us.toArray, vs.toArray, k, k2, g1, g2, by rw [List.size_toArray, ← r.length], by rw [List.size_toArray, ← r2.length, ← p.1], fun q1 q2 => turnE hD h sb p r r2 i q1 q2 t z⟩
  · obtain ⟨us, r, g1, _⟩ := I.tuple ha
    obtain ⟨vs, r2, g2, _⟩ := I.tuple hb
    have hsz : us.toArray.size = vs.toArray.size := by rw [List.size_toArray, List.size_toArray, ← r.length, ← r2.length]; exact p.1
    have lN : us.toArray.size = xs.length := by rw [List.size_toArray, ← r.length]
    refine rc_tupE hsz hr.units0 (fun _ t => LoopI X pins σ H t) g1 g2 (fun i q1 q2 t z => turnE hD h sb p r r2 i q1 q2 t z) (fun _ t z => ?_) ⟨H, I, Ext.rfl'⟩
    rw [lN]
    exact out t z
/-- one and the same, or two objects by their own __eq__ -/
def DOwn (C : Addr) (sp : Sp) (E : XK) : EqvB := fun x y H b => (∃ a : Addr, x = .ref a ∧ y = .ref a ∧ b = true) ∨ ∃ (a c dx dy : Addr) (fs gs : List (Str × V)), x = .ref a ∧ y = .ref c ∧ a ≠ c ∧ H a = some (.ins C dx fs) ∧ H c = some (.ins C dy gs) ∧
  ∀ H1, Ext H H1 → sp [.ref a, .ref c] H1 (fun v H2 => ∃ r, v = .bl r ∧ r = b ∧ Ext H1 H2) E
theorem monB_own {C : Addr} {sp : Sp} {E : XK} : MonB (DOwn C sp E) := fun x y H H' b e d => d.imp id fun ⟨a, c, dx, dy, fs, gs, h1, h2, h3, h4, h5, h6⟩ => ⟨a, c, dx, dy, fs, gs, h1, h2, h3, e _ _ h4, e _ _ h5, fun H1 e1 => h6 H1 (e.trans e1)⟩
theorem eqB_own {CX : CXT} {C f : Addr} {fd : FuncData} {sp : Sp} {E : XK} {p q : Str} (O : OwnE X.K C f) (F : FnOk X.prog X.w X.K X.mg X.base CX n f fd [p, q] sp) (hb : Binds X.K fd [p, q] []) (hx : Passes CX X E) : EqB X n (DOwn C sp E) := by
  intro A pins s σ H x y u v b sb I rx ry d
  rcases d with ⟨a, rfl, rfl, rfl⟩ | ⟨a, c, dx, dy, fs, gs, rfl, rfl, hne, ha, hc, hs⟩
  · cases rx
    cases ry
    exact SeqAt.EqAt.same (A := A) (s := s) (.ref a) X.prog X.w X.xe _ ⟨rfl, H, I, Ext.rfl'⟩
  · cases rx
    cases ry
    refine GQ.eqBool_refG hne ?_
    obtain ⟨mA, J, _⟩ := ins_get I.hok ha
    obtain ⟨mB, J', _⟩ := ins_get I.hok hc
    obtain ⟨od, J, _⟩ := J.look
    obtain ⟨od', J', _⟩ := J'.look
    obtain ⟨m, hF⟩ := I.fr
    refine PySem.W.cmp_K (op := .Eq) (tb := .ref C) sb.room.units0 hF I.ok.mod.kin J J'.type (by simp [PySem.W.notFirst]) O.eq O.fn ?_
    have run := run_ownEq (z := .ref c) (v := .ref c) (g := fun b => b) (Q := fun v H' => v = .bl b ∧ Ext H H') O F hb hx sb.room sb.fr (pins := pins) I rfl (by
      have h := hs H Ext.rfl'
      have e : (fun (v : V) (H2 : Hp) => ∃ r, v = .bl r ∧ r = b ∧ Ext H H2) = (fun v H' => ∃ r, v = .bl r ∧ (V.bl r = .bl b ∧ Ext H H')) := by
        funext v H2
        refine propext ⟨fun ⟨r, h1, h2, h3⟩ => ⟨r, h1, by rw [h2], h3⟩, fun ⟨r, h1, h2, h3⟩ => ⟨r, h1, by injection h2, h3⟩⟩
      rw [e] at h
      exact h)
    refine wpAny_mono run (fun r t z => ?_) fun _ _ x => x
    obtain ⟨r', rfl, w', H', I', rel, ew, ex⟩ := z
    subst ew
    cases rel
    exact ⟨_, rfl, rfl, H', I', ex⟩
end
end Gw
namespace Gw
open PySem PySem.Spec PyProof.Rows L2 LamX
/-! ### claims made -/
def cF (a b c : V) : List (Str × V) := [(("group" : Str), a), (("words" : Str), b), (("nears" : Str), c)]
theorem look_group {a b c : V} : (cF a b c).lookup (("group" : Str)) = some a := by
  unfold cF
  simp [List.lookup]
theorem look_words {a b c : V} : (cF a b c).lookup (("words" : Str)) = some b := by
  unfold cF
  have h1 : (("words" : Str) == ("group" : Str)) = false := by decide
  simp [List.lookup, h1]
theorem look_nears {a b c : V} : (cF a b c).lookup (("nears" : Str)) = some c := by
  unfold cF
  have h1 : (("nears" : Str) == ("group" : Str)) = false := by decide
  have h2 : (("nears" : Str) == ("words" : Str)) = false := by decide
  simp [List.lookup, h1, h2]
/-- at g stands a claim of the objects at gg and gw and of the tuple xs at t -/
def ClmAt (K : PySem.W.Frag) (CC : Addr) (G : Hp) (g gg gw t : Addr) (xs : List V) : Prop := (∃ dx, G g = some (.ins CC dx (cF (.ref gg) (.ref gw) (.ref t)))) ∧ SqT K G t xs
theorem ClmAt.mono {K : PySem.W.Frag} {CC : Addr} {G G' : Hp} {g gg gw t : Addr} {xs : List V} (h : ClmAt K CC G g gg gw t xs) (s : Same G G') : ClmAt K CC G' g gg gw t xs := ⟨h.1.elim fun dx e => ⟨dx, s _ _ e⟩, same_tup s h.2⟩
/-- what is said of nears -/
def NrJ (K : PySem.W.Frag) (CM : Addr) (G : Hp) (m : Nat) (v : V) (b : Bool) : Prop :=
  (b = false ∧ ∃ ty, (∀ H, Same G H → TyX K H v ty) ∧ PySem.W.kitAny K ty [.type "list", .type "tuple"] = some false) ∨
   (∃ (p : Addr) (xs : List V) (bs : List Bool), v = .ref p ∧ (G p = some (.lst xs) ∨ G p = some (.tup xs)) ∧ xs.length ≤ 100 ∧ bs.length = xs.length ∧ (∀ (k : Nat) v b, xs[k]? = some v → bs[k]? = some b → JM K CM G (((m + 1) ^ 2 : Nat) : Int) v b) ∧ b = (decide (xs.length = m + 1) && bs.all id))
theorem JM.mono {K : PySem.W.Frag} {CM : Addr} {G G' : Hp} {n : Int} {v : V} {b : Bool} (h : JM K CM G n v b) (s : Same G G') : JM K CM G' n v b := h.imp (fun ⟨g, L, ws, es, e, hm, eb⟩ => ⟨g, L, ws, es, e, hm.mono s, eb⟩) fun ⟨hf, e⟩ => ⟨hf.mono s, e⟩
theorem NrJ.mono {K : PySem.W.Frag} {CM : Addr} {G G' : Hp} {m : Nat} {v : V} {b : Bool} (h : NrJ K CM G m v b) (s : Same G G') : NrJ K CM G' m v b := by
  rcases h with ⟨e, ty, h1, h2⟩ | ⟨p, xs, bs, e, hp, l, lb, hj, eb⟩
  · exact .inl ⟨e, ty, fun H s2 => h1 H (s.trans s2), h2⟩
  · exact .inr ⟨p, xs, bs, e, hp.imp (s _ _) (s _ _), l, lb, fun k v b h1 h2 => (hj k v b h1 h2).mono s, eb⟩
theorem spMO_of {K : PySem.W.Frag} {CM : Addr} {G H : Hp} {n : Int} {v : V} {b : Bool} {Q : VK} {E : XK} (s : Same G H) (h : JM K CM G n v b) (q : ∀ G' H', Nx G H G' H' → Q (.bl b) H') : spMO K CM [.int n, v] H Q E := by
  rcases h with ⟨g, L, ws, es, rfl, hm, rfl⟩ | ⟨hf, rfl⟩
  · exact ⟨G, n, .ref g, s, rfl, .inl ⟨g, L, ws, es, rfl, hm, q⟩⟩
  · exact ⟨G, n, v, s, rfl, .inr ⟨hf, q⟩⟩
theorem spAN_of {K : PySem.W.Frag} {CM : Addr} {G H : Hp} {m : Nat} {v : V} {b : Bool} {Q : VK} {E : XK} (s : Same G H) (hm : m ≤ 12) (h : NrJ K CM G m v b) (q : ∀ G' H', Nx G H G' H' → Q (.bl b) H') : spAN K CM [.int (m : Int), v] H Q E := by
  rcases h with ⟨rfl, ty, h1, h2⟩ | ⟨p, xs, bs, rfl, hp, l, lb, hj, rfl⟩
  · exact ⟨G, m, v, s, rfl, hm, .inl ⟨ty, h1, h2, q⟩⟩
  · exact ⟨G, m, .ref p, s, rfl, hm, .inr ⟨p, xs, bs, rfl, hp, l, lb, hj, q⟩⟩
def spCI (K : PySem.W.Frag) (CC CG CM CB : Addr) : Sp := fun vs H Q E => ∃ (G : Hp) (g dx : Addr) (v1 v2 v3 : V), Same G H ∧ vs = [.ref g, v1, v2, v3] ∧ G g = none ∧ H g = some (.ins CC dx []) ∧
  ((TyF K CG G v1 ∧ ∀ d H', Same H H' → H' d = some (.xd (eF (.str "group"))) → E (.ref CB) (some d) H') ∨
   ∃ gg bs rs, v1 = .ref gg ∧ GrpAt K CG G gg bs rs ∧ bs.length ≤ 12 ∧
    ((JM K CM G (bs.length : Int) v2 false ∧ ∀ d H', Same H H' → H' d = some (.xd (eF (.str "words"))) → E (.ref CB) (some d) H') ∨
     (JM K CM G (bs.length : Int) v2 true ∧
      ((NrJ K CM G bs.length v3 false ∧ ∀ d H', Same H H' → H' d = some (.xd (eF (.str "nears"))) → E (.ref CB) (some d) H') ∨
       (NrJ K CM G bs.length v3 true ∧ ∀ p xs t G' H', v3 = .ref p → (G p = some (.lst xs) ∨ G p = some (.tup xs)) → No g G H G' H' → G' g = none → H' g = some (.ins CC dx (cF v1 v2 (.ref t))) → SqT K G' t xs → Q .non H')))))
section
variable {P : Program} {w : World} {K : PySem.W.Frag} {mg : Str → Option Value} {base : Heap} {f : Addr} {fd : FuncData} {CC CG CM CB fB : Addr}
theorem ok_Claiminit (F : Fun K "__init__" "Claim.__init__" s_Claiminit f fd) (T : Bt mg) (t_BadClaim : PySem.SupX.SupTxt P K mg "BadClaim" "part" CB fB) (cl : Cls K CC) (n1 : NoAttr K CC "group") (n2 : NoAttr K CC "words") (n3 : NoAttr K CC "nears") (g_Group : mg "Group" = some (.ref CG)) (OG : OwnC K CG) (na : NoAttr K CG "back")
    (h_is_machine_of : Ok P w K mg base "is_machine_of" P_is_machine_of 1 (spMO K CM)) (h_are_nears : Ok P w K mg base "are_nears" P_are_nears 2 (spAN K CM)) : FnOk P w K mg base (L2.CX P w) 5 f fd P_Claiminit (spCI K CC CG CM CB) := by
  refine F.okX sc_Claiminit (fun vs H Q E h => ?_) fun cdv A outer s H vs Q E hr h => ?_
  · obtain ⟨G, g, dx, v1, v2, v3, _, rfl, _⟩ := h; rfl
  have S := sc_Claiminit
  obtain ⟨G, g, dx, v1, v2, v3, hs, rfl, g0, hg, h⟩ := h
  refine ⟨_, (pss_cons (ps_if (pt_not (pt_val (pe_callB (q_isi K rfl) (by rfl) T.isinstance (by decide +kernel) (pa_cons (pv 1) (pa_cons (pe_glob (v := .ref CG) (by rfl) g_Group rfl) pa_nil))))) (pss_one (ps_raise rfl (takes_of rfl rfl rfl rfl) (pmk_sup t_BadClaim hr (pa_cons pe_str pa_nil) (by rfl)))) pss_nil)
  (pss_cons (ps_if (pt_not (pt_val (pe_ok h_is_machine_of (hr.mono (by decide)) (by rfl) (pa_cons (pe_callB (q_len K rfl) (by rfl) T.len PySem.boot_len (pa_cons (pe_fld (pv 1) rfl) pa_nil)) (pa_cons (pv 2) pa_nil))))) (pss_one (ps_raise rfl (takes_of rfl rfl rfl rfl) (pmk_sup t_BadClaim hr (pa_cons pe_str pa_nil) (by rfl)))) pss_nil)
  (pss_cons (ps_if (pt_not (pt_val (pe_ok h_are_nears (hr.mono (by decide)) (by rfl) (pa_cons (pe_callB (q_len K rfl) (by rfl) T.len PySem.boot_len (pa_cons (pe_fld (pv 1) rfl) pa_nil)) (pa_cons (pv 3) pa_nil))))) (pss_one (ps_raise rfl (takes_of rfl rfl rfl rfl) (pmk_sup t_BadClaim hr (pa_cons pe_str pa_nil) (by rfl)))) pss_nil)
  (pss_cons (ps_fld (pv 0) (pv 1) rfl)
  (pss_cons (ps_fld (pv 0) (pv 2) rfl)
  (pss_one (ps_fld (pv 0) (pe_callTy (q_tuple K rfl) (by rfl) T.tuple (by decide +kernel) (pa_cons (pv 3) pa_nil)) rfl))))))), ?_⟩
  have big : 100000 ≤ sizeLine := by decide
  rcases h with ⟨⟨ty, h1, h2⟩, q⟩ | ⟨gg, bs, rs, rfl, hgg, lb, h⟩
  · refine seq_ifB (K := K) (G := G) (b := true) (EvB.cast (eb_not (b := false) (eb_B (ed_isiC (i := 1) (σ := L2.start N_Claiminit [.ref g, v1, v2, v3]) rfl h1 h2))) rfl) hs (fun _ G1 H1 m1 => ⟨_, rfl, fun d hd => q d _ (m1.hh.trans (same_upd hd)) upd_same⟩) fun z => nomatch z
  obtain ⟨dx1, vb, vr, e1, hb, hr2⟩ := id hgg
  refine seq_chk (K := K) (G := G) (EvB.cast (eb_not (b := true) (eb_B (ed_isiC (i := 1) (σ := L2.start N_Claiminit [.ref g, .ref gg, v2, v3]) rfl (fun H s => OG.tyx (s _ _ e1)) OG.me))) rfl) hs fun G1 H1 m1 => ?_
  have len : ∀ {σ : L2.St} {Gi : Hp}, σ[1]? = some (some (.ref gg)) → Same G Gi → EvD K (tCB (rLenQ K) (tCons (tFld K (tVar 1) "back") tNil)) σ Gi (.int (bs.length : Int)) := fun h s => ed_cb (ea_cons (ed_fld (i := 1) h (s _ _ e1) OG.cl na look_back (dp_mono s _ hb)) ea_nil) rcl_len
  have eMO : ∀ {σ : L2.St} {Gi : Hp} {b : Bool}, σ[1]? = some (some (.ref gg)) → σ[2]? = some (some v2) → Same G Gi → JM K CM G (bs.length : Int) v2 b → EvD K (tCall (spMO K CM) [] E0 (tCons (tCB (rLenQ K) (tCons (tFld K (tVar 1) "back") tNil)) (tCons (tVar 2) tNil))) σ Gi (.bool b) := fun h h' s hj H0 s0 Q0 q0 => by
    refine (len h s) H0 s0 _ fun vn G2 H2 n2 hn => ?_
    have hn := dp_int hn
    subst hn
    exact ⟨v2, h', spMO_of (E := E0) n2.gh (hj.mono (s.trans n2.gg)) fun G3 H3 n3 => q0 _ G3 H3 (n2.trans n3) (.bl _)⟩
  have eAN : ∀ {σ : L2.St} {Gi : Hp} {b : Bool}, σ[1]? = some (some (.ref gg)) → σ[3]? = some (some v3) → Same G Gi → NrJ K CM G bs.length v3 b → EvD K (tCall (spAN K CM) [] E0 (tCons (tCB (rLenQ K) (tCons (tFld K (tVar 1) "back") tNil)) (tCons (tVar 3) tNil))) σ Gi (.bool b) := fun h h' s hj H0 s0 Q0 q0 => by
    refine (len h s) H0 s0 _ fun vn G2 H2 n2 hn => ?_
    have hn := dp_int hn
    subst hn
    exact ⟨v3, h', spAN_of (E := E0) n2.gh lb (hj.mono (s.trans n2.gg)) fun G3 H3 n3 => q0 _ G3 H3 (n2.trans n3) (.bl _)⟩
  rcases h with ⟨hj, q⟩ | ⟨hj, h⟩
  · exact seq_ifB (K := K) (G := G1) (b := true) (EvB.cast (eb_not (b := false) (eb_B (eMO rfl rfl m1.gg hj))) rfl) m1.gh (fun _ G2 H2 m2 => ⟨_, rfl, fun d hd => q d _ ((m1.hh.trans m2.hh).trans (same_upd hd)) upd_same⟩) fun z => nomatch z
  refine seq_chk (K := K) (G := G1) (EvB.cast (eb_not (b := true) (eb_B (eMO rfl rfl m1.gg hj))) rfl) m1.gh fun G2 H2 m2 => ?_
  have m12 := m1.trans m2
  rcases h with ⟨hj2, q⟩ | ⟨hj2, q⟩
  · exact seq_ifB (K := K) (G := G2) (b := true) (EvB.cast (eb_not (b := false) (eb_B (eAN rfl rfl m12.gg hj2))) rfl) m2.gh (fun _ G3 H3 m3 => ⟨_, rfl, fun d hd => q d _ ((m12.hh.trans m3.hh).trans (same_upd hd)) upd_same⟩) fun z => nomatch z
  refine seq_chk (K := K) (G := G2) (EvB.cast (eb_not (b := true) (eb_B (eAN rfl rfl m12.gg hj2))) rfl) m2.gh fun G3 H3 m3 => ?_
  have m13 := m12.trans m3
  have g3 : G3 g = none := (m13.fr g (ne_none hg)).trans g0
  have hg3 := m13.hh _ _ hg
  rcases hj2 with ⟨z, _⟩ | ⟨p, xs, bbs, rfl, hp, lx, _, _, _⟩
  · cases z
  -- fields
  refine seq_fldV (i := 1) rfl m13.gh g3 hg3 rfl cl n1 (by decide) fun H4 m4 hg4 => ?_
  refine seq_fldV (i := 2) rfl m4.gh g3 hg4 rfl cl n2 (by show 1 < 1000; decide) fun H5 m5 hg5 => ?_
  have nn := ((No.of (g := g) m13).trans m4 (fun o e => ne_none (m13.hh _ _ e))).trans m5 (fun o _ => ne_none hg4)
  have g5 := g3
  have s5 : Same G3 H5 := m5.gh
  rcases hp with hp | hp
  · refine ⟨_, rfl, p, xs, rfl, .inl ⟨SqL.of (s5 _ _ (m13.gg _ _ hp)), fun l hl => ?_⟩⟩
    have lg : g ≠ l := ne_of_none hg5 hl
    have gl : G3 l = none := s5.free hl
    have sG := same_upd (o := .tup xs) gl
    refine ⟨_, rfl, g, CC, dx, _, rfl, (upd_ne lg).trans hg5, cl, n3, (by show 2 < 1000; decide), ?_⟩
    have nl : No g G3 H5 (upd G3 l (.tup xs)) (upd (upd H5 l (.tup xs)) g (.ins CC dx (putF "nears" (.ref l) (putF "words" v2 (putF "group" (.ref gg) []))))) := by
      refine ⟨sG, fun a u e => ?_, fun a o n e => (upd_ne n).trans ((same_upd hl) _ _ e), fun a na => upd_ne fun z => na (by rw [z]; exact hl)⟩
      by_cases hal : a = l
      · subst hal
        rw [upd_same] at e
        rw [upd_ne (Ne.symm lg), upd_same]
        exact e
      · rw [upd_ne hal] at e
        have hag : a ≠ g := fun z => by rw [z, g5] at e; cases e
        rw [upd_ne hag, upd_ne hal]
        exact s5 _ _ e
    exact q p xs l (upd G3 l (.tup xs)) _ rfl (.inl hp) (nn.trans nl (fun o _ => ne_none hg5)) ((upd_ne lg).trans g5) upd_same (SqT.of upd_same)
  · refine ⟨_, rfl, p, xs, rfl, .inr ⟨SqT.of (s5 _ _ (m13.gg _ _ hp)), ?_⟩⟩
    refine ⟨_, rfl, g, CC, dx, _, rfl, hg5, cl, n3, (by show 2 < 1000; decide), ?_⟩
    have nl : No g G3 H5 G3 (upd H5 g (.ins CC dx (putF "nears" (.ref p) (putF "words" v2 (putF "group" (.ref gg) []))))) := ⟨Same.refl _, off_same s5 g5, fun a o n e => (upd_ne n).trans e, fun a _ => rfl⟩
    exact q p xs p G3 _ rfl (.inr hp) (nn.trans nl (fun o _ => ne_none hg5)) g5 upd_same (SqT.of (m13.gg _ _ hp))
end
end Gw
namespace Gw
open PySem PySem.Spec PyProof.Rows L2 LamX
/-! ### == of machines -/
theorem shaped_flat {ds : List PyData} (h : ∀ d ∈ ds, d.canLay0 = true ∧ d.depth ≤ 3) : SeqAt.shaped (.tuple ds) = true := by
  have e1 : ∀ ds : List PyData, (∀ d ∈ ds, d.canLay0 = true ∧ d.depth ≤ 3) → PyData.canLayAll0 ds = true ∧ PyData.depthAll ds ≤ 3 := fun ds => by
    induction ds with
    | nil => exact fun _ => ⟨rfl, by simp [PyData.depthAll]⟩
    | cons z zs ih =>
      intro h
      obtain ⟨h1, h2⟩ := ih fun d hd => h d (List.mem_cons_of_mem _ hd)
      obtain ⟨h3, h4⟩ := h z List.mem_cons_self
      exact ⟨by rw [PyData.canLayAll0, h1, h3]; rfl, by rw [PyData.depthAll]; omega⟩
  obtain ⟨h1, h2⟩ := e1 ds h
  unfold SeqAt.shaped
  rw [Bool.and_eq_true]
  refine ⟨by rw [PyData.canLay0]; exact h1, decide_eq_true ?_⟩
  rw [PyData.depth]
  omega
theorem lay_oD (o : Option Nat) : (oD o).canLay0 = true ∧ (oD o).depth ≤ 0 := by
  cases o <;> exact ⟨rfl, Nat.le_refl _⟩
theorem lay_wayT (w : List (Option Nat)) : (wayT w).canLay0 = true ∧ (wayT w).depth ≤ 1 := by
  have e1 : ∀ zs : List (Option Nat), PyData.canLayAll0 (zs.map oD) = true ∧ PyData.depthAll (zs.map oD) = 0 := fun zs => by
    induction zs with
    | nil => exact ⟨rfl, rfl⟩
    | cons z zs ih =>
      obtain ⟨h1, h2⟩ := lay_oD z
      exact ⟨by rw [List.map_cons, PyData.canLayAll0, ih.1, h1]; rfl, by rw [List.map_cons, PyData.depthAll, ih.2]; omega⟩
  obtain ⟨h1, h2⟩ := e1 w
  refine ⟨by show (PyData.tuple (w.map oD)).canLay0 = true; rw [PyData.canLay0]; exact h1, ?_⟩
  show (PyData.tuple (w.map oD)).depth ≤ 1
  rw [PyData.depth, h2]
  omega
theorem shaped_ways (ws : List (List (Option Nat))) : SeqAt.shaped (.tuple (ws.map wayT)) = true := shaped_flat fun d hd => by
  obtain ⟨w, _, rfl⟩ := List.mem_map.mp hd
  have := lay_wayT w
  exact ⟨this.1, by omega⟩
theorem shaped_ns (es : List Nat) : SeqAt.shaped (.tuple (nsD es)) = true := shaped_flat fun d hd => by
  obtain ⟨w, _, rfl⟩ := List.mem_map.mp hd
  exact ⟨rfl, Nat.zero_le _⟩
def eqM (L : Nat) (ws : List (List (Option Nat))) (es : List Nat) (L2 : Nat) (ws2 : List (List (Option Nat))) (es2 : List Nat) : Bool := PyData.eqv (.int (L : Int)) (.int (L2 : Int)) && (PyData.eqv (.tuple (ws.map wayT)) (.tuple (ws2.map wayT)) && PyData.eqv (.tuple (nsD es)) (.tuple (nsD es2)))
def spMQ (K : PySem.W.Frag) (CM : Addr) : Sp := fun vs H Q _ => ∃ (G : Hp) (g h : Addr) (L : Nat) (ws : List (List (Option Nat))) (es : List Nat) (L2 : Nat) (ws2 : List (List (Option Nat))) (es2 : List Nat), Same G H ∧ vs = [.ref g, .ref h] ∧ MacAt K CM G g L ws es ∧ MacAt K CM G h L2 ws2 es2 ∧ ∀ G' H', Nx G H G' H' → Q (.bl (eqM L ws es L2 ws2 es2)) H'
section
variable {P : Program} {w : World} {K : PySem.W.Frag} {mg : Str → Option Value} {base : Heap} {f fG fM : Addr} {fd fdG fdM : FuncData} {CC CG CM : Addr}
theorem ok_Machineeq (F : Fun K "__eq__" "Machine.__eq__" s_Machineeq f fd) (T : Bt mg) (g_Machine : mg "Machine" = some (.ref CM)) (O : OwnC K CM) (nl : NoAttr K CM "letters") (nw : NoAttr K CM "ways") (ne : NoAttr K CM "ends") : FnOk P w K mg base CX0 2 f fd P_Machineeq (spMQ K CM) := by
  refine F.ok sc_Machineeq (fun vs H Q E h => ?_) fun cdv A outer s H vs Q E hr h => ?_
  · obtain ⟨G, g, h, L, ws, es, L2, ws2, es2, _, rfl, _⟩ := h; rfl
  have S := sc_Machineeq
  obtain ⟨G, g, h, L, ws, es, L2, ws2, es2, hs, rfl, ⟨dx, v1, v2, v3, h0, h1, h2, h3⟩, ⟨dx', u1, u2, u3, k0, k1, k2, k3⟩, q⟩ := h
  refine ⟨_, (pss_cons (ps_if (pt_not (pt_val (pe_callB (q_isi K rfl) (by rfl) T.isinstance (by decide +kernel) (pa_cons (pv 1) (pa_cons (pe_glob (v := .ref CM) (by rfl) g_Machine rfl) pa_nil))))) (pss_one (ps_ret pe_bl)) pss_nil)
  (pss_one (ps_ret (pe_and (pe_cmpR (q_eqD K rfl hr.units) (pe_fld (pv 0) rfl) (pe_fld (pv 1) rfl) (nomark _)) (pe_and (pe_cmpR (q_eqD K rfl hr.units) (pe_fld (pv 0) rfl) (pe_fld (pv 1) rfl) (nomark _)) (pe_one (pe_cmpR (q_eqD K rfl hr.units) (pe_fld (pv 0) rfl) (pe_fld (pv 1) rfl) (nomark _)))))))), ?_⟩
  refine (rd_seqIf (K := K) (G := G) (b := false) (d := .bool (eqM L ws es L2 ws2 es2)) (EvB.cast (eb_not (b := true) (eb_B (ed_isiC (i := 1) (σ := _root_.L2.start N_Machineeq [.ref g, .ref h]) rfl (fun H s => O.tyx (s _ _ k0)) O.me))) rfl) (fun z => nomatch z) fun _ => rd_ret ?_) H hs _ fun v G1 H1 n1 hd => ?_
  · exact ed_and (ed_op (ed_fld (i := 0) rfl h0 O.cl nl look_letters h1) (ed_fld (i := 1) rfl k0 O.cl nl look_letters k1) (ro_eqD (shaped_int _) (shaped_int _))) fun _ => ed_and (ed_op (ed_fld (i := 0) rfl h0 O.cl nw look_ways h2) (ed_fld (i := 1) rfl k0 O.cl nw look_ways k2) (ro_eqD (shaped_ways _) (shaped_ways _))) fun _ =>
      ed_op (ed_fld (i := 0) rfl h0 O.cl ne look_ends h3) (ed_fld (i := 1) rfl k0 O.cl ne look_ends k3) (ro_eqD (shaped_ns _) (shaped_ns _))
  · rw [dp_bl hd]; exact q G1 H1 n1
end
section
variable {K : PySem.W.Frag} {σ : L2.St} {G H : Hp} {te t2 : TE} {E : XK} {CG CM CC : Addr} {L L2 : Nat} {ws ws2 : List (List (Option Nat))} {es es2 : List Nat}
theorem EvM.mono {G1 : Hp} (h : EvM K CM te σ G L ws es) (g : Same G G1) : EvM K CM te σ G1 L ws es := fun H s Q q => h H (g.trans s) Q fun a G' H' m ha => by
  obtain ⟨G2, n2, s2⟩ := m.over g s
  exact q a G2 H' n2 (ha.mono s2)
/-- machine == machine -/
theorem ed_mm {c : Bool → Bool} (O : OwnC K CM) (h1 : EvM K CM te σ G L ws es) (h2 : EvM K CM t2 σ G L2 ws2 es2) : EvD K (tOp (rOwnEq K CM (spMQ K CM) E c) te t2) σ G (.bool (c (eqM L ws es L2 ws2 es2))) := fun H s Q q =>
  h1 H s _ fun g G1 H1 n1 hg => (h2.mono n1.gg) H1 n1.gh _ fun g2 G2 H2 n2 hg2 => by
    obtain ⟨dx, v1, v2, v3, e1, _⟩ := id (hg.mono n2.gg)
    obtain ⟨dx2, u1, u2, u3, e2, _⟩ := id hg2
    exact ⟨g, dx, _, _, rfl, n2.gh _ _ e1, O.tyx (n2.gh _ _ e2), (by show (_ || _) = true; rw [Bool.or_eq_true]; left; exact beq_self_eq_true _), G2, g, g2, L, ws, es, L2, ws2, es2, n2.gh, rfl, hg.mono n2.gg, hg2, fun G' H' n => ⟨_, rfl, q _ G' H' ((n1.trans n2).trans n) (.bl _)⟩⟩
/-! ### fields of a claim -/
theorem fld_at {i : Nat} {g C dx : Addr} {fs : List (Str × V)} {f : Str} {v : V} {Q : VK} (h : σ[i]? = some (some (.ref g))) (hg : H g = some (.ins C dx fs)) (cl : Cls K C) (na : NoAttr K C f) (hf : fs.lookup f = some v) (q : Q v H) : tFld K (tVar i) f σ H Q := ⟨_, h, g, C, dx, fs, v, rfl, hg, cl, na, hf, q⟩
theorem eg_cg {i : Nat} {g gg gw t : Addr} {xs : List V} {bs rs : List PyData} (h : σ[i]? = some (some (.ref g))) (O : OwnC K CC) (na : NoAttr K CC "group") (hc : ClmAt K CC G g gg gw t xs) (hg : GrpAt K CG G gg bs rs) : EvG K CG (tFld K (tVar i) "group") σ G bs rs := fun H s Q q => by
  obtain ⟨⟨dx, e⟩, _⟩ := hc
  exact fld_at h (s _ _ e) O.cl na look_group (q gg G H (Nx.refl s) hg)
theorem em_cw {i : Nat} {g gg gw t : Addr} {xs : List V} (h : σ[i]? = some (some (.ref g))) (O : OwnC K CC) (na : NoAttr K CC "words") (hc : ClmAt K CC G g gg gw t xs) (hg : MacAt K CM G gw L ws es) : EvM K CM (tFld K (tVar i) "words") σ G L ws es := fun H s Q q => by
  obtain ⟨⟨dx, e⟩, _⟩ := hc
  exact fld_at h (s _ _ e) O.cl na look_words (q gw G H (Nx.refl s) hg)
/-- two things of nears -/
def NearE (K : PySem.W.Frag) (CM : Addr) (G : Hp) (x y : V) (b : Bool) : Prop := (∃ a : Addr, x = .ref a ∧ y = .ref a ∧ b = true) ∨
  ∃ (a c : Addr) (L : Nat) (ws : List (List (Option Nat))) (es : List Nat) (L2 : Nat) (ws2 : List (List (Option Nat))) (es2 : List Nat), x = .ref a ∧ y = .ref c ∧ a ≠ c ∧ MacAt K CM G a L ws es ∧ MacAt K CM G c L2 ws2 es2 ∧ b = eqM L ws es L2 ws2 es2
theorem NearE.mono {G' : Hp} {x y : V} {b : Bool} (h : NearE K CM G x y b) (s : Same G G') : NearE K CM G' x y b := h.imp id fun ⟨a, c, L, ws, es, L2, ws2, es2, e1, e2, ne, m1, m2, eb⟩ => ⟨a, c, L, ws, es, L2, ws2, es2, e1, e2, ne, m1.mono s, m2.mono s, eb⟩
theorem NearE.own {x y : V} {b : Bool} (h : NearE K CM G x y b) (s : Same G H) : DOwn CM (spMQ K CM) E x y H b := by
  rcases h with h | ⟨a, c, L, ws, es, L2, ws2, es2, rfl, rfl, ne, m1, m2, rfl⟩
  · exact .inl h
  · obtain ⟨dx, v1, v2, v3, e1, _⟩ := id m1
    obtain ⟨dx2, u1, u2, u3, e2, _⟩ := id m2
    exact .inr ⟨a, c, dx, dx2, _, _, rfl, rfl, ne, s _ _ e1, s _ _ e2, fun H1 x => ⟨G, a, c, L, ws, es, L2, ws2, es2, s.trans x, rfl, m1, m2, fun G' H' n => ⟨_, rfl, rfl, n.hh⟩⟩⟩
def PrsN (K : PySem.W.Frag) (CM : Addr) (G : Hp) (xs ys : List V) (e : Nat → Bool) : Prop := xs.length = ys.length ∧ ∀ (i : Nat) x y, xs[i]? = some x → ys[i]? = some y → NearE K CM G x y (e i)
theorem PrsN.mono {G' : Hp} {xs ys : List V} {e : Nat → Bool} (h : PrsN K CM G xs ys e) (s : Same G G') : PrsN K CM G' xs ys e := ⟨h.1, fun i x y h1 h2 => (h.2 i x y h1 h2).mono s⟩
theorem sqB_of {a b : Addr} {xs ys : List V} {e : Nat → Bool} {Q : VK} (s : Same G H) (hk : (G a = some (.lst xs) ∧ G b = some (.lst ys)) ∨ (SqT K G a xs ∧ SqT K G b ys)) (p : PrsN K CM G xs ys e) (q : ∀ G' H', Nx G H G' H' → Q (.bl (AllE xs.length e)) H') : rSqB K (DOwn CM (spMQ K CM) E) (.ref a) (.ref b) H Q :=
  ⟨a, b, xs, ys, e, rfl, rfl, hk.imp (fun h => ⟨s _ _ h.1, s _ _ h.2⟩) fun h => ⟨same_tup s h.1, same_tup s h.2⟩, ⟨p.1, fun i x y h1 h2 => (p.2 i x y h1 h2).own s⟩, fun H' x => q G H' ⟨Same.refl _, s.trans x, x, fun _ _ => rfl⟩⟩
end
/-! ### == of claims -/
def spCE (K : PySem.W.Frag) (CC CG CM : Addr) : Sp := fun vs H Q _ => ∃ (G : Hp) (g gg gw t : Addr) (xs : List V) (z : V), Same G H ∧ vs = [.ref g, z] ∧ ClmAt K CC G g gg gw t xs ∧
  ((TyF K CC G z ∧ ∀ G' H', Nx G H G' H' → Q (.bl false) H') ∨
   ∃ (h gg2 gw2 t2 : Addr) (ys : List V) (e : Nat → Bool) (bs rs bs2 rs2 : List PyData) (L : Nat) (ws : List (List (Option Nat))) (es : List Nat) (L2 : Nat) (ws2 : List (List (Option Nat))) (es2 : List Nat), z = .ref h ∧ ClmAt K CC G h gg2 gw2 t2 ys ∧ GrpAt K CG G gg bs rs ∧ GrpAt K CG G gg2 bs2 rs2 ∧ ShG bs rs ∧ ShG bs2 rs2 ∧
     MacAt K CM G gw L ws es ∧ MacAt K CM G gw2 L2 ws2 es2 ∧ PrsN K CM G xs ys e ∧ ∀ G' H', Nx G H G' H' → Q (.bl (eqG bs rs bs2 rs2 && (eqM L ws es L2 ws2 es2 && AllE xs.length e))) H')
section
variable {P : Program} {w : World} {K : PySem.W.Frag} {mg : Str → Option Value} {base : Heap} {f fG fM : Addr} {fd fdG fdM : FuncData} {CC CG CM : Addr}
theorem ok_Claimeq (F : Fun K "__eq__" "Claim.__eq__" s_Claimeq f fd) (T : Bt mg) (g_Claim : mg "Claim" = some (.ref CC)) (O : OwnC K CC) (n1 : NoAttr K CC "group") (n2 : NoAttr K CC "words") (n3 : NoAttr K CC "nears") (OG : OwnC K CG) (OM : OwnC K CM)
    (O_Group : OwnE K CG fG) (F_Group : FnOk P w K mg base CX0 2 fG fdG P_Groupeq (spEQ K CG)) (b_Group : Binds K fdG P_Groupeq []) (O_Machine : OwnE K CM fM) (F_Machine : FnOk P w K mg base CX0 2 fM fdM P_Machineeq (spMQ K CM)) (b_Machine : Binds K fdM P_Machineeq []) : FnOk P w K mg base CX0 5 f fd P_Claimeq (spCE K CC CG CM) := by
  refine F.ok sc_Claimeq (fun vs H Q E h => ?_) fun cdv A outer s H vs Q E hr h => ?_
  · obtain ⟨G, g, gg, gw, t, xs, z, _, rfl, _⟩ := h; rfl
  have S := sc_Claimeq
  obtain ⟨G, g, gg, gw, t, xs, z, hs, rfl, hc, h⟩ := h
  refine ⟨_, (pss_cons (ps_if (pt_not (pt_val (pe_callB (q_isi K rfl) (by rfl) T.isinstance (by decide +kernel) (pa_cons (pv 1) (pa_cons (pe_glob (v := .ref CC) (by rfl) g_Claim rfl) pa_nil))))) (pss_one (ps_ret pe_bl)) pss_nil)
  (pss_one (ps_ret (pe_and (pe_cmpR (op_ownEq O_Group F_Group b_Group pass0 (hr.mono (by decide))) (pe_fld (pv 0) rfl) (pe_fld (pv 1) rfl) (nomark _)) (pe_and (pe_cmpR (op_ownEq O_Machine F_Machine b_Machine pass0 (hr.mono (by decide))) (pe_fld (pv 0) rfl) (pe_fld (pv 1) rfl) (nomark _)) (pe_one (pe_cmpR (op_sqB monB_own (eqB_own O_Machine F_Machine b_Machine pass0) (hr.mono (by decide))) (pe_fld (pv 0) rfl) (pe_fld (pv 1) rfl) (nomark _)))))))), ?_⟩
  rcases h with ⟨⟨ty, h1, h2⟩, q⟩ | ⟨h, gg2, gw2, t2, ys, e, bs, rs, bs2, rs2, L, ws, es, L2, ws2, es2, rfl, hc2, G1, G2, S1, S2, M1, M2, p, q⟩
  · refine (rd_seqIf (K := K) (G := G) (b := true) (d := .bool false) (EvB.cast (eb_not (b := false) (eb_B (ed_isiC (i := 1) (σ := L2.start N_Claimeq [.ref g, z]) rfl h1 h2))) rfl) (fun _ => rd_ret ed_bl) fun z => nomatch z) H hs _ fun v G1 H1 n1 hd => ?_
    rw [dp_bl hd]; exact q G1 H1 n1
  · obtain ⟨⟨dx, e1⟩, ht⟩ := id hc
    obtain ⟨⟨dx2, e2⟩, ht2⟩ := id hc2
    refine (rd_seqIf (K := K) (G := G) (b := false) (d := .bool (eqG bs rs bs2 rs2 && (eqM L ws es L2 ws2 es2 && AllE xs.length e))) (EvB.cast (eb_not (b := true) (eb_B (ed_isiC (i := 1) (σ := _root_.L2.start N_Claimeq [.ref g, .ref h]) rfl (fun H s => O.tyx (s _ _ e2)) O.me))) rfl) (fun z => nomatch z) fun _ => rd_ret ?_) H hs _ fun v G1 H1 n1 hd => ?_
    · refine ed_and (ed_gg (c := fun b => b) OG (eg_cg rfl O n1 hc G1) (eg_cg rfl O n1 hc2 G2) S1 S2) fun _ => ed_and (ed_mm (c := fun b => b) OM (em_cw rfl O n2 hc M1) (em_cw rfl O n2 hc2 M2)) fun _ => fun H0 s0 Q0 q0 => ?_
      exact fld_at rfl (s0 _ _ e1) O.cl n3 look_nears (fld_at rfl (s0 _ _ e2) O.cl n3 look_nears (sqB_of s0 (.inr ⟨ht, ht2⟩) p fun G' H' n => q0 _ G' H' n (.bl _)))
    · rw [dp_bl hd]; exact q G1 H1 n1
end
end Gw
namespace Gw
open PySem PySem.Spec PyProof.Rows L2
/-! ### in, for items that are data -/
def rInD (K : PySem.W.Frag) : R2 := fun x y H Q => ∃ d es, Dp K H x d ∧ (Dp K H y (.tuple es) ∨ Dp K H y (.list es)) ∧ SeqAt.shaped d = true ∧ (∀ e ∈ es, SeqAt.shaped e = true) ∧ Q (.bl (es.any fun e => PyData.eqv e d)) H
/-- what an item's answer is, read off the heap -/
noncomputable def hitD (h : Heap) (d : PyData) (u : Value) : Bool := @decide (∃ e as, Reads h u e as ∧ PyData.eqv e d = true) (Classical.propDecidable _)
theorem hitD_of {h : Heap} {d e : PyData} {u : Value} {as : List Addr} (r : Reads h u e as) : hitD h d u = PyData.eqv e d := by
  unfold hitD
  cases q : PyData.eqv e d with
  | true => exact (@decide_eq_true_iff _ (Classical.propDecidable _)).mpr ⟨e, as, r, q⟩
  | false =>
    refine (@decide_eq_false_iff_not _ (Classical.propDecidable _)).mpr fun ⟨e', as', r', q'⟩ => ?_
    have := (reads_det (h := h) (h' := h) (fun _ _ z _ => z) r r').1
    rw [this, q] at q'
    cases q'
section
variable {X : Cx} {pins : List (Addr × Obj)} {σ : L2.St} {H : Hp} {s : Shared}
theorem any_hitD (I : Inv X pins σ H s) {d : PyData} : ∀ {es : List PyData} {xs : List V} {us : List Value}, DpAll X.K H xs es → Vals xs us → us.any (hitD s.heap d) = es.any fun e => PyData.eqv e d
  | [], _, _, .nil, .nil => rfl
  | e :: es, _, _, .cons h t, .cons r rs => by
    obtain ⟨as, q⟩ := Dp.reads I e _ _ h r
    rw [List.any_cons, List.any_cons, hitD_of q, any_hitD I t rs]
theorem mem_hitD {A : Around} {v : Value} {d : PyData} {bs : List Addr} (I : Inv X pins σ H s) (rv : Reads s.heap v d bs) (sd : SeqAt.shaped d = true) (hu : A.in1.units + 64 < cLine) : ∀ {es : List PyData} {xs : List V} {us : List Value}, DpAll X.K H xs es → Vals xs us → (∀ e ∈ es, SeqAt.shaped e = true) → ∀ u ∈ us, SeqAt.EqAt A.in1 s u v (hitD s.heap d u)
  | [], _, _, .nil, .nil, _ => fun u hu => nomatch hu
  | e :: es, _, _, .cons h t, .cons r rs, se => fun u hm => by
    obtain ⟨as, q⟩ := Dp.reads I e _ _ h r
    rcases List.mem_cons.mp hm with rfl | hm
    · rw [hitD_of q]
      exact PySem.W.keq_at q rv (se e List.mem_cons_self) sd hu
    · exact mem_hitD I rv sd hu t rs (fun x hx => se x (List.mem_cons_of_mem _ hx)) u hm
theorem op_inD (hu : X.A.in1.units + 64 < cLine) : OpR X (compareOp .In) (rInD X.K) := by
  intro pins s σ H x y v u Q I rx ry h
  obtain ⟨d, es, hd, hy, sd, se, q⟩ := h
  obtain ⟨bs, rv⟩ := Dp.reads I d x v hd rx
  rcases hy with hy | hy
  · cases hy with
    | @tup p xs _ hs ha =>
      cases ry
      obtain ⟨its, r, pl, hz⟩ := I.tuple hs
      refine SeqAt.in_tupleAt (hitD s.heap d) pl (fun w hw => mem_hitD I rv sd hu ha r se w (by simpa using hw)) ⟨.bl _, H, I, rfl, ?_⟩
      rw [show its.toArray.any (hitD s.heap d) = its.any (hitD s.heap d) by simp, any_hitD I ha r]
      exact q
  · cases hy with
    | @lst p xs _ hs ha =>
      cases ry
      obtain ⟨its, r, pl, hz⟩ := I.list hs
      refine SeqAt.in_listAt (hitD s.heap d) pl.isList (fun w hw => mem_hitD I rv sd hu ha r se w (by simpa using hw)) ⟨.bl _, H, I, rfl, ?_⟩
      rw [show its.toArray.any (hitD s.heap d) = its.any (hitD s.heap d) by simp, any_hitD I ha r]
      exact q
end
theorem q_inD {X : Cx} (K : PySem.W.Frag) (e : X.K = K) (hu : X.A.in1.units + 64 < cLine) : OpR X (compareOp .In) (rInD K) := by subst e; exact op_inD hu
section
variable {K : PySem.W.Frag} {x : PyData} {es : List PyData}
theorem ro_inT (hx : SeqAt.shaped x = true) (he : ∀ e ∈ es, SeqAt.shaped e = true) : ROp K (rInD K) x (.tuple es) (.bool (es.any fun e => PyData.eqv e x)) := fun G H s vx vy dx dy Q q =>
  ⟨x, es, dp_mono s _ dx, .inl (dp_mono s _ dy), hx, he, q _ G H (Nx.refl s) (.bl _)⟩
theorem ro_inL (hx : SeqAt.shaped x = true) (he : ∀ e ∈ es, SeqAt.shaped e = true) : ROp K (rInD K) x (.list es) (.bool (es.any fun e => PyData.eqv e x)) := fun G H s vx vy dx dy Q q =>
  ⟨x, es, dp_mono s _ dx, .inr (dp_mono s _ dy), hx, he, q _ G H (Nx.refl s) (.bl _)⟩
end
end Gw
namespace Gw
open PySem PySem.Spec PyProof.Rows L2 LamX
section
variable {P : Program} {w : World} {K : PySem.W.Frag} {mg : Str → Option Value} {base : Heap} {f : Addr} {fd : FuncData} {CC CG CM CB CN CW fB fN : Addr}
def spWL (K : PySem.W.Frag) (CW : Addr) : Sp := fun vs H Q E => ∃ (G : Hp) (b v : V) (bs : List Int) (x : PyData), Same G H ∧ vs = [b, v] ∧ Dp K G b (.tuple (bs.map .int)) ∧ Dp K G v x ∧ Sized x ∧ (isRow bs.length x = true → ∀ G' H', Nx G H G' H' → Q .non H') ∧ (isRow bs.length x = false → ∀ G' H', Nx G H G' H' → E (.ref CW) none H')
theorem ok_want_letters (D : DefAt K mg "want_letters" s_want_letters P_want_letters f fd) (T : Bt mg) (e_BadWord : Err K mg "BadWord" CW) (h_is_row : Ok P w K mg base "is_row" P_is_row 3 (SpD K R_is_row)) : OkX P w K mg base "want_letters" s_want_letters P_want_letters 4 (spWL K CW) := by
  refine D.okX (D.F.okX sc_want_letters (fun vs H Q E h => ?_) fun cdv A outer s H vs Q E hr h => ?_)
  · obtain ⟨G, b, v, bs, x, _, rfl, _⟩ := h; rfl
  have S := sc_want_letters
  obtain ⟨G, b, v, bs, x, hs, rfl, hb, hv, hz, q1, q2⟩ := h
  refine ⟨_, (pss_one (ps_if (pt_not (pt_val (pe_ok h_is_row (hr.mono (by decide)) (by rfl) (pa_cons (pe_callB (q_len K rfl) (by rfl) T.len PySem.boot_len (pa_cons (pv 0) pa_nil)) (pa_cons (pv 1) pa_nil))))) (pss_one (ps_raise rfl (takes_of rfl rfl rfl rfl) (pmk_own PySem.F.excBase_ValueError e_BadWord.x e_BadWord.g e_BadWord.k (raises_own e_BadWord.b e_BadWord.t) rfl))) pss_nil)), ?_⟩
  refine (eb_not (eb_B (ed_call (R := R_is_row) (E := E0) (ea_cons (EvD.cast (ed_cb (ea_cons (ed_var (i := 0) (σ := L2.start N_want_letters [b, v]) rfl hb) ea_nil) rcl_len) (by rw [List.length_map])) (ea_cons (ed_var (i := 1) rfl hv) ea_nil)) ⟨(bs.length : Int), x, rfl, hz, rfl⟩))) H hs _ fun G1 H1 n1 => ?_
  cases hw : isRow bs.length x with
  | true => exact if_off rfl (nx_of (q1 hw G1 H1 n1))
  | false => exact if_on rfl (q2 hw G1 H1 n1)
/-! ### is it a claim -/
def spWC (K : PySem.W.Frag) (CC CB : Addr) : Sp := fun vs H Q E => ∃ (G : Hp) (v : V), Same G H ∧ vs = [v] ∧
  ((TyF K CC G v ∧ ∀ d H', Same H H' → H' d = some (.xd (eF .non)) → E (.ref CB) (some d) H') ∨ ∃ g gg gw t xs, v = .ref g ∧ ClmAt K CC G g gg gw t xs ∧ ∀ G' H', Nx G H G' H' → Q .non H')
theorem ok_want_claim (D : DefAt K mg "want_claim" s_want_claim P_want_claim f fd) (T : Bt mg) (t_BadClaim : PySem.SupX.SupTxt P K mg "BadClaim" "part" CB fB) (g_Claim : mg "Claim" = some (.ref CC)) (O : OwnC K CC) : OkX P w K mg base "want_claim" s_want_claim P_want_claim 3 (spWC K CC CB) := by
  refine D.okX (D.F.okX sc_want_claim (fun vs H Q E h => ?_) fun cdv A outer s H vs Q E hr h => ?_)
  · obtain ⟨G, v, _, rfl, _⟩ := h; rfl
  have S := sc_want_claim
  obtain ⟨G, v, hs, rfl, h⟩ := h
  refine ⟨_, (pss_one (ps_if (pt_not (pt_val (pe_callB (q_isi K rfl) (by rfl) T.isinstance (by decide +kernel) (pa_cons (pv 0) (pa_cons (pe_glob (v := .ref CC) (by rfl) g_Claim rfl) pa_nil))))) (pss_one (ps_raise rfl (takes_of rfl rfl rfl rfl) (pmk_sup t_BadClaim hr (pa_cons pe_non pa_nil) (by rfl)))) pss_nil)), ?_⟩
  rcases h with ⟨⟨ty, h1, h2⟩, q⟩ | ⟨g, gg, gw, t, xs, rfl, ⟨⟨dx, e⟩, _⟩, q⟩
  · exact (EvB.cast (eb_not (b := false) (eb_B (ed_isiC (K := K) (G := G) (i := 0) (σ := L2.start N_want_claim [v]) rfl h1 h2))) rfl) H hs _ fun G1 H1 n1 => if_on rfl ⟨_, rfl, fun d hd => q d _ (n1.hh.trans (same_upd hd)) upd_same⟩
  · exact (EvB.cast (eb_not (b := true) (eb_B (ed_isiC (K := K) (G := G) (i := 0) (σ := L2.start N_want_claim [.ref g]) rfl (fun H s => O.tyx (s _ _ e)) O.me))) rfl) H hs _ fun G1 H1 n1 => if_off rfl (nx_of (q G1 H1 n1))
/-! ### what a claim says -/
def letOk (n : Nat) : PyData → Bool | .none => true | y => inR 0 ((n : Int) - 1) y
def ixOf : PyData → Nat | .int i => i.toNat + 1 | _ => 0
def prN (n : Nat) (a b : List Int) : List Nat := (prI n a b).map Int.toNat
theorem letters_getD {n : Nat} {a : List Int} (h : Letters n a) (k : Nat) : 0 ≤ a.getD k n ∧ a.getD k n ≤ n := by
  rw [List.getD_eq_getElem?_getD]
  cases e : a[k]? with
  | none => exact ⟨Int.natCast_nonneg n, Int.le_refl _⟩
  | some x =>
    have := h x (List.mem_of_getElem? e)
    exact ⟨this.1, Int.le_of_lt this.2⟩
theorem prI_in {n : Nat} {a b : List Int} (ha : Letters n a) (hb : Letters n b) : ∀ x ∈ prI n a b, 0 ≤ x ∧ x < (((n + 1) ^ 2 : Nat) : Int) := fun x hx => by
  obtain ⟨k, _, rfl⟩ := List.mem_map.mp hx
  obtain ⟨a1, a2⟩ := letters_getD ha k
  obtain ⟨b1, b2⟩ := letters_getD hb k
  unfold prAt
  have e : (((n + 1) ^ 2 : Nat) : Int) = (n : Int) * ((n : Int) + 1) + ((n : Int) + 1) := by
    rw [Nat.pow_succ, Nat.pow_one]
    push_cast
    rw [Int.add_mul, Int.one_mul]
  have l1 : 0 ≤ a.getD k n * ((n : Int) + 1) := Int.mul_nonneg a1 (by omega)
  have l2 : a.getD k n * ((n : Int) + 1) ≤ (n : Int) * ((n : Int) + 1) := Int.mul_le_mul_of_nonneg_right a2 (by omega)
  rw [e]
  exact ⟨by omega, by omega⟩
theorem prN_row {n : Nat} {a b : List Int} (ha : Letters n a) (hb : Letters n b) : wD (prI n a b) = rowN (prN n a b) := by
  have h := prI_in ha hb
  unfold prN
  generalize prI n a b = r at h
  show PyData.tuple (r.map .int) = .tuple (nsD (r.map Int.toNat))
  congr 1
  show r.map PyData.int = (r.map Int.toNat).map fun (k : Nat) => PyData.int (k : Int)
  rw [List.map_map]
  refine List.map_congr_left fun x hx => ?_
  have := (h x hx).1
  show PyData.int x = .int ((x.toNat : Nat) : Int)
  rw [Int.toNat_of_nonneg this]
theorem prN_in {n : Nat} {a b : List Int} (ha : Letters n a) (hb : Letters n b) : ∀ i ∈ prN n a b, i < (n + 1) ^ 2 := fun i hi => by
  obtain ⟨x, hx, rfl⟩ := List.mem_map.mp hi
  have := prI_in ha hb x hx
  omega
def sayB (n : Nat) (ws : List (List (Option Nat))) (es : List Nat) (a b : List Int) : Bool := (nsD es).any fun e => PyData.eqv e (oD (goL ws (some 0) (prN n a b)))
theorem shaped_oD (o : Option Nat) : SeqAt.shaped (oD o) = true := by cases o with | none => rfl | some s => exact shaped_int _
theorem shaped_es {es : List Nat} : ∀ e ∈ nsD es, SeqAt.shaped e = true := fun e he => by
  obtain ⟨k, _, rfl⟩ := List.mem_map.mp he
  exact shaped_int _
def isNonD : PyData → Bool | .none => true | _ => false
theorem ro_isNd {y : PyData} : ROp K (fun x y H Q => y = .non ∧ Q (.bl (decide (x = .non))) H) y .none (.bool (isNonD y)) := fun G H s vx vy hx hy Q q => by
  rw [dp_non hy]
  refine ⟨rfl, ?_⟩
  have e : decide (vx = V.non) = (isNonD y) := by cases hx <;> rfl
  rw [e]
  exact q _ G H (Nx.refl s) (.bl _)
theorem ro_notNd {y : PyData} : ROp K (fun x y H Q => y = .non ∧ Q (.bl (!decide (x = .non))) H) y .none (.bool (!isNonD y)) := fun G H s vx vy hx hy Q q => by
  rw [dp_non hy]
  refine ⟨rfl, ?_⟩
  have e : (!decide (vx = V.non)) = (!isNonD y) := by cases hx <;> rfl
  rw [e]
  exact q _ G H (Nx.refl s) (.bl _)
def spSA (K : PySem.W.Frag) (CC CG CM CB CN CW : Addr) : Sp := fun vs H Q E => ∃ (G : Hp) (vc vl v1 v2 : V), Same G H ∧ vs = [vc, vl, v1, v2] ∧
  ((TyF K CC G vc ∧ ∀ d H', Same H H' → H' d = some (.xd (eF .non)) → E (.ref CB) (some d) H') ∨
   ∃ (g gg gw t : Addr) (xs : List V) (bs : List Int) (rs : List PyData) (y x1 x2 : PyData), vc = .ref g ∧ ClmAt K CC G g gg gw t xs ∧ GrpAt K CG G gg (bs.map .int) rs ∧ bs.length ≤ 12 ∧ Dp K G vl y ∧ Dp K G v1 x1 ∧ Dp K G v2 x2 ∧ Sized x1 ∧ Sized x2 ∧
    ((letOk bs.length y = false ∧ ∀ d H', Same H H' → H' d = some (.xd (eF (.str "letter"))) → E (.ref CN) (some d) H') ∨
     (letOk bs.length y = true ∧
      ((isRow bs.length x1 = false ∧ ∀ G' H', Nx G H G' H' → E (.ref CW) none H') ∨
       (isRow bs.length x1 = true ∧ isRow bs.length x2 = false ∧ ∀ G' H', Nx G H G' H' → E (.ref CW) none H') ∨
       ∃ (as cs : List Int) (m L : Nat) (a : Addr) (ws : List (List (Option Nat))) (es : List Nat), x1 = wD as ∧ x2 = wD cs ∧ isRow bs.length x1 = true ∧ isRow bs.length x2 = true ∧ Letters bs.length as ∧ Letters bs.length cs ∧ as.length ≤ 1000 ∧ cs.length ≤ 1000 ∧ xs[ixOf y]? = some (.ref a) ∧ MacAt K CM G a L ws es ∧ L = (bs.length + 1) ^ 2 ∧ 0 < ws.length ∧ (∀ w ∈ ws, WOk L ws.length w) ∧
        ∀ G' H', Nx G H G' H' → Q (.bl (sayB bs.length ws es as cs)) H'))))
theorem ok_says (D : DefAt K mg "says" s_says P_says f fd) (T : Bt mg) (t_BadNumber : PySem.SupX.SupTxt P K mg "BadNumber" "part" CN fN) (O : OwnC K CC) (n1' : NoAttr K CC "group") (nn3 : NoAttr K CC "nears") (OG : OwnC K CG) (na : NoAttr K CG "back") (OM : OwnC K CM) (nw : NoAttr K CM "ways") (ne : NoAttr K CM "ends")
    (h_want_claim : OkX P w K mg base "want_claim" s_want_claim P_want_claim 3 (spWC K CC CB)) (h_is_number_in : Ok P w K mg base "is_number_in" P_is_number_in 2 (SpD K R_is_number_in)) (h_want_letters : OkX P w K mg base "want_letters" s_want_letters P_want_letters 4 (spWL K CW)) (h_state_behind : Ok P w K mg base "state_behind" P_state_behind 1 (SpD K R_state_behind)) (h_row_of_pair : Ok P w K mg base "row_of_pair" P_row_of_pair 1 (SpD K R_row_of_pair)) :
    OkX P w K mg base "says" s_says P_says 6 (spSA K CC CG CM CB CN CW) := by
  refine D.okX (D.F.okX sc_says (fun vs H Q E h => ?_) fun cdv A outer s H vs Q E hr h => ?_)
  · obtain ⟨G, vc, vl, v1, v2, _, rfl, _⟩ := h; rfl
  have S := sc_says
  obtain ⟨G, vc, vl, v1, v2, hs, rfl, h⟩ := h
  refine ⟨_, (pss_cons (ps_expr (pe_okX h_want_claim (passes_call (takes_of rfl rfl rfl rfl) fun _ _ _ _ h => h) (hr.mono (by decide)) (by rfl) (pa_cons (pv 0) pa_nil)))
  (pss_cons (ps_set (i := 4) S.nd rfl (by first | exact .inl rfl | exact .inr rfl) (pe_fld (pe_fld (pv 0) rfl) rfl))
  (pss_cons (ps_if (PW.pt (pw_and (pt_cmpR op_notN (pv 1) pe_non (nomark _)) (pw_and1 (pt_not (pt_val (pe_ok h_is_number_in (hr.mono (by decide)) (by rfl) (pa_cons (pv 1) (pa_cons pe_int (pa_cons (pe_op op_sub (pe_callB (q_len K rfl) (by rfl) T.len PySem.boot_len (pa_cons (pv 4) pa_nil)) pe_int) pa_nil))))))))) (pss_one (ps_raise rfl (takes_of rfl rfl rfl rfl) (pmk_sup t_BadNumber hr (pa_cons pe_str pa_nil) (by rfl)))) pss_nil)
  (pss_cons (ps_expr (pe_okX h_want_letters (passes_call (takes_of rfl rfl rfl rfl) fun _ _ _ _ h => h) (hr.mono (by decide)) (by rfl) (pa_cons (pv 4) (pa_cons (pv 2) pa_nil))))
  (pss_cons (ps_expr (pe_okX h_want_letters (passes_call (takes_of rfl rfl rfl rfl) fun _ _ _ _ h => h) (hr.mono (by decide)) (by rfl) (pa_cons (pv 4) (pa_cons (pv 3) pa_nil))))
  (pss_cons (ps_set (i := 5) S.nd rfl (by first | exact .inl rfl | exact .inr rfl) (pe_ix ix_seq (pe_fld (pv 0) rfl) (pe_ifExp (pt_cmpR op_isN (pv 1) pe_non (nomark _)) pe_int (pe_op op_add (pv 1) pe_int)) (fun _ _ => rfl)))
  (pss_one (ps_ret (pe_cmpR (q_inD K rfl hr.in1.units) (pe_ok h_state_behind (hr.mono (by decide)) (by rfl) (pa_cons (pe_fld (pv 5) rfl) (pa_cons pe_int (pa_cons (pe_ok h_row_of_pair (hr.mono (by decide)) (by rfl) (pa_cons (pe_callB (q_len K rfl) (by rfl) T.len PySem.boot_len (pa_cons (pv 4) pa_nil)) (pa_cons (pv 2) (pa_cons (pv 3) pa_nil)))) pa_nil)))) (pe_fld (pv 5) rfl) (by rfl)))))))))), ?_⟩
  rcases h with ⟨hf, q⟩ | ⟨g, gg, gw, t, xs, bs, rs, y, x1, x2, rfl, hc, hgg, lb, hy, h1, h2, z1, z2, h⟩
  · refine ⟨_, rfl, G, vc, hs, rfl, .inl ⟨hf, fun d H' sm hd => q d H' sm hd⟩⟩
  obtain ⟨⟨dx, ec⟩, ht⟩ := id hc
  obtain ⟨dx1, vb, vr, e1, hb, hr2⟩ := id hgg
  refine ⟨_, rfl, G, .ref g, hs, rfl, .inr ⟨g, gg, gw, t, xs, rfl, hc, fun G1 H1 n1 => ?_⟩⟩
  have lbd : (bs.map PyData.int).length = bs.length := List.length_map _
  -- back
  refine seq_let (K := K) (G := G1) (d := .tuple (bs.map .int)) (ed_gb OG na (eg_cg rfl O n1' (hc.mono n1.gg) (hgg.mono n1.gg))) n1.gh fun vbk G2 H2 n2 hbk => ?_
  have m2 := n1.trans n2
  have eLen : ∀ {σ : L2.St} {Gi : Hp}, σ[4]? = some (some vbk) → Same G2 Gi → EvD K (tCB (rLenQ K) (tCons (tVar 4) tNil)) σ Gi (.int (bs.length : Int)) := fun h s => EvD.cast (ed_cb (ea_cons (ed_var (i := 4) h (dp_mono s _ hbk)) ea_nil) rcl_len) (congrArg (fun n : Nat => PyData.int (n : Int)) lbd)
  -- letter
  have eNum : ∀ {σ : L2.St}, σ[1]? = some (some vl) → σ[4]? = some (some vbk) → ∀ {Gi : Hp}, Same G2 Gi → EvD K (tCall (SpD K R_is_number_in) [] E0 (tCons (tVar 1) (tCons (tC (.int 0)) (tCons (tOp (rI0 fun i j => .int (i - j)) (tCB (rLenQ K) (tCons (tVar 4) tNil)) (tC (.int 1))) tNil)))) σ Gi (.bool (inR 0 ((bs.length : Int) - 1) y)) := fun h h' _ s =>
    ed_call (R := R_is_number_in) (E := E0) (ea_cons (ed_var (i := 1) h (dp_mono (m2.gg.trans s) _ hy)) (ea_cons ed_int (ea_cons (ed_op (eLen h' s) ed_int ro_i) ea_nil))) ⟨_, 0, _, rfl, rfl⟩
  have tst : ∀ {σ : L2.St}, σ[1]? = some (some vl) → σ[4]? = some (some vbk) → EvB K (tAnd (tTest (tOp (fun x y H Q => y = .non ∧ Q (.bl (!decide (x = .non))) H) (tVar 1) (tC .non))) (tNot (tB (tCall (SpD K R_is_number_in) [] E0 (tCons (tVar 1) (tCons (tC (.int 0)) (tCons (tOp (rI0 fun i j => .int (i - j)) (tCB (rLenQ K) (tCons (tVar 4) tNil)) (tC (.int 1))) tNil))))))) σ G2 (!letOk bs.length y) := fun h h' =>
    EvB.cast (eb_and (a := !isNonD y) (b := !inR 0 ((bs.length : Int) - 1) y) (eb_test (ed_op (ed_var (i := 1) h (dp_mono m2.gg _ hy)) ed_non ro_notNd)) fun _ => eb_not (eb_B (eNum h h' (Same.refl _)))) (by cases y <;> rfl)
  rcases h with ⟨hl, q⟩ | ⟨hl, h⟩
  · exact seq_ifB (K := K) (G := G2) (b := true) (EvB.cast (tst rfl rfl) (by rw [hl]; rfl)) n2.gh (fun _ G3 H3 n3 => ⟨_, rfl, fun d hd => q d _ ((m2.hh.trans n3.hh).trans (same_upd hd)) upd_same⟩) fun z => nomatch z
  refine seq_chk (K := K) (G := G2) (EvB.cast (tst rfl rfl) (by rw [hl]; rfl)) n2.gh fun G3 H3 n3 => ?_
  have m3 := m2.trans n3
  -- words
  refine ⟨_, rfl, _, rfl, G3, vbk, v1, bs, x1, n3.gh, rfl, dp_mono n3.gg _ hbk, dp_mono m3.gg _ h1, z1, fun w1 G4 H4 n4 => ?_, fun w1 G4 H4 n4 => ?_⟩
  rotate_left
  · rcases h with ⟨_, q⟩ | ⟨e, _⟩ | ⟨_, _, _, _, _, _, _, _, _, e, _⟩
    · exact q G4 H4 (m3.trans n4)
    · rw [e] at w1; cases w1
    · rw [e] at w1; cases w1
  rcases h with ⟨e, _⟩ | h
  · rw [e] at w1; cases w1
  have m4 := m3.trans n4
  refine ⟨_, rfl, _, rfl, G4, vbk, v2, bs, x2, n4.gh, rfl, dp_mono (n3.gg.trans n4.gg) _ hbk, dp_mono m4.gg _ h2, z2, fun w2 G5 H5 n5 => ?_, fun w2 G5 H5 n5 => ?_⟩
  rotate_left
  · rcases h with ⟨_, _, q⟩ | ⟨_, _, _, _, _, _, _, _, _, _, e, _⟩
    · exact q G5 H5 (m4.trans n5)
    · rw [e] at w2; cases w2
  rcases h with ⟨_, e, _⟩ | ⟨as, cs, m, L, a, ws, es, rfl, rfl, _, _, la, lc, za, zc, hx, hm, rfl, nw0, W, q⟩
  · rw [e] at w2; cases w2
  have m5 := m4.trans n5
  -- near
  have eIx : ∀ {σ : L2.St}, σ[1]? = some (some vl) → EvD K (tIf (tTest (tOp (fun x y H Q => y = .non ∧ Q (.bl (decide (x = .non))) H) (tVar 1) (tC .non))) (tC (.int 0)) (tOp (rI0 fun i j => .int (i + j)) (tVar 1) (tC (.int 1)))) σ G5 (.int ((ixOf y : Nat) : Int)) := fun h => by
    refine ed_if (b := isNonD y) (eb_test (ed_op (ed_var (i := 1) h (dp_mono m5.gg _ hy)) ed_non ro_isNd)) (fun z => ?_) fun z => ?_
    · cases y with
      | none => exact ed_int
      | _ => cases z
    · cases y with
      | int i =>
        have hi : inR 0 ((bs.length : Int) - 1) (.int i) = true := hl
        have hi0 : (decide ((0 : Int) ≤ i) && decide (i ≤ (bs.length : Int) - 1)) = true := hi
        rw [Bool.and_eq_true, decide_eq_true_iff, decide_eq_true_iff] at hi0
        refine EvD.cast (ed_op (ed_var (i := 1) h (dp_mono m5.gg _ hy)) ed_int ro_i) ?_
        show PyData.int (i + 1) = .int ((i.toNat + 1 : Nat) : Int)
        rw [show ((i.toNat + 1 : Nat) : Int) = i + 1 by omega]
      | none => cases z
      | _ => cases hl
  refine ⟨_, rfl, g, CC, dx, _, _, rfl, m5.hh _ _ (hs _ _ ec), O.cl, nn3, look_nears, ?_⟩
  refine (eIx rfl) H5 n5.gh _ fun vi G6 H6 n6 hi => ?_
  have hi := dp_int hi
  subst hi
  have m6 := m5.trans n6
  refine .inr (.inl ⟨t, xs, _, .ref a, rfl, rfl, same_tup m6.gh (same_tup m6.gg ht), atI_nat hx, ?_⟩)
  obtain ⟨dx3, u1, u2, u3, k0, k1, k2, k3⟩ := hm.mono m6.gg
  have la' : (as.map PyData.int).length = as.length := List.length_map _
  refine (rd_ret (K := K) (G := G6) (d := .bool (sayB bs.length ws es as cs)) (ed_op (ed_call (R := R_state_behind) (E := E0) (ea_cons (ed_fld (i := 5) rfl k0 OM.cl nw look_ways k2) (ea_cons ed_int (ea_cons (EvD.cast (ed_call (R := R_row_of_pair) (E := E0) (ea_cons (eLen rfl ((n3.gg.trans n4.gg).trans (n5.gg.trans n6.gg))) (ea_cons (ed_var (i := 2) rfl (dp_mono m6.gg _ h1)) (ea_cons (ed_var (i := 3) rfl (dp_mono m6.gg _ h2)) ea_nil))) ⟨_, as, cs, rfl, by omega, by omega, by omega, by omega, rfl⟩) (prN_row la lc)) ea_nil))) ⟨_, ws, _, rfl, nw0, W, prN_in la lc, rfl⟩) (ed_fld (i := 5) rfl k0 OM.cl ne look_ends k3) (ro_inT (shaped_oD _) shaped_es))) H6 n6.gh _ fun v G7 H7 n7 hd => ?_
  rw [dp_bl hd]
  exact q G7 H7 (m6.trans n7)
end
end Gw
namespace Gw
open PySem PySem.Spec PyProof.Rows L2 LamX
/-! ### a pick of what a def handed back -/
def spPickG (K : PySem.W.Frag) : Sp := fun vs H Q _ => ∃ d l c a xs, vs = [.ref d, .ref a] ∧ Drw H d l c ∧ SqL K H a xs ∧ (∀ H', Nd d l H H' → SqL K H' a xs) ∧ 0 < xs.length ∧ xs.length < 1000000 ∧ ∀ v H', v ∈ xs → Nd d l H H' → Drw H' d l c → Q v H'
section
variable {P : Program} {w : World} {K : PySem.W.Frag} {mg : Str → Option Value} {base : Heap} {f : Addr} {fd : FuncData}
theorem ok_law_pickG (D : DefAt K mg "_law_pick" s_law_pick P_law_pick f fd) (T : Bt mg) (h__law_take : Ok P w K mg base "_law_take" P_law_take 2 spTake) : Ok P w K mg base "_law_pick" P_law_pick 3 (spPickG K) := by
  refine D.ok (D.F.ok sc_law_pick (fun vs H Q E h => ?_) fun cdv A outer s H vs Q E hr h => ?_)
  · obtain ⟨d, l, c, a, xs, rfl, _⟩ := h; rfl
  have S := sc_law_pick
  obtain ⟨d, l, c, a, xs, rfl, Dw, hS, hN, hx0, hx1, q⟩ := h
  refine ⟨_, (pss_one (ps_ret (pe_ix (q_ixL K rfl) (pv 1) (pe_ok h__law_take (hr.mono (by decide)) (by rfl) (pa_cons (pv 0) (pa_cons (pe_callB (q_len K rfl) (by rfl) T.len PySem.boot_len (pa_cons (pv 1) pa_nil)) pa_nil))) (fun _ _ => rfl)))), ?_⟩
  refine ⟨_, rfl, _, rfl, _, rfl, a, xs, rfl, .inl hS, d, l, c, (xs.length : Int), rfl, Dw, by omega, by omega, fun k H2 hk0 hk1 n2 D2 => ?_⟩
  obtain ⟨j, rfl⟩ : ∃ j : Nat, k = (j : Int) := ⟨k.toNat, by omega⟩
  have hj : j < xs.length := by omega
  exact ⟨a, xs, (j : Int), xs[j], rfl, rfl, hN H2 n2, atI_nat (List.getElem?_eq_getElem hj), q _ _ (List.getElem_mem hj) n2 D2⟩
theorem sqL_nd {G H H' : Hp} {d l c a : Addr} {xs : List V} (v : Vw G H d l c) (h : SqL K G a xs) (n : Nd d l H H') : SqL K H' a xs := by
  have go : ∀ {o : HO}, G a = some o → H' a = some o := fun {o} e => n.hh a o (fun z => by rw [z, v.gd] at e; cases e) (fun z => by rw [z, v.gl] at e; cases e) (v.gh a o e)
  rcases h with (e | ⟨o, e⟩) | e
  · exact SqL.of (go e)
  · exact .inl (.inr ⟨o, go e⟩)
  · exact .inr e
/-- picked over a view -/
theorem pickG_go {G H : Hp} {d l c a : Addr} {xs : List V} {Q : VK} {E : XK} (v : Vw G H d l c) (h : SqL K G a xs) (h0 : 0 < xs.length) (h1 : xs.length < 1000000) (q : ∀ v H', v ∈ xs → Nd d l H H' → Drw H' d l c → Q v H') : spPickG K [.ref d, .ref a] H Q E :=
  ⟨d, l, c, a, xs, rfl, v.dr, v.gh.seq h, fun H' n => sqL_nd v h n, h0, h1, q⟩
end
/-! ### what was caught -/
section
variable {K : PySem.W.Frag} {CB ae d : Addr} {H : Hp} {σ : L2.St} {i : Nat} {t : TS} {D : Ends} {p : Str}
theorem chk_part (h : σ[i]? = some (some (.ref ae))) (ha : H ae = some (ErrO (.ref CB) (some d) ae)) (hd : H d = some (.xd [(("part" : Str), .str p)])) (EB : ExcC K CB) (kB : PySem.W.kitOne K (.ref CB) (.ref CB) = some true) (k : D.nx σ H) :
    tIfS (tOr (tNot (tB (tCB (rIsC2 K) (tCons (tVar i) (tCons (tC (.ref CB)) tNil))))) (tTest (tOp rNe (tErrFld CB "part" (tVar i)) (tC (.str p))))) t tNext D σ H := by
  refine ⟨_, h, .inr ⟨ae, CB, CB, some d, true, rfl, ha, fun dd e => by cases e; exact ⟨_, hd⟩, EB, kB, true, rfl, ?_⟩⟩
  show if (!true) = true then _ else _
  refine iteF ?_
  refine ⟨_, h, ae, d, .str p, rfl, ha, hd, rfl, _, rfl, if_off ?_ (nx_of k)⟩
  simp
end
/-! ### values and new lists of values, with what is known of them -/
def EvX (te : TE) (σ : L2.St) (G : Hp) (R : Hp → V → Prop) : Prop := ∀ H, Same G H → ∀ Q : VK, (∀ v G' H', Nx G H G' H' → R G' v → Q v H') → te σ H Q
def EvP (te : TE) (σ : L2.St) (G : Hp) (R : Hp → List V → Prop) : Prop := ∀ H, Same G H → ∀ Q : VK, (∀ p xs G' H', Nx G H G' H' → H p = none → G' p = none → H' p = some (.lst xs) → R G' xs → Q (.ref p) H') → te σ H Q
structure LcO (G1 H1 : Hp) (D : Addr) (R : Nat → Hp → V → Prop) (k : Nat) (Hc : Hp) : Prop where
  ex : ∃ Gi acc, Nx G1 H1 Gi Hc ∧ Gi D = none ∧ Hc D = some (.lst acc) ∧ acc.length = k ∧ ∀ (j : Nat) x, acc[j]? = some x → R j Gi x
section
variable {K : PySem.W.Frag} {σ : L2.St} {G H : Hp} {tl te : TE} {ds : List PyData}
theorem ep_lcL {i : Nat} {vs : List Nat} (R : Nat → Hp → V → Prop) (mono : ∀ k G G' v, Same G G' → R k G v → R k G' v) (h : EvD K tl σ G (.list ds)) (hw : ∀ v, wipe ((wipe σ vs).set i (some v)) vs = wipe σ vs) (hz : ds.length ≤ sizeLine)
    (he : ∀ (k : Nat) d v Gi, ds[k]? = some d → Same G Gi → Dp K Gi v d → EvX te ((wipe σ vs).set i (some v)) Gi (R k)) : EvP (tLc (iList K tl) (gName i) tYes te vs) σ G (fun G' xs => xs.length = ds.length ∧ ∀ (k : Nat) x, xs[k]? = some x → R k G' x) := fun H s Q q => h H s _ fun v G1 H1 n1 hv => by
  cases hv with
  | @lst a ys _ hs ha =>
    have lx := dpa_length ha
    refine ⟨a, rfl, ⟨ys, n1.gh.seq hs⟩, fun D hD => ?_⟩
    refine lc_list (K := K) (a := a) (xs := ys) (fun k Hc => LcO G1 H1 D R k Hc) ⟨G1, [], Nx.lay n1.gh hD, n1.gh.free hD, upd_same, rfl, fun j x z => nomatch z⟩ (fun k Hc _ p => ?_) (fun k x Hc hk p => ?_) fun Hc p => ?_
    · obtain ⟨Gi, acc, n, _⟩ := p.ex
      exact (n1.gh.trans n.hh).seq hs
    · obtain ⟨dk, hdk, hdx⟩ := dpa_get ha hk
      have hkl := (List.getElem?_eq_some_iff.mp hk).1
      obtain ⟨Gi, acc, n, g, e, la, hR⟩ := p.ex
      refine ⟨hw x, tyes ?_⟩
      refine he k dk x Gi hdk (n1.gg.trans n.gg) (dp_mono n.gg _ hdx) Hc n.gh _ fun y G4 H4 n4 hy => ?_
      have g4 : G4 D = none := (n4.fr D (ne_none e)).trans g
      have n14 := n.trans n4
      refine ⟨acc, n4.hh D _ e, by omega, G4, acc ++ [y], ⟨n14.gg, fun b u q => ?_, fun b u q => ?_, n14.fr⟩, g4, upd_same, by rw [List.length_append, la]; rfl, fun j z hz => ?_⟩
      · rw [upd_ne (ne_of_none q g4)]; exact n4.gh b u q
      · rw [upd_ne (ne_of_none q hD)]; exact n14.hh b u q
      · rcases Nat.lt_or_ge j acc.length with hj | hj
        · rw [List.getElem?_append_left hj] at hz
          exact mono _ _ _ _ n4.gg (hR j z hz)
        · rw [List.getElem?_append_right hj] at hz
          have : j = k := by
            rcases Nat.lt_or_ge (j - acc.length) 1 with q | q
            · omega
            · rw [List.getElem?_eq_none (by rw [List.length_singleton]; exact q)] at hz; cases hz
          subst this
          rw [la, Nat.sub_self] at hz
          cases hz
          exact hy
    · obtain ⟨Gi, acc, n, g, e, la, hR⟩ := p.ex
      exact q D acc Gi Hc (n1.trans n) (n1.hh.free hD) g e ⟨by rw [la, lx], hR⟩
end
/-! ### lots: what a machine is told by -/
abbrev Lot := List (List (Option Nat)) × List Nat
def lotD (t : Lot) : PyData := .tuple [.list (t.1.map wayL), .list (nsD t.2)]
def lotP (t : Lot) : PyData := .tuple [.tuple (t.1.map wayT), .tuple (nsD t.2)]
def NrsAt (K : PySem.W.Frag) (CM : Addr) (G : Hp) (L : Nat) (ts : List Lot) (xs : List V) : Prop := xs.length = ts.length ∧ ∀ (k : Nat) x, xs[k]? = some x → ∃ a t, ts[k]? = some t ∧ x = .ref a ∧ MacAt K CM G a L t.1 t.2
theorem NrsAt.mono {K : PySem.W.Frag} {CM : Addr} {G G' : Hp} {L : Nat} {ts : List Lot} {xs : List V} (h : NrsAt K CM G L ts xs) (s : Same G G') : NrsAt K CM G' L ts xs := ⟨h.1, fun k x e => by
  obtain ⟨a, t, h1, h2, h3⟩ := h.2 k x e
  exact ⟨a, t, h1, h2, h3.mono s⟩⟩
/-- an item of a tuple, read by any kind of index -/
theorem ro_ixQ {K : PySem.W.Frag} {ds : List PyData} {z : PyData} {i : Int} {k : Nat} (hi : i = (k : Int)) (hk : ds[k]? = some z) : ROp K (rIx K) (.tuple ds) (.int i) z := fun G H s vx vy dx dy Q q => .inr (.inl (ro_ixT hi hk G H s vx vy dx dy Q q))
section
variable {K : PySem.W.Frag} {σ : L2.St} {G H : Hp} {tl te : TE} {CM : Addr}
theorem em_lot {E : XK} {L : Nat} {t : Lot} {tL tw tq : TE} {vs : List Nat} {i : Nat} (M : MOk L t.1 t.2) (hL : EvD K tL σ G (.int (L : Int))) (hw : EvD K tw σ G (.list (t.1.map wayL))) (hq : EvD K tq σ G (.list (nsD t.2))) (hwi : ∀ v, wipe ((wipe σ vs).set i (some v)) vs = wipe σ vs) (hi : ∀ v, ((wipe σ vs).set i (some v))[i]? = some (some v)) :
    EvM K CM (tMake CM (spMI K CM) [] E (tCons tL (tCons (tLc (iList K tw) (gName i) tYes (tCB (rListQ K) (tCons (tVar i) tNil)) vs) (tCons (tCB (rListQ K) (tCons tq tNil)) tNil)))) σ G L t.1 t.2 := by
  have big : 100000 ≤ sizeLine := by decide
  have n2 := M.n2
  refine em_make hL (EvN.toD (EvN.cast (en_lcL1 (i := i) (fun d => d) hw hwi (by rw [List.length_map]; omega) fun d v Gi hd g hdv => ?_) (List.map_id _))) (ed_cb (ea_cons hq ea_nil) rcl_listL) M
  obtain ⟨o, _, rfl⟩ := List.mem_map.mp hd
  exact ed_cb (ea_cons (ed_var (i := i) (hi v) hdv) ea_nil) rcl_listL
end
def spCp (K : PySem.W.Frag) (CM : Addr) : Sp := fun vs H Q _ => ∃ (G : Hp) (v : V) (L : Nat) (t : Lot), Same G H ∧ vs = [.int (L : Int), v] ∧ Dp K G v (lotD t) ∧ MOk L t.1 t.2 ∧ ∀ g G' H', Nx G H G' H' → MacAt K CM G' g L t.1 t.2 → Q (.ref g) H'
section
variable {P : Program} {w : World} {K : PySem.W.Frag} {mg : Str → Option Value} {base : Heap} {f : Addr} {fd : FuncData} {CM : Addr}
theorem ok_law_copied (D : DefAt K mg "_law_copied" s_law_copied P_law_copied f fd) (T : Bt mg) (h_Machine : MkM P w K mg base "Machine" P_Machineinit 5 CM (spMI K CM)) : OkX P w K mg base "_law_copied" s_law_copied P_law_copied 8 (spCp K CM) := by
  refine D.okX (D.F.okX sc_law_copied (fun vs H Q E h => ?_) fun cdv A outer s H vs Q E hr h => ?_)
  · obtain ⟨G, v, L, t, _, rfl, _⟩ := h; rfl
  have S := sc_law_copied
  obtain ⟨G, v, L, t, hs, rfl, hv, M, q⟩ := h
  refine ⟨_, (pss_one (ps_ret (pe_mkM h_Machine (passes_call (takes_of rfl rfl rfl rfl) fun _ _ _ _ h => h) (hr.mono (by decide)) (by rfl) (pa_cons (pv 0) (pa_cons (pe_lc (own := [("line", 2)]) (g := gName 2) (by rfl) S.nd  (q_iL K rfl (pe_ix ix_seq (pv 1) pe_int (fun _ _ => rfl))) (blkOk_by (N := N_law_copied) (sc := defScope s_law_copied) (by decide +kernel)) (fun _ _ _ _ _ => (pg_name (i := 2) S.nd rfl (by first | exact .inl rfl | exact .inr rfl))) (fun _ _ _ _ _ => pts_nil) (fun _ _ _ _ _ => (pe_callTy (q_list K rfl) (by rfl) T.list (by decide +kernel) (pa_cons (pv 2) pa_nil)))) (pa_cons (pe_callTy (q_list K rfl) (by rfl) T.list (by decide +kernel) (pa_cons (pe_ix ix_seq (pv 1) pe_int (fun _ _ => rfl)) pa_nil)) pa_nil)))))), ?_⟩
  have at0 : ([PyData.list (t.1.map wayL), .list (nsD t.2)] : List PyData)[0]? = some (.list (t.1.map wayL)) := rfl
  refine (em_lot (K := K) (G := G) (CM := CM) (i := 2) M (ed_var (i := 0) rfl (.int (L : Int))) (ed_op (ed_var (i := 1) rfl hv) ed_int (ro_ixQ (k := 0) rfl rfl)) (ed_op (ed_var (i := 1) rfl hv) ed_int (ro_ixQ (k := 1) rfl rfl)) (fun _ => rfl) fun _ => rfl) H hs _ fun g G1 H1 n1 hg => q g G1 H1 n1 hg
end
end Gw
namespace Gw
open PySem PySem.Spec PyProof.Rows L2 LamX
/-! ### lists of objects: cut and joined -/
theorem cutV_to {xs : List V} {k : Nat} : cutV xs none (some (k : Int)) = xs.take k := by
  unfold cutV
  rw [HT.sIx_none, HT.sIx_nat, List.drop_zero, Nat.sub_zero]
  by_cases h : k ≤ xs.length
  · rw [Nat.min_eq_left h]
  · rw [Nat.min_eq_right (by omega), List.take_length, List.take_of_length_le (by omega)]
theorem cutV_from {xs : List V} {k : Nat} : cutV xs (some (k : Int)) none = xs.drop k := by
  unfold cutV
  rw [HT.sIx_none, HT.sIx_nat]
  by_cases h : k ≤ xs.length
  · rw [Nat.min_eq_left h, List.take_of_length_le (by rw [List.length_drop]; omega)]
  · rw [Nat.min_eq_right (by omega), Nat.sub_self, List.take_zero, List.drop_eq_nil_of_le (by omega)]
abbrev EvL (te : TE) (σ : L2.St) (G : Hp) (zs : List V) : Prop := EvP te σ G fun _ ys => ys = zs
section
variable {K : PySem.W.Frag} {σ : L2.St} {G G1 H : Hp} {te t2 : TE} {xs ys : List V} {i : Nat} {v : V} {p : Addr}
theorem EvL.mono (h : EvL te σ G xs) (g : Same G G1) : EvL te σ G1 xs := fun H s Q q => h H (g.trans s) Q fun p vs G' H' n hp gp e ha => by
  have hG1 : G1 p = none := s.free hp
  refine q p vs (fun a => match H a with | none => G' a | some _ => G1 a) H' ⟨fun a o ea => ?_, fun a o ea => ?_, n.hh, fun a ea => ?_⟩ hp (by simp only [hp]; exact gp) e ha
  · have := s a o ea
    simp only [this]; exact ea
  · cases q2 : H a with
    | none => simp only [q2] at ea; exact n.gh a o ea
    | some u =>
      simp only [q2] at ea
      exact n.hh a o (s a o ea)
  · cases q2 : H a with
    | none => exact absurd q2 ea
    | some u => rfl
theorem el_cut {tl th : TO} {lo hi : Option Int} (h : σ[i]? = some (some (.ref p))) (hp : G p = some (.lst xs)) (h1 : EvO K tl σ G lo) (h2 : EvO K th σ G hi) : EvL (tSl (rSlL K) (tVar i) tl th) σ G (cutV xs lo hi) := fun H s Q q =>
  ⟨_, h, h1 H s _ fun G2 H2 n2 => (h2.mono n2.gg) H2 n2.gh _ fun G3 H3 n3 => by
    have n := n2.trans n3
    refine ⟨_, _, rfl, SqL.of (n.gh _ _ (n.gg _ _ hp)), fun l hl => ?_⟩
    exact q l _ G3 _ (n.trans (Nx.lay n3.gh hl)) (n.hh.free hl) (n3.gh.free hl) upd_same rfl⟩
theorem el_one (h : σ[i]? = some (some v)) : EvL (tLst (tCons (tVar i) tNil)) σ G [v] := fun H s Q q => ⟨v, h, by show 1 ≤ sizeLine; decide, fun l hl => q l _ G _ (Nx.lay s hl) hl (s.free hl) upd_same rfl⟩
theorem el_non : EvL (tLst (tCons (tC .non) tNil)) σ G [.non] := fun H s Q q => ⟨by show 1 ≤ sizeLine; decide, fun l hl => q l _ G _ (Nx.lay s hl) hl (s.free hl) upd_same rfl⟩
theorem el_cat (h1 : EvL te σ G xs) (h2 : EvL t2 σ G ys) (hz : xs.length + ys.length ≤ sizeLine) : EvL (tOp rCat te t2) σ G (xs ++ ys) := fun H s Q q =>
  h1 H s _ fun p vs G1 H1 n1 hp gp e ha => (h2.mono n1.gg) H1 n1.gh _ fun p2 ws G2 H2 n2 hp2 gp2 e2 ha2 => by
    subst ha ha2
    exact ⟨p, p2, vs, ws, rfl, rfl, n2.hh _ _ e, e2, hz, fun p3 hp3 => q p3 (vs ++ ws) G2 _ ((n1.trans n2).trans (Nx.lay n2.gh hp3)) ((n1.trans n2).hh.free hp3) (n2.gh.free hp3) upd_same rfl⟩
theorem el_catV (h : σ[i]? = some (some (.ref p))) (hp : G p = some (.lst xs)) (h2 : EvL t2 σ G ys) (hz : xs.length + ys.length ≤ sizeLine) : EvL (tOp rCat (tVar i) t2) σ G (xs ++ ys) := fun H s Q q =>
  ⟨_, h, h2 H s _ fun p2 ws G2 H2 n2 hp2 gp2 e2 ha2 => by
    subst ha2
    exact ⟨p, p2, xs, ws, rfl, rfl, n2.hh _ _ (s _ _ hp), e2, hz, fun p3 hp3 => q p3 (xs ++ ws) G2 _ (n2.trans (Nx.lay n2.gh hp3)) (n2.hh.free hp3) (n2.gh.free hp3) upd_same rfl⟩⟩
/-- a new list comes into the view -/
theorem EvP.tell {R : Hp → List V → Prop} (h : EvP te σ G R) (mono : ∀ G G' xs, Same G G' → R G xs → R G' xs) (s : Same G H) {Q : VK} (k : ∀ p xs G1 H1, Nx G H G1 H1 → H p = none → G1 p = some (.lst xs) → R G1 xs → Q (.ref p) H1) : te σ H Q := h H s _ fun p xs G1 H1 n hp gp e ha => by
  obtain ⟨m, gi⟩ := n.tell hp gp e
  exact k p xs _ H1 m hp upd_same (mono _ _ _ gi ha)
end
/-! ### lists of the same objects are not unlike -/
def rNeSame : R2 := fun x y H Q => ∃ (a b : Addr) (xs : List V), x = .ref a ∧ y = .ref b ∧ H a = some (.lst xs) ∧ H b = some (.lst xs) ∧ (∀ v ∈ xs, ∃ c : Addr, v = .ref c) ∧ Q (.bl false) H
theorem vals_refs : ∀ {xs : List V} {us vs : List Value}, (∀ v ∈ xs, ∃ c : Addr, v = .ref c) → Vals xs us → Vals xs vs → us = vs
  | [], _, _, _, .nil, .nil => rfl
  | x :: xs, _, _, h, .cons a s, .cons b t => by
    obtain ⟨c, rfl⟩ := h x List.mem_cons_self
    cases a; cases b
    rw [vals_refs (fun v hv => h v (List.mem_cons_of_mem _ hv)) s t]
theorem op_neSame {X : Cx} (hu : X.A.units < cLine) : OpR X (compareOp .NotEq) rNeSame := by
  intro pins s σ H x y v u Q I rx ry hq
  obtain ⟨a, b, xs, rfl, rfl, ha, hb, hr, q⟩ := hq
  cases rx
  cases ry
  obtain ⟨us, r, pl, hz⟩ := I.list (SqL.of ha)
  obtain ⟨vs, r2, pl2, hz2⟩ := I.list (SqL.of hb)
  have e := vals_refs hr r r2
  subst e
  have h := SeqAt.RcNeAt.lists (A := X.A) (s := s) (e := fun _ => true) pl.isList pl2.isList rfl hu (fun j h1 h2 => SeqAt.EqAt.same _)
  refine h X.prog X.w X.xe _ ⟨.bl false, H, I, ?_, q⟩
  show RelV (.bl false) (Value.bool (!(List.range _).all fun _ => true))
  rw [show ((List.range us.toArray.size).all fun _ => true) = true from List.all_eq_true.mpr fun _ _ => rfl]
  rfl
/-! ### claims made, over a view -/
section
variable {K : PySem.W.Frag} {CC CG CM CB : Addr} {G1 H1 : Hp} {gg gw p : Addr} {xs : List V} {bs : List Int} {rs : List PyData} {ws : List (List (Option Nat))} {es : List Nat} {ts : List Lot} {Q : VK} {E : XK}
theorem nrJ_of {G : Hp} {m : Nat} (hp : G p = some (.lst xs) ∨ G p = some (.tup xs)) (hn : NrsAt K CM G ((m + 1) ^ 2) ts xs) (ln : ts.length = m + 1) (lm : m ≤ 12) : NrJ K CM G m (.ref p) true := by
  refine .inr ⟨p, xs, xs.map fun _ => true, rfl, hp, by rw [hn.1]; omega, List.length_map _, fun k v b h1 h2 => ?_, ?_⟩
  · obtain ⟨a, t, h3, rfl, h4⟩ := hn.2 k v h1
    rw [List.getElem?_map, h1] at h2
    cases h2
    exact .inl ⟨a, _, t.1, t.2, rfl, h4, by simp⟩
  · rw [hn.1, ln, decide_eq_true rfl, Bool.true_and]
    symm
    rw [List.all_eq_true]
    intro x hx
    obtain ⟨_, _, rfl⟩ := List.mem_map.mp hx
    rfl
theorem clm_init (s : Same G1 H1) (hg : GrpAt K CG G1 gg (bs.map .int) rs) (lb : bs.length ≤ 12) (hm : MacAt K CM G1 gw bs.length ws es) (hp : G1 p = some (.lst xs) ∨ G1 p = some (.tup xs)) (hn : NrsAt K CM G1 ((bs.length + 1) ^ 2) ts xs) (ln : ts.length = bs.length + 1)
    (q : ∀ g t G' H', Nx G1 H1 G' H' → ClmAt K CC G' g gg gw t xs → H1 g = none → Q (.ref g) H') : ∀ a dx, H1 a = none → H1 dx = none → dx ≠ a → spCI K CC CG CM CB [.ref a, .ref gg, .ref gw, .ref p] (upd (upd H1 dx (.own a)) a (.ins CC dx [])) (fun v H2 => v = .non ∧ Q (.ref a) H2) E := fun a dx ha hdx hne => by
  have s1 := same_upd (o := .own a) hdx
  have ha' : upd H1 dx (.own a) a = none := (upd_ne (Ne.symm hne)).trans ha
  have s2 := same_upd (o := .ins CC dx []) ha'
  have lbd : (bs.map PyData.int).length = bs.length := List.length_map _
  refine ⟨G1, a, dx, .ref gg, .ref gw, .ref p, (s.trans s1).trans s2, rfl, s.free ha, upd_same, .inr ⟨gg, bs.map .int, rs, rfl, hg, by omega, .inr ⟨by rw [lbd]; exact .inl ⟨gw, _, ws, es, rfl, hm, by simp⟩, .inr ⟨by rw [lbd]; exact nrJ_of hp hn ln lb, fun p' xs' t G' H' ep hp' nn g0 hg' ht => ⟨rfl, ?_⟩⟩⟩⟩⟩
  cases ep
  have ex : xs' = xs := by
    rcases hp with e | e <;> rcases hp' with e' | e' <;> rw [e] at e' <;> cases e' <;> rfl
  subst ex
  obtain ⟨nx, sG⟩ := obj_made s ha hdx hne nn hg'
  exact q a t _ H' nx ⟨⟨dx, upd_same⟩, same_tup sG ht⟩ ha
/-- the list of nears is not told to the view -/
theorem clm_initN (s : Same G1 H1) (gp : G1 p = none) (ep : H1 p = some (.lst xs)) (hg : GrpAt K CG G1 gg (bs.map .int) rs) (lb : bs.length ≤ 12) (hm : MacAt K CM G1 gw bs.length ws es) (hn : NrsAt K CM G1 ((bs.length + 1) ^ 2) ts xs) (ln : ts.length = bs.length + 1)
    (q : ∀ g t G' H', Nx G1 H1 G' H' → G' p = none → H' p = some (.lst xs) → ClmAt K CC G' g gg gw t xs → Q (.ref g) H') : ∀ a dx, H1 a = none → H1 dx = none → dx ≠ a → spCI K CC CG CM CB [.ref a, .ref gg, .ref gw, .ref p] (upd (upd H1 dx (.own a)) a (.ins CC dx [])) (fun v H2 => v = .non ∧ Q (.ref a) H2) E := by
  have g1 : Same G1 (upd G1 p (.lst xs)) := fun b u z => by rw [upd_ne (ne_of_none z gp)]; exact z
  have s1 : Same (upd G1 p (.lst xs)) H1 := fun b u z => by
    by_cases hb : b = p
    · subst hb; rw [upd_same] at z; rw [ep]; exact z
    · rw [upd_ne hb] at z; exact s b u z
  refine clm_init s1 (hg.mono g1) lb (hm.mono g1) (.inl upd_same) (hn.mono g1) ln fun g t G' H' n hc hg0 => ?_
  have gpe : G' p = some (.lst xs) := n.gg _ _ upd_same
  have gd : Same G1 (delH G' p) := fun a o e => (delH_ne (ne_of_none e gp)).trans (n.gg _ _ (g1 _ _ e))
  refine q g t (delH G' p) H' ⟨gd, fun a o e => ?_, n.hh, fun a ha => ?_⟩ delH_same (n.hh _ _ ep) ⟨?_, ?_⟩
  · by_cases h : a = p
    · subst h; rw [delH_same] at e; cases e
    · rw [delH_ne h] at e; exact n.gh _ _ e
  · by_cases h : a = p
    · subst h; rw [delH_same, gp]
    · rw [delH_ne h, n.fr a ha, upd_ne h]
  · obtain ⟨⟨dx, e⟩, _⟩ := hc
    exact ⟨dx, (delH_ne (fun z => by rw [z, gpe] at e; cases e)).trans e⟩
  · rcases hc.2 with (e | ⟨o, e⟩) | e
    · exact .inl (.inl ((delH_ne (fun z => by rw [z, gpe] at e; cases e)).trans e))
    · exact .inl (.inr ⟨o, (delH_ne (fun z => by rw [z, gpe] at e; cases e)).trans e⟩)
    · exact .inr e
end
end Gw
namespace Gw
open PySem PySem.Spec PyProof.Rows L2 LamX
/-! ### rows that may be shown -/
def rowD (r : List Int) : PyData := .tuple (r.map .int)
theorem small_len {x : Int} (h : 0 ≤ x ∧ x < 12) : (PyData.shown (.int x)).length ≤ 2 := by
  have e : ∀ k : Fin 12, (PyData.shown (.int (k.val : Int))).length ≤ 2 := by decide +kernel
  have := e ⟨x.toNat, by omega⟩
  rwa [show ((x.toNat : Nat) : Int) = x by omega] at this
theorem piled_small : ∀ {ws : List Int}, Letters 12 ws → piled (PyData.shownAll (ws.map .int)) ≤ 4 * ws.length
  | [], _ => by simp [PyData.shownAll, piled]
  | x :: ws, h => by
    have h1 := small_len (h x List.mem_cons_self)
    have h2 := piled_small (ws := ws) fun y hy => h y (List.mem_cons_of_mem _ hy)
    rw [List.map_cons, PyData.shownAll]
    simp only [piled, List.map_cons, List.sum_cons, List.length_cons] at h2 ⊢
    omega
theorem tuple_len (ts : List Str) : (tupleText ts).length ≤ piled ts + 3 := by
  have hl : ∀ b : Bool, ((if b = true then ",)" else ")" : String) : Str).length ≤ 2 := fun b => by cases b <;> decide
  unfold tupleText
  rw [strLen_append, strLen_append]
  have h1 : ((("(" : String) : Str)).length = 1 := by decide
  have h2 := hl (ts.length == 1)
  cases ts with
  | nil =>
    have : (Str.join ", " []).length = 0 := by decide
    omega
  | cons t r =>
    have := join_length_add (t :: r) (by simp)
    omega
theorem shown_row {ws : List Int} (h : Letters 12 ws) : (rowD ws).shown.length ≤ 4 * ws.length + 3 := by
  have h1 := piled_small h
  have h2 := tuple_len (PyData.shownAll (ws.map .int))
  show (tupleText (PyData.shownAll (ws.map .int))).length ≤ _
  omega
theorem showable_row : ∀ {ws : List Int}, Letters 12 ws → PyData.showableAll (ws.map .int) = true
  | [], _ => by simp [PyData.showableAll]
  | x :: ws, h => by
    have hx := h x List.mem_cons_self
    have h2 := showable_row (ws := ws) fun y hy => h y (List.mem_cons_of_mem _ hy)
    rw [List.map_cons, PyData.showableAll, h2, Bool.and_true]
    show decide (x.natAbs.log2 < 1920) = true
    refine decide_eq_true ?_
    have : x.natAbs.log2 ≤ x.natAbs := Nat.log2_le_self _
    omega
theorem nodict_row : ∀ (ws : List Int), PyData.hasDictAll (ws.map .int) = false
  | [] => by simp [PyData.hasDictAll]
  | x :: ws => by
    rw [List.map_cons, PyData.hasDictAll, nodict_row ws]
    simp [PyData.hasDict]
theorem depth_row : ∀ (ws : List Int), PyData.depthAll (ws.map .int) = 0
  | [] => rfl
  | x :: ws => by
    rw [List.map_cons, PyData.depthAll, depth_row ws]
    rfl
theorem showy_row {ws : List Int} (h : Letters 12 ws) (hl : ws.length ≤ 1000) : Showy (rowD ws) where
  s := by
    show (PyData.tuple (ws.map .int)).showable = true
    simp only [PyData.showable]
    exact showable_row h
  n := by
    show (PyData.tuple (ws.map .int)).hasDict = false
    simp only [PyData.hasDict]
    exact nodict_row ws
  z := by
    have := shown_row h
    exact Nat.le_trans (by omega : _ ≤ 5000) (by decide)
  p := by
    show (PyData.tuple (ws.map .int)).depth ≤ 60
    rw [PyData.depth, depth_row]
    omega
/-! ### rules as data -/
def ruleD (r : List Int × List Int) : PyData := .tuple [.tuple (r.1.map .int), .tuple (r.2.map .int)]
def RulesOk (n : Nat) (rs : List (List Int × List Int)) : Prop := ∀ r ∈ rs, r.1.length ≤ 40 ∧ r.2.length ≤ 40 ∧ Letters n r.1 ∧ Letters n r.2
theorem Letters.le {n m : Nat} {ws : List Int} (h : Letters n ws) (l : n ≤ m) : Letters m ws := fun x hx => by have := h x hx; omega
theorem RulesOk.le {n m : Nat} {rs : List (List Int × List Int)} (h : RulesOk n rs) (l : n ≤ m) : RulesOk m rs := fun r hr => by
  obtain ⟨h1, h2, h3, h4⟩ := h r hr
  exact ⟨h1, h2, h3.le l, h4.le l⟩
theorem RulesOk.app {n : Nat} {rs ss : List (List Int × List Int)} (h : RulesOk n rs) (h' : RulesOk n ss) : RulesOk n (rs ++ ss) := fun r hr => (List.mem_append.mp hr).elim (h r) (h' r)
theorem inR_let {n : Nat} {ws : List Int} (h : Letters n ws) : (ws.map PyData.int).all (inR 0 ((n : Int) - 1)) = true := by
  rw [List.all_eq_true]
  intro d hd
  obtain ⟨z, hz, rfl⟩ := List.mem_map.mp hd
  have := h z hz
  show (decide (0 ≤ z) && decide (z ≤ (n : Int) - 1)) = true
  rw [decide_eq_true (by omega : 0 ≤ z), decide_eq_true (by omega : z ≤ (n : Int) - 1)]
  rfl
theorem isShort_let {n : Nat} {ws : List Int} (h : Letters n ws) (hl : ws.length ≤ 40) : isShort n 40 (.tuple (ws.map .int)) = true := by
  show (decide (((ws.map PyData.int).length : Int) ≤ 40) && (ws.map PyData.int).all (inR 0 ((n : Int) - 1))) = true
  rw [inR_let h, List.length_map, decide_eq_true (by omega : (ws.length : Int) ≤ 40)]
  rfl
theorem isRule_ok {n : Nat} {r : List Int × List Int} (h : r.1.length ≤ 40 ∧ r.2.length ≤ 40 ∧ Letters n r.1 ∧ Letters n r.2) : isRuleD n (ruleD r) = true := by
  obtain ⟨h1, h2, h3, h4⟩ := h
  show (decide (2 = 2) && (isShort n 40 (.tuple (r.1.map .int)) && (isShort n 40 (.tuple (r.2.map .int)) && true))) = true
  rw [isShort_let h3 h1, isShort_let h4 h2]
  rfl
theorem rules_ok {n : Nat} {rs : List (List Int × List Int)} (h : RulesOk n rs) (hl : rs.length ≤ 40) : rulesD n (rs.map ruleD) = true := by
  have e : (rs.map ruleD).all (isRuleD n) = true := by
    rw [List.all_eq_true]
    intro d hd
    obtain ⟨r, hr, rfl⟩ := List.mem_map.mp hd
    exact isRule_ok (h r hr)
  show (decide ((rs.map ruleD).length ≤ 40) && (rs.map ruleD).all (isRuleD n)) = true
  rw [e, List.length_map, decide_eq_true hl]
  rfl
theorem areL_ok {n : Nat} {rs : List (List Int × List Int)} (h : RulesOk n rs) (hl : rs.length ≤ 40) : areR n (.list (rs.map ruleD)) = true := (Bool.true_and _).trans (rules_ok h hl)
theorem areT_ok {n : Nat} {rs : List (List Int × List Int)} (h : RulesOk n rs) (hl : rs.length ≤ 40) : areR n (.tuple (rs.map ruleD)) = true := (Bool.true_and _).trans (rules_ok h hl)
theorem szi_rule {r : List Int × List Int} (h1 : r.1.length ≤ 1000) (h2 : r.2.length ≤ 1000) : SzI (ruleD r) := fun ds e => by
  cases e
  refine ⟨by show 2 ≤ 1000; decide, fun x hx => ?_⟩
  have big : 1000 ≤ sizeLine := by decide
  simp only [List.mem_cons, List.not_mem_nil, or_false] at hx
  rcases hx with rfl | rfl
  · show (r.1.map PyData.int).length ≤ _; rw [List.length_map]; omega
  · show (r.2.map PyData.int).length ≤ _; rw [List.length_map]; omega
theorem szi_rules {n : Nat} {rs : List (List Int × List Int)} (h : RulesOk n rs) : ∀ d ∈ rs.map ruleD, SzI d := fun d hd => by
  obtain ⟨r, hr, rfl⟩ := List.mem_map.mp hd
  obtain ⟨h1, h2, _⟩ := h r hr
  exact szi_rule (by omega) (by omega)
theorem szL {n : Nat} {rs : List (List Int × List Int)} (h : RulesOk n rs) (hl : rs.length ≤ 1000) : SzR (.list (rs.map ruleD)) := ⟨by show (rs.map ruleD).length ≤ _; rw [List.length_map]; exact hl, szi_rules h⟩
theorem szT {n : Nat} {rs : List (List Int × List Int)} (h : RulesOk n rs) (hl : rs.length ≤ 1000) : SzR (.tuple (rs.map ruleD)) := ⟨by show (rs.map ruleD).length ≤ _; rw [List.length_map]; exact hl, szi_rules h⟩
/-! equal -/
theorem eqvAll_ints : ∀ ws : List Int, PyData.eqvAll (ws.map .int) (ws.map .int) = true
  | [] => by simp [PyData.eqvAll]
  | x :: ws => by rw [List.map_cons, PyData.eqvAll, eqvAll_ints ws]; simp [PyData.eqv]
theorem eqvAll_rules : ∀ rs : List (List Int × List Int), PyData.eqvAll (rs.map ruleD) (rs.map ruleD) = true
  | [] => by simp [PyData.eqvAll]
  | r :: rs => by
    rw [List.map_cons, PyData.eqvAll, eqvAll_rules rs]
    simp [ruleD, PyData.eqv, PyData.eqvAll, eqvAll_ints]
theorem textFrom_le : ∀ (ts : List Str) (k : Nat) (acc : Str), (textFrom k acc ts).length ≤ acc.length + piled ts
  | [], k, acc => Nat.le_add_right _ _
  | t :: r, k, acc => by
    have h := textFrom_le r (k + 1) (acc ++ (if k > 0 then ", " else "" : String) ++ t)
    have e : (acc ++ (if k > 0 then ", " else "" : String) ++ t).length ≤ acc.length + 2 + t.length := by
      rw [strLen_append, strLen_append]
      have : (((if k > 0 then ", " else "" : String) : String) : Str).length ≤ 2 := by
        split <;> decide
      omega
    show (textFrom (k + 1) (acc ++ (if k > 0 then ", " else "" : String) ++ t) r).length ≤ _
    simp only [piled, List.map_cons, List.sum_cons] at h ⊢
    omega
theorem log_small {k : Nat} (h : k ≤ 100000) : k.log2 < 1920 := by
  by_cases h0 : k = 0
  · subst h0; decide
  · exact (Nat.log2_lt h0).mpr (Nat.lt_of_le_of_lt h (by decide))
structure Cmp (n p : Nat) (d : PyData) : Prop where
  s : d.showable = true
  nd : d.hasDict = false
  z : d.shown.length ≤ n
  p : d.depth ≤ p
theorem Cmp.showy {n p : Nat} {d : PyData} (h : Cmp n p d) (hn : n ≤ 1000000) (hp : p ≤ 60) : Showy d := ⟨h.s, h.nd, Nat.le_trans h.z (Nat.le_trans hn (by decide)), Nat.le_trans h.p hp⟩
theorem Cmp.mono {n p n' p' : Nat} {d : PyData} (h : Cmp n p d) (hn : n ≤ n') (hp : p ≤ p') : Cmp n' p' d := ⟨h.s, h.nd, Nat.le_trans h.z hn, Nat.le_trans h.p hp⟩
theorem cmp_all {n p : Nat} : ∀ {ds : List PyData}, (∀ d ∈ ds, Cmp n p d) → PyData.showableAll ds = true ∧ PyData.hasDictAll ds = false ∧ piled (PyData.shownAll ds) ≤ ds.length * (n + 2) ∧ PyData.depthAll ds ≤ p
  | [], _ => ⟨by simp [PyData.showableAll], by simp [PyData.hasDictAll], by simp [PyData.shownAll, piled], by simp [PyData.depthAll]⟩
  | x :: ds, h => by
    obtain ⟨h1, h2, h3, h4⟩ := cmp_all (ds := ds) fun d hd => h d (List.mem_cons_of_mem _ hd)
    have hx := h x List.mem_cons_self
    refine ⟨by rw [PyData.showableAll, hx.s, h1]; rfl, by rw [PyData.hasDictAll, hx.nd, h2]; rfl, ?_, ?_⟩
    · have e : piled (PyData.shownAll (x :: ds)) = (x.shown.length + 2) + piled (PyData.shownAll ds) := by simp [PyData.shownAll, piled]
      have := hx.z
      rw [e, List.length_cons, Nat.succ_mul]
      omega
    · have := hx.p
      rw [PyData.depthAll]
      omega
theorem cmp_tup {n p : Nat} {ds : List PyData} (h : ∀ d ∈ ds, Cmp n p d) : Cmp (ds.length * (n + 2) + 3) (p + 1) (.tuple ds) := by
  obtain ⟨h1, h2, h3, h4⟩ := cmp_all h
  refine ⟨by rw [PyData.showable]; exact h1, by rw [PyData.hasDict]; exact h2, ?_, ?_⟩
  · have := tuple_len (PyData.shownAll ds)
    show (tupleText (PyData.shownAll ds)).length ≤ _
    omega
  · rw [PyData.depth]; omega
theorem cmp_lst {n p : Nat} {ds : List PyData} (h : ∀ d ∈ ds, Cmp n p d) : Cmp (ds.length * (n + 2) + 3) (p + 1) (.list ds) := by
  obtain ⟨h1, h2, h3, h4⟩ := cmp_all h
  refine ⟨by rw [PyData.showable]; exact h1, by rw [PyData.hasDict]; exact h2, ?_, ?_⟩
  · have h5 := textFrom_le (PyData.shownAll ds) 0 "["
    have h6 : ((("[" : String) : Str)).length = 1 := by decide
    have h7 : ((("]" : String) : Str)).length = 1 := by decide
    show (listText (PyData.shownAll ds)).length ≤ _
    unfold listText
    rw [strLen_append]
    omega
  · rw [PyData.depth]; omega
theorem cmp_int {i : Int} (h : i.natAbs ≤ 100000) : Cmp 1921 0 (.int i) :=
  have e : i.natAbs.log2 < 1920 := log_small h
  ⟨by rw [PyData.showable]; exact decide_eq_true e, by rw [PyData.hasDict], by rw [PyData.shown_int]; exact int_text_len_1921 e, by rw [PyData.depth]; exact Nat.le_refl _⟩
theorem cmp_bl {b : Bool} : Cmp 1921 0 (.bool b) := ⟨by rw [PyData.showable], by rw [PyData.hasDict], by cases b <;> decide, by rw [PyData.depth]; exact Nat.le_refl _⟩
theorem cmp_non : Cmp 1921 0 .none := ⟨by rw [PyData.showable], by rw [PyData.hasDict], by decide, by rw [PyData.depth]; exact Nat.le_refl _⟩
theorem cmp_word {ws : List Int} (h : Letters 12 ws) (hl : ws.length ≤ 1000) : Cmp 5000 1 (wD ws) := by
  have s := showy_row h hl
  refine ⟨s.s, s.n, ?_, ?_⟩
  · have := shown_row h
    show (rowD ws).shown.length ≤ _
    omega
  · show (rowD ws).depth ≤ 1
    unfold rowD
    rw [PyData.depth, depth_row]; omega
/-! ### lots shown -/
theorem eqv_sh {d : PyData} (h : SeqAt.shaped d = true) : PyData.eqv d d = true := by
  unfold SeqAt.shaped at h
  rw [Bool.and_eq_true] at h
  exact SeqAt.eqv_refl d h.1
theorem eqM_self (L : Nat) (ws : List (List (Option Nat))) (es : List Nat) : eqM L ws es L ws es = true := by
  unfold eqM
  rw [eqv_sh (shaped_int _), eqv_sh (shaped_ways ws), eqv_sh (shaped_ns es)]
  rfl
theorem eqG_self {bs rs : List PyData} (h : ShG bs rs) : eqG bs rs bs rs = true := by
  unfold eqG
  rw [eqv_sh h.b, eqv_sh h.r]
  rfl
theorem cmp_s {k : Nat} (h : k < 12) : Cmp 4 0 (.int (k : Int)) := by
  have e : (k : Int).natAbs.log2 < 1920 := log_small (by omega)
  have l := small_len (x := (k : Int)) ⟨by omega, by omega⟩
  exact ⟨by rw [PyData.showable]; exact decide_eq_true e, by rw [PyData.hasDict], by omega, by rw [PyData.depth]; exact Nat.le_refl _⟩
theorem cmp_n4 : Cmp 4 0 .none := ⟨by rw [PyData.showable], by rw [PyData.hasDict], by decide, by rw [PyData.depth]; exact Nat.le_refl _⟩
theorem cmp_way {w : List (Option Nat)} (h : ∀ k, some k ∈ w → k < 12) (hl : w.length ≤ 16) : Cmp 99 1 (wayT w) := by
  refine (cmp_tup (n := 4) (p := 0) (ds := w.map oD) fun d hd => ?_).mono (by rw [List.length_map]; omega) (Nat.le_refl _)
  obtain ⟨o, ho, rfl⟩ := List.mem_map.mp hd
  cases o with
  | none => exact cmp_n4
  | some k => exact cmp_s (h k ho)
theorem cmp_lot {L : Nat} {t : Lot} (M : MOk L t.1 t.2) (hL : L ≤ 16) (h4 : t.1.length ≤ 4) (le : t.2.length ≤ 4) : Cmp 825 3 (lotP t) := by
  have c1 : Cmp 409 2 (.tuple (t.1.map wayT)) := (cmp_tup (n := 99) (p := 1) (ds := t.1.map wayT) fun d hd => by
    obtain ⟨w, hw, rfl⟩ := List.mem_map.mp hd
    exact cmp_way (fun k hk => by have := (M.w w hw).s k hk; omega) (by have := (M.w w hw).l; omega)).mono (by rw [List.length_map]; omega) (Nat.le_refl _)
  have c2 : Cmp 409 2 (.tuple (nsD t.2)) := (cmp_tup (n := 4) (p := 0) (ds := nsD t.2) fun d hd => by
    obtain ⟨k, hk, rfl⟩ := List.mem_map.mp hd
    exact cmp_s (by have := M.e k hk; omega)).mono (by rw [List.length_map]; omega) (by omega)
  refine (cmp_tup (n := 409) (p := 2) (ds := [.tuple (t.1.map wayT), .tuple (nsD t.2)]) fun d hd => ?_).mono (by show 2 * (409 + 2) + 3 ≤ 825; omega) (Nat.le_refl _)
  simp only [List.mem_cons, List.not_mem_nil, or_false] at hd
  rcases hd with rfl | rfl
  · exact c1
  · exact c2
theorem mok_ends {L : Nat} {ws : List (List (Option Nat))} {es : List Nat} (M : MOk L ws es) : es.length ≤ ws.length := by
  have inc : ∀ i, i < es.length → i ≤ es.getD i 0 := fun i => by
    induction i with
    | zero => exact fun _ => Nat.zero_le _
    | succ i ih =>
      intro h
      have h1 := ih (by omega)
      have h2 := M.a i h
      omega
  rcases Nat.eq_zero_or_pos es.length with z | z
  · omega
  · have h1 := inc (es.length - 1) (by omega)
    have h2 : es.getD (es.length - 1) 0 ∈ es := by
      rw [List.getD_eq_getElem?_getD, List.getElem?_eq_getElem (by omega)]
      exact List.getElem_mem _
    have h3 := M.e _ h2
    omega
/-! ### what a claim is told by -/
def EvU (K : PySem.W.Frag) (tl : TE) (σ : L2.St) (G : Hp) (R : Hp → List V → Prop) : Prop := ∀ H, Same G H → ∀ Q : VK, (∀ p xs G1 H1, Nx G H G1 H1 → SqT K G1 p xs → R G1 xs → Q (.ref p) H1) → tl σ H Q
section
variable {K : PySem.W.Frag} {σ : L2.St} {G H : Hp} {tl te : TE} {ds : List PyData}
theorem en_lcU {i : Nat} {vs : List Nat} {R : Hp → List V → Prop} (h : EvU K tl σ G R) (ld : ∀ G1 xs, R G1 xs → xs.length = ds.length) (hw : ∀ v, wipe ((wipe σ vs).set i (some v)) vs = wipe σ vs) (hz : ds.length ≤ sizeLine)
    (he : ∀ G1 xs (k : Nat) v d Gi, R G1 xs → xs[k]? = some v → ds[k]? = some d → Same G1 Gi → EvD K te ((wipe σ vs).set i (some v)) Gi d) : EvN K (tLc (iTup K tl) (gName i) tYes te vs) σ G ds := fun H s Q q => h H s _ fun p xs G1 H1 n1 hs hR => by
  have lx := ld G1 xs hR
  refine ⟨p, rfl, ⟨xs, same_tup n1.gh hs⟩, fun D hD => ?_⟩
  refine lc_tup (K := K) (a := p) (xs := xs) (fun k Hc => LcI K G1 H1 D (ds.take k) Hc) (LcI.start n1.gh hD) (fun k Hc _ pI => ?_) (fun k x Hc hk pI => ?_) fun Hc pI => ?_
  · obtain ⟨Gi, acc, n, _⟩ := pI.ex
    exact same_tup (n1.gh.trans n.hh) hs
  · have hkl := (List.getElem?_eq_some_iff.mp hk).1
    obtain ⟨d, hd⟩ : ∃ d, ds[k]? = some d := ⟨_, List.getElem?_eq_getElem (by omega)⟩
    refine ⟨hw x, ?_⟩
    refine LcI.turn (b := true) (e := d) hD pI (by rw [List.length_take]; omega) (fun Gi g => eb_yes) (fun _ Gi g => he G1 xs k x d Gi hR hk hd g) fun H' p' => ?_
    rw [List.take_succ, hd]
    exact p'
  · rw [lx, List.take_length] at pI
    exact pI.finN n1 hD q
variable {CC CM : Addr}
theorem eu_told {j g gg gw t : Addr} {xs : List V} {L1 L2 : Nat} {t0 : Lot} {ts : List Lot} (h : σ[j]? = some (some (.ref g))) (O : OwnC K CC) (n2 : NoAttr K CC "words") (n3 : NoAttr K CC "nears") (hc : ClmAt K CC G g gg gw t xs) (hm : MacAt K CM G gw L1 t0.1 t0.2) (hn : NrsAt K CM G L2 ts xs) (ln : 0 < ts.length) (l9 : ts.length ≤ 100) :
    EvU K (tOp (rCatA K) (tTup (tCons (tFld K (tVar j) "words") tNil)) (tFld K (tVar j) "nears")) σ G (fun G1 ys => ys = .ref gw :: xs ∧ Same G G1) := fun H s Q q => by
  obtain ⟨⟨dx, e⟩, ht⟩ := hc
  have big : 100000 ≤ sizeLine := by decide
  refine fld_at h (s _ _ e) O.cl n2 look_words ⟨by show 1 ≤ sizeLine; omega, fun p hp => ?_⟩
  have n := Nx.new (o := .tup [.ref gw]) s hp
  refine fld_at h (n.hh _ _ (s _ _ e)) O.cl n3 look_nears ⟨p, t, _, _, rfl, rfl, SqT.of upd_same, same_tup n.hh (same_tup s ht), by have := hn.1; show 1 + xs.length ≤ sizeLine; omega, (fun z => nomatch z), fun _ z => ?_, fun _ _ p2 hp2 => ?_⟩
  · have := hn.1
    rw [z] at this
    simp at this
    omega
  · have n2 := n.trans (Nx.new (o := .tup ([.ref gw] ++ xs)) n.gh hp2)
    exact q p2 _ _ _ n2 (SqT.of upd_same) ⟨rfl, n2.gg⟩
theorem en_told {j g gg gw t i : Addr} {vs : List Nat} {xs : List V} {L1 L2 : Nat} {t0 : Lot} {ts : List Lot} (h : σ[j]? = some (some (.ref g))) (O : OwnC K CC) (n2 : NoAttr K CC "words") (n3 : NoAttr K CC "nears") (OM : OwnC K CM) (nw : NoAttr K CM "ways") (ne : NoAttr K CM "ends") (hc : ClmAt K CC G g gg gw t xs) (hm : MacAt K CM G gw L1 t0.1 t0.2) (hn : NrsAt K CM G L2 ts xs) (ln : 0 < ts.length) (l9 : ts.length ≤ 100)
    (hw : ∀ v, wipe ((wipe σ vs).set i (some v)) vs = wipe σ vs) (hi : ∀ v, ((wipe σ vs).set i (some v))[i]? = some (some v)) : EvN K (tLc (iTup K (tOp (rCatA K) (tTup (tCons (tFld K (tVar j) "words") tNil)) (tFld K (tVar j) "nears"))) (gName i) tYes (tTup (tCons (tFld K (tVar i) "ways") (tCons (tFld K (tVar i) "ends") tNil))) vs) σ G ((t0 :: ts).map lotP) := by
  have big : 100000 ≤ sizeLine := by decide
  have hn1 := hn.1
  refine en_lcU (eu_told h O n2 n3 hc hm hn ln l9) (fun G1 ys e => by rw [e.1, List.length_cons, List.length_map, List.length_cons, hn.1]) hw (by rw [List.length_map, List.length_cons]; omega) fun G1 ys k v d Gi e hv hd g => ?_
  obtain ⟨rfl, s1⟩ := e
  obtain ⟨a, tt, L, rfl, ed, hma⟩ : ∃ (a : Addr) (tt : Lot) (L : Nat), v = .ref a ∧ d = lotP tt ∧ MacAt K CM G a L tt.1 tt.2 := by
    rw [List.getElem?_map] at hd
    obtain ⟨tt, h1, rfl⟩ := Option.map_eq_some_iff.mp hd
    cases k with
    | zero => cases h1; cases hv; exact ⟨gw, t0, L1, rfl, rfl, hm⟩
    | succ k =>
      have h1 : ts[k]? = some tt := by simpa using h1
      have hv : xs[k]? = some v := by simpa using hv
      obtain ⟨a, t', h2, h3, h4⟩ := hn.2 k v hv
      rw [h1] at h2
      cases h2
      exact ⟨a, tt, _, h3, rfl, h4⟩
  subst ed
  obtain ⟨dx, v1, v2, v3, h0, h1, h2, h3⟩ := hma.mono (s1.trans g)
  exact ed_tup (ea_cons (ed_fld (i := i) (hi _) h0 OM.cl nw look_ways h2) (ea_cons (ed_fld (i := i) (hi _) h0 OM.cl ne look_ends h3) ea_nil)) (by show 2 ≤ sizeLine; omega)
end
end Gw
namespace Gw
open PySem PySem.Spec PyProof.Rows L2 LamX
/-! ### lists of things of several kinds -/
def EvV (ta : TA) (σ : L2.St) (G : Hp) (n : Nat) (B : Hp → V → Prop) : Prop := ∀ H, Same G H → ∀ Q : List V → Hp → Prop, (∀ vs G' H', Nx G H G' H' → vs.length = n → (∀ v ∈ vs, B G' v) → Q vs H') → ta σ H Q
section
variable {K : PySem.W.Frag} {σ : L2.St} {G G1 H : Hp} {te : TE} {ta : TA} {n i : Nat} {B : Hp → V → Prop} {v : V}
theorem EvX.mono (h : EvX te σ G B) (mono : ∀ G G' v, Same G G' → B G v → B G' v) (g : Same G G1) : EvX te σ G1 B := fun H s Q q => h H (g.trans s) Q fun v G' H' n hv => by
  obtain ⟨G2, n2, s2⟩ := n.over g s
  exact q v G2 H' n2 (mono _ _ _ s2 hv)
theorem ex_of {d : PyData} (h : EvD K te σ G d) (f : ∀ G' v, Same G G' → Dp K G' v d → B G' v) : EvX te σ G B := fun H s Q q => h H s _ fun v G1 H1 n1 hd => q v G1 H1 n1 (f G1 v n1.gg hd)
theorem ex_var (h : σ[i]? = some (some v)) (hb : B G v) : EvX (tVar i) σ G B := fun H s Q q => ⟨v, h, q v G H (Nx.refl s) hb⟩
theorem ex_P {R : Hp → List V → Prop} (h : EvP te σ G R) (mR : ∀ G G' xs, Same G G' → R G xs → R G' xs) (f : ∀ G' p xs, Same G G' → G' p = some (.lst xs) → R G' xs → B G' (.ref p)) : EvX te σ G B := fun H s Q q => h H s _ fun p xs G1 H1 n hp gp e hR => by
  obtain ⟨m, gi⟩ := n.tell hp gp e
  exact q _ _ H1 m (f _ p xs m.gg upd_same (mR _ _ _ gi hR))
theorem ev_nil : EvV tNil σ G 0 B := fun H s Q q => q [] G H (Nx.refl s) rfl fun v z => nomatch z
theorem ev_cons (mono : ∀ G G' v, Same G G' → B G v → B G' v) (h : EvX te σ G B) (t : ∀ G1, Same G G1 → EvV ta σ G1 n B) : EvV (tCons te ta) σ G (n + 1) B := fun H s Q q =>
  h H s _ fun v G1 H1 n1 hv => (t G1 n1.gg) H1 n1.gh _ fun vs G2 H2 n2 hl hvs => q (v :: vs) G2 H2 (n1.trans n2) (by rw [List.length_cons, hl]) fun u hu => by
    rcases List.mem_cons.mp hu with rfl | hu
    · exact mono _ _ _ n2.gg hv
    · exact hvs u hu
theorem seq_forV {g : TG} {tb u : TS} {D : Ends} (mono : ∀ G G' v, Same G G' → B G v → B G' v) (h : EvV ta σ G n B) (hz : n ≤ sizeLine) (s : Same G H) (k : ∀ p vs G1 H1, Nx G H G1 H1 → G1 p = some (.lst vs) → vs.length = n → (∀ v ∈ vs, B G1 v) → tFor (iList K (tC (.ref p))) g tb { D with nx := u D } σ H1) : tSeq (tFor (iList K (tLst ta)) g tb) u D σ H :=
  h H s _ fun vs G1 H1 n1 hl hv => ⟨by rw [hl]; exact hz, fun p hp => by
    have n2 := Nx.new (o := .lst vs) n1.gh hp
    exact k p vs _ _ (n1.trans n2) upd_same hl fun v hv' => mono _ _ _ n2.gg (hv v hv')⟩
end
/-! ### what is of another kind -/
section
variable {K : PySem.W.Frag} {C C1 a dx : Addr} {G : Hp} {v : V} {x : PyData} {fs : List (Str × V)}
theorem tyF_d (O : OwnC K C) (h : Dp K G v x) : TyF K C G v := ⟨_, fun H s => dp_ty s h, O.kit x⟩
theorem tyF_o (O1 : OwnC K C1) (k : PySem.W.kitOne K (.ref C1) (.ref C) = some false) (h : G a = some (.ins C1 dx fs)) : TyF K C G (.ref a) := ⟨_, fun H s => O1.tyx (s _ _ h), k⟩
theorem tyF_l {xs : List V} (O : OwnC K C) (h : G a = some (.lst xs)) : TyF K C G (.ref a) := ⟨_, lst_ty h, O.kit (.list [])⟩
variable {CM : Addr} {m : Nat}
theorem nrJ_d (h : Dp K G v x) (hx : isLT x = false) : NrJ K CM G m v false := .inl ⟨rfl, _, fun H s => dp_ty s h, by rw [kit_lt x, hx]⟩
theorem nrJ_dict {kvs : List (Key × V)} (h : G a = some (.dK kvs)) : NrJ K CM G m (.ref a) false := .inl ⟨rfl, .type "dict", fun H s => ty_mono s h, kit_lt (K := K) (.dict [])⟩
/-- a list of which each thing is judged -/
theorem nrJ_l {p : Addr} {xs : List V} {bs : List Bool} {b : Bool} (hp : G p = some (.lst xs)) (l : xs.length ≤ 100) (lb : bs.length = xs.length) (hj : ∀ (k : Nat) v b, xs[k]? = some v → bs[k]? = some b → JM K CM G (((m + 1) ^ 2 : Nat) : Int) v b) (hb : b = (decide (xs.length = m + 1) && bs.all id)) : NrJ K CM G m (.ref p) b := .inr ⟨p, xs, bs, rfl, .inl hp, l, lb, hj, hb⟩
theorem jm_yes {L : Nat} {ts : List Lot} {xs : List V} {k : Nat} (h : NrsAt K CM G L ts xs) (e : xs[k]? = some v) {n : Int} (hn : (L : Int) = n) : JM K CM G n v true := by
  obtain ⟨a, t, _, rfl, hm⟩ := h.2 k v e
  exact .inl ⟨a, L, t.1, t.2, rfl, hm, by rw [decide_eq_true hn]⟩
end
theorem cutV_m1 {xs : List V} : cutV xs none (some (-1)) = xs.take (xs.length - 1) := by
  unfold cutV
  rw [HT.sIx_none, List.drop_zero, Nat.sub_zero]
  congr 1
  show (if (-1 : Int) < 0 then ((-1 : Int) + (xs.length : Int)).toNat else min ((-1 : Int)).toNat xs.length) = xs.length - 1
  rw [if_pos (by decide)]
  omega
/-! ### claims refused -/
section
variable {K : PySem.W.Frag} {CC CG CM CB : Addr} {G1 H1 : Hp} {gg gw : Addr} {v1 v2 v3 : V} {bs : List Int} {rs : List PyData} {Q : VK} {E : XK}
theorem sp3 {a dx : Addr} (ha : H1 a = none) (hdx : H1 dx = none) (hne : dx ≠ a) : Same H1 (upd (upd H1 dx (.own a)) a (.ins CC dx [])) := by
  have ha' : upd H1 dx (.own a) a = none := (upd_ne (Ne.symm hne)).trans ha
  exact (same_upd (o := .own a) hdx).trans (same_upd (o := .ins CC dx []) ha')
theorem clm_bad1 (s : Same G1 H1) (hf : TyF K CG G1 v1) (q : ∀ d H', Same H1 H' → H' d = some (.xd (eF (.str "group"))) → E (.ref CB) (some d) H') : ∀ a dx, H1 a = none → H1 dx = none → dx ≠ a → spCI K CC CG CM CB [.ref a, v1, v2, v3] (upd (upd H1 dx (.own a)) a (.ins CC dx [])) (fun v H2 => v = .non ∧ Q (.ref a) H2) E := fun a dx ha hdx hne =>
  have s3 := sp3 (CC := CC) ha hdx hne
  ⟨G1, a, dx, v1, v2, v3, s.trans s3, rfl, s.free ha, upd_same, .inl ⟨hf, fun d H' s' hd => q d H' (s3.trans s') hd⟩⟩
theorem clm_bad2 (s : Same G1 H1) (hg : GrpAt K CG G1 gg (bs.map .int) rs) (lb : bs.length ≤ 12) (hf : JM K CM G1 (bs.length : Int) v2 false) (q : ∀ d H', Same H1 H' → H' d = some (.xd (eF (.str "words"))) → E (.ref CB) (some d) H') : ∀ a dx, H1 a = none → H1 dx = none → dx ≠ a → spCI K CC CG CM CB [.ref a, .ref gg, v2, v3] (upd (upd H1 dx (.own a)) a (.ins CC dx [])) (fun v H2 => v = .non ∧ Q (.ref a) H2) E := fun a dx ha hdx hne => by
  have s3 := sp3 (CC := CC) ha hdx hne
  have lbd : (bs.map PyData.int).length = bs.length := List.length_map _
  exact ⟨G1, a, dx, _, v2, v3, s.trans s3, rfl, s.free ha, upd_same, .inr ⟨gg, _, rs, rfl, hg, by omega, .inl ⟨by rw [lbd]; exact hf, fun d H' s' hd => q d H' (s3.trans s') hd⟩⟩⟩
theorem clm_bad3 (s : Same G1 H1) (hg : GrpAt K CG G1 gg (bs.map .int) rs) (lb : bs.length ≤ 12) (hm : JM K CM G1 (bs.length : Int) v2 true) (hf : NrJ K CM G1 bs.length v3 false) (q : ∀ d H', Same H1 H' → H' d = some (.xd (eF (.str "nears"))) → E (.ref CB) (some d) H') : ∀ a dx, H1 a = none → H1 dx = none → dx ≠ a → spCI K CC CG CM CB [.ref a, .ref gg, v2, v3] (upd (upd H1 dx (.own a)) a (.ins CC dx [])) (fun v H2 => v = .non ∧ Q (.ref a) H2) E := fun a dx ha hdx hne => by
  have s3 := sp3 (CC := CC) ha hdx hne
  have lbd : (bs.map PyData.int).length = bs.length := List.length_map _
  exact ⟨G1, a, dx, _, v2, v3, s.trans s3, rfl, s.free ha, upd_same, .inr ⟨gg, _, rs, rfl, hg, by omega, .inr ⟨by rw [lbd]; exact hm, .inl ⟨by rw [lbd]; exact hf, fun d H' s' hd => q d H' (s3.trans s') hd⟩⟩⟩⟩
end
end Gw
namespace Gw
open PySem PySem.Spec PyProof.Rows L2 LamX
/-! ### by keywords; the law's judges -/
def g04 {α : Type} : List α → List α → List α
  | [], [x, y, z, u] => [u, z, y, x]
  | _, _ => []
theorem g04_rel {vs : List V} {us : List Value} {zs : List V} {ws : List Value} (h : Vals vs us) (h' : Vals zs ws) : Vals (g04 vs zs) (g04 us ws) := by
  match vs, us, h, zs, ws, h' with
  | _, _, .nil, _, _, .cons x (.cons y (.cons z (.cons u .nil))) => exact .cons u (.cons z (.cons y (.cons x .nil)))
  | _, _, .cons _ _, _, _, _ => exact .nil
  | _, _, .nil, _, _, .nil => exact .nil
  | _, _, .nil, _, _, .cons _ .nil => exact .nil
  | _, _, .nil, _, _, .cons _ (.cons _ .nil) => exact .nil
  | _, _, .nil, _, _, .cons _ (.cons _ (.cons _ .nil)) => exact .nil
  | _, _, .nil, _, _, .cons _ (.cons _ (.cons _ (.cons _ (.cons _ _)))) => exact .nil
theorem kw04 {x p1 p2 p3 p4 : Str} {st : Stmt} (h : ∀ (kV doc pm : Value) (an : Option Addr) (cdv ct a b c d : Value), bindArgs (PySem.W.fnOf x x (defArgs st) (defBody st) (defScope st) .none kV doc pm an cdv ct) ⟨[], [(p4, d), (p3, c), (p2, b), (p1, a)]⟩ = pure [(p1, a), (p2, b), (p3, c), (p4, d)]) :
    KwOf x st [p1, p2, p3, p4] [p4, p3, p2, p1] g04 g04 := fun K f fd F => by
  obtain ⟨oc, od, kV, doc, pm, an, cdv, ct, osl, rfl, lk, hcd⟩ := F.ex
  refine ⟨fun s us ws _ hl => ?_, fun r r' => g04_rel r r'⟩
  match us, ws, hl with
  | [], [d, c, b, a], _ => exact .of_eq (h kV doc pm an cdv ct a b c d)
theorem kb_says : KwOf "says" s_says P_says ["other", "one", "letter", "claim"] g04 g04 := by unfold P_says; exact kw04 fun _ _ _ _ _ _ _ _ _ _ => rfl
section
variable {P : Program} {w : World} {K : PySem.W.Frag} {mg : Str → Option Value} {base : Heap} {f : Addr} {fd : FuncData}
def spTr : Sp := fun vs H Q _ => ∃ a b : Bool, vs = [.bl a, .bl b] ∧ Q (.bl (a == b)) H
theorem ok_law_is_truth (D : DefAt K mg "_law_is_truth" s_law_is_truth P_law_is_truth f fd) (T : Bt mg) : Ok P w K mg base "_law_is_truth" P_law_is_truth 1 spTr := by
  refine D.ok (D.F.ok sc_law_is_truth (fun vs H Q E h => ?_) fun cdv A outer s H vs Q E hr h => ?_)
  · obtain ⟨a, b, rfl, _⟩ := h; rfl
  have S := sc_law_is_truth
  obtain ⟨a, b, rfl, q⟩ := h
  refine ⟨_, (pss_one (ps_ret (pe_ifExp (pt_val (pv 1)) (pe_cmpR op_isBl (pv 0) pe_bl (nomark _)) (pe_cmpR op_isBl (pv 0) pe_bl (nomark _))))), ?_⟩
  cases b with
  | true => exact ⟨_, rfl, true, rfl, iteT ⟨_, rfl, a, true, rfl, rfl, by cases a <;> exact q⟩⟩
  | false => exact ⟨_, rfl, false, rfl, iteF ⟨_, rfl, a, false, rfl, rfl, by cases a <;> exact q⟩⟩
end
section
variable {K : PySem.W.Frag} {σ : L2.St} {G : Hp} {D ae : Addr} {j : Nat}
theorem ed_isc2 (h : σ[j]? = some (some (.ref ae))) (ha : G ae = some (ErrO (.ref D) none ae)) (T : ExcC K D) (hk : PySem.W.kitOne K (.ref D) (.ref D) = some true) : EvD K (tCB (rIsC2 K) (tCons (tVar j) (tCons (tC (.ref D)) tNil))) σ G (.bool true) := fun H s Q q =>
  ⟨_, h, .inr ⟨ae, D, D, none, true, rfl, s _ _ ha, (fun _ z => nomatch z), T, hk, q _ G H (Nx.refl s) (.bl _)⟩⟩
theorem ed_isc1 (h : σ[j]? = some (some (.ref ae))) (ha : G ae = some (ErrO (.ref D) none ae)) (T : ExcC K D) (hk : PySem.W.kitOne K (.ref D) (.ref D) = some true) : EvD K (tCB (rIsC K) (tCons (tVar j) (tCons (tC (.ref D)) tNil))) σ G (.bool true) := fun H s Q q =>
  ⟨_, h, .inr ⟨ae, D, D, true, rfl, s _ _ ha, T, hk, q _ G H (Nx.refl s) (.bl _)⟩⟩
end


section
variable {K : PySem.W.Frag} {σ : L2.St} {G : Hp} {E : XK}
theorem ed_tr {ta tb : TE} {a b : Bool} (h1 : EvD K ta σ G (.bool a)) (h2 : EvD K tb σ G (.bool b)) : EvD K (tCall spTr [] E (tCons ta (tCons tb tNil))) σ G (.bool (a == b)) := fun H s Q q =>
  h1 H s _ fun v G1 H1 n1 hv => (h2.mono n1.gg) H1 n1.gh _ fun w G2 H2 n2 hw => ⟨a, b, by rw [dp_bl hv, dp_bl hw]; rfl, q _ G2 H2 (n1.trans n2) (.bl _)⟩
end
section
variable {K : PySem.W.Frag} {CB ae d : Addr} {H : Hp} {σ : L2.St} {i : Nat} {t : TS} {D : Ends}
theorem chk_none (h : σ[i]? = some (some (.ref ae))) (ha : H ae = some (ErrO (.ref CB) (some d) ae)) (hd : H d = some (.xd (eF .non))) (EB : ExcC K CB) (kB : PySem.W.kitOne K (.ref CB) (.ref CB) = some true) (k : D.nx σ H) :
    tIfS (tOr (tNot (tB (tCB (rIsC2 K) (tCons (tVar i) (tCons (tC (.ref CB)) tNil))))) (tTest (tOp (fun x y H Q => y = .non ∧ Q (.bl (!decide (x = .non))) H) (tErrFld CB "part" (tVar i)) (tC .non)))) t tNext D σ H := by
  refine ⟨_, h, .inr ⟨ae, CB, CB, some d, true, rfl, ha, fun dd e => by cases e; exact ⟨_, hd⟩, EB, kB, true, rfl, ?_⟩⟩
  show if (!true) = true then _ else _
  refine iteF ?_
  refine ⟨_, h, ae, d, .non, rfl, ha, hd, rfl, _, rfl, if_off ?_ (nx_of k)⟩
  simp
end
/-! ### readings inside a comprehension -/
theorem blkOk_any {N : List Str} {sc scope : Scope} {own : List (Str × Nat)} (h : blkC N { scope with names := [] } scope own = true) : BlkOk N sc scope own := by
  have b := blkOk_by h
  refine ⟨b.kind, b.uniq, b.ix, fun y hy e => ?_, b.own⟩
  rcases b.free y hy e with z | z
  · cases z
  · cases z
theorem q_fld {X : Cx} (K : PySem.W.Frag) {e : Expr} {te : TE} {f : Str} {pos : Pos} (ek : X.K = K) (he : PE X e te) (hb : attributeBase e f X.env (eval e X.env) = eval e X.env) : PE X (.Attribute e f pos) (tFld K te f) := by subst ek; exact pe_fld he hb
/-! ### without tables -/
section
variable {K : PySem.W.Frag} {CC CG CM : Addr} {G : Hp} {g gg gw t : Addr} {L : Nat} {ws : List (List (Option Nat))} {es : List Nat} {xs : List V} {ts : List Lot} {bs rs : List PyData}
theorem MacAt.noT (h : MacAt K CM G g L ws es) : MacAt K CM (noT G) g L ws es := by
  obtain ⟨dx, v1, v2, v3, h0, h1, h2, h3⟩ := h
  exact ⟨dx, v1, v2, v3, noT_of h0 (fun _ z => nomatch z), dp_noT _ h1, dp_noT _ h2, dp_noT _ h3⟩
theorem GrpAt.noT (h : GrpAt K CG G g bs rs) : GrpAt K CG (noT G) g bs rs := by
  obtain ⟨dx, v1, v2, h0, h1, h2⟩ := h
  exact ⟨dx, v1, v2, noT_of h0 (fun _ z => nomatch z), dp_noT _ h1, dp_noT _ h2⟩
theorem ClmAt.noT (h : ClmAt K CC G g gg gw t xs) : ClmAt K CC (noT G) g gg gw t xs := ⟨h.1.elim fun dx e => ⟨dx, noT_of e (fun _ z => nomatch z)⟩, sqT_noT h.2⟩
theorem NrsAt.noT (h : NrsAt K CM G L ts xs) : NrsAt K CM (noT G) L ts xs := ⟨h.1, fun k x e => by
  obtain ⟨a, t, h1, h2, h3⟩ := h.2 k x e
  exact ⟨a, t, h1, h2, h3.noT⟩⟩
end
/-! ### steps of the walk -/
def backs : List (List Int) := [[0, 1], [1, 0], [0, 2, 1], [1, 0, 2], [0, 1, 2]]
theorem backs_ok : ∀ bs ∈ backs, isBackD (wD bs) = true ∧ 2 ≤ bs.length ∧ bs.length ≤ 3 ∧ Letters 12 bs := by
  intro bs h
  simp only [backs, List.mem_cons, List.not_mem_nil, or_false] at h
  have L : ∀ (ws : List Int), ws.all (fun x => decide (0 ≤ x) && decide (x < 12)) = true → Letters 12 ws := fun ws h x hx => by
    have := List.all_eq_true.mp h x hx
    rw [Bool.and_eq_true, decide_eq_true_iff, decide_eq_true_iff] at this
    exact this
  rcases h with rfl | rfl | rfl | rfl | rfl <;> exact ⟨by decide, by decide, by decide, L _ (by decide)⟩
section
variable {K : PySem.W.Frag} {σ : L2.St} {G H : Hp} {te : TE} {u : TS} {D : Ends} {x y : PyData} {d l c p : Addr} {TQ : List (Addr × Str)} {xs : List V} {o : HO}
theorem seq_two {i j : Nat} (h : EvD K te σ G (.tuple [x, y])) (s : Same G H) (k : ∀ v w G1 H1, Nx G H G1 H1 → Dp K G1 v x → Dp K G1 w y → u D ((σ.set i (some v)).set j (some w)) H1) : tSeq (tAsg te (gTup K 2 (gCons (gName i) (gCons (gName j) gNil)))) u D σ H := h H s _ fun v G1 H1 n1 hv => by
  cases hv with
  | @tup a xs _ hs ha =>
    obtain _ | ⟨h1, _ | ⟨h2, _ | _⟩⟩ := ha
    exact ⟨a, _, rfl, same_tup n1.gh hs, rfl, _, _, rfl, _, _, rfl, rfl, k _ _ G1 H1 n1 h1 h2⟩
theorem seq_letP {i : Nat} {R : Hp → List V → Prop} (h : EvP te σ G R) (s : Same G H) (k : ∀ p xs G1 H1, Nx G H G1 H1 → H p = none → G1 p = none → H1 p = some (.lst xs) → R G1 xs → u D (σ.set i (some (.ref p))) H1) : tSeq (tAsg te (gName i)) u D σ H := h H s _ fun p xs G1 H1 n hp gp e hR => k p xs G1 H1 n hp gp e hR
theorem vw_upd (v : Vw G H d l c) (g : G p = none) (h1 : p ≠ d) (h2 : p ≠ l) (h3 : p ≠ c) : Vw G (upd H p o) d l c :=
  ⟨fun b w q => by rw [upd_ne (ne_of_none q g)]; exact v.gh b w q, v.gd, v.gl, v.gc, v.dr.upd h1 h2 h3⟩
theorem mok_pos {L : Nat} {ws : List (List (Option Nat))} {es : List Nat} (M : MOk L ws es) : 0 < ws.length := M.n1
end
section
variable {K : PySem.W.Frag} {CC CG CM CB : Addr} {σ : L2.St} {G H : Hp} {gg gw p : Addr} {xs : List V} {bs : List Int} {rs : List PyData} {ws : List (List (Option Nat))} {es : List Nat} {ts : List Lot} {Q : VK} {E : XK} {i j k : Nat} {v1 v2 v3 : V}
theorem tm_clmN (h1 : σ[i]? = some (some (.ref gg))) (h2 : σ[j]? = some (some (.ref gw))) (h3 : σ[k]? = some (some (.ref p))) (s : Same G H) (gp : G p = none) (ep : H p = some (.lst xs)) (hg : GrpAt K CG G gg (bs.map .int) rs) (lb : bs.length ≤ 12) (hm : MacAt K CM G gw bs.length ws es) (hn : NrsAt K CM G ((bs.length + 1) ^ 2) ts xs) (ln : ts.length = bs.length + 1)
    (q : ∀ g t G' H', Nx G H G' H' → G' p = none → H' p = some (.lst xs) → ClmAt K CC G' g gg gw t xs → Q (.ref g) H') : tMake CC (spCI K CC CG CM CB) [] E (tCons (tVar i) (tCons (tVar j) (tCons (tVar k) tNil))) σ H Q := ⟨_, h1, _, h2, _, h3, clm_initN s gp ep hg lb hm hn ln q⟩
theorem tm_clm (h1 : σ[i]? = some (some (.ref gg))) (h2 : σ[j]? = some (some (.ref gw))) (h3 : σ[k]? = some (some (.ref p))) (s : Same G H) (hp : G p = some (.lst xs)) (hg : GrpAt K CG G gg (bs.map .int) rs) (lb : bs.length ≤ 12) (hm : MacAt K CM G gw bs.length ws es) (hn : NrsAt K CM G ((bs.length + 1) ^ 2) ts xs) (ln : ts.length = bs.length + 1)
    (q : ∀ g t G' H', Nx G H G' H' → ClmAt K CC G' g gg gw t xs → Q (.ref g) H') : tMake CC (spCI K CC CG CM CB) [] E (tCons (tVar i) (tCons (tVar j) (tCons (tVar k) tNil))) σ H Q := ⟨_, h1, _, h2, _, h3, clm_init s hg lb hm (.inl hp) hn ln fun g t G' H' n hc _ => q g t G' H' n hc⟩
/-- by keywords, the nears made a tuple of a list -/
theorem tm_clmK (h1 : σ[i]? = some (some (.ref gg))) (h2 : σ[j]? = some (some (.ref gw))) (h3 : σ[k]? = some (some (.ref p))) (s : Same G H) (hp : G p = some (.lst xs)) (hg : GrpAt K CG G gg (bs.map .int) rs) (lb : bs.length ≤ 12) (hm : MacAt K CM G gw bs.length ws es) (hn : NrsAt K CM G ((bs.length + 1) ^ 2) ts xs) (ln : ts.length = bs.length + 1)
    (q : ∀ g t G' H', Nx G H G' H' → ClmAt K CC G' g gg gw t xs → Q (.ref g) H') : tMakeK CC 0 3 (spCI K CC CG CM CB) gR E tNil (tCons (tCB (rTupQ K) (tCons (tVar k) tNil)) (tCons (tVar j) (tCons (tVar i) tNil))) σ H Q :=
  ⟨_, h3, p, xs, rfl, .inl ⟨SqL.of (s _ _ hp), fun l hl => by
    have n := Nx.new (o := .tup xs) s hl
    refine ⟨_, h2, _, h1, rfl, rfl, clm_init n.gh (hg.mono n.gg) lb (hm.mono n.gg) (.inr upd_same) (hn.mono n.gg) ln fun g t G' H' n2 hc _ => q g t G' H' (n.trans n2) hc⟩⟩⟩
theorem tm_bad1 (h1 : σ[i]? = some (some v1)) (h2 : σ[j]? = some (some v2)) (h3 : σ[k]? = some (some v3)) (s : Same G H) (hf : TyF K CG G v1) (q : ∀ d H', Same H H' → H' d = some (.xd (eF (.str "group"))) → E (.ref CB) (some d) H') : tMake CC (spCI K CC CG CM CB) [] E (tCons (tVar i) (tCons (tVar j) (tCons (tVar k) tNil))) σ H Q := ⟨_, h1, _, h2, _, h3, clm_bad1 s hf q⟩
theorem tm_bad2 (h1 : σ[i]? = some (some (.ref gg))) (h2 : σ[j]? = some (some v2)) (h3 : σ[k]? = some (some v3)) (s : Same G H) (hg : GrpAt K CG G gg (bs.map .int) rs) (lb : bs.length ≤ 12) (hf : JM K CM G (bs.length : Int) v2 false) (q : ∀ d H', Same H H' → H' d = some (.xd (eF (.str "words"))) → E (.ref CB) (some d) H') : tMake CC (spCI K CC CG CM CB) [] E (tCons (tVar i) (tCons (tVar j) (tCons (tVar k) tNil))) σ H Q := ⟨_, h1, _, h2, _, h3, clm_bad2 s hg lb hf q⟩
theorem tm_bad3 (h1 : σ[i]? = some (some (.ref gg))) (h2 : σ[j]? = some (some v2)) (h3 : σ[k]? = some (some v3)) (s : Same G H) (hg : GrpAt K CG G gg (bs.map .int) rs) (lb : bs.length ≤ 12) (hm : JM K CM G (bs.length : Int) v2 true) (hf : NrJ K CM G bs.length v3 false) (q : ∀ d H', Same H H' → H' d = some (.xd (eF (.str "nears"))) → E (.ref CB) (some d) H') : tMake CC (spCI K CC CG CM CB) [] E (tCons (tVar i) (tCons (tVar j) (tCons (tVar k) tNil))) σ H Q := ⟨_, h1, _, h2, _, h3, clm_bad3 s hg lb hm hf q⟩
theorem ty_sqT {t : Addr} (s : Same G H) (h : SqT K G t xs) : TyX K H (.ref t) (.type "tuple") := by
  rcases h with (h | ⟨o, h⟩) | ⟨o, its, n, h, c, _⟩
  · exact .base (.tup (s _ _ h))
  · exact .fTuple (s _ _ h)
  · exact .kTuple h c
theorem shaped_rule {as : List Int} : SeqAt.shaped (.tuple ([(as, ([] : List Int))].map ruleD)) = true := by
  refine shaped_flat fun d hd => ?_
  rw [List.mem_singleton.mp hd]
  have e1 : ∀ zs : List Int, PyData.canLayAll0 (zs.map .int) = true ∧ PyData.depthAll (zs.map .int) = 0 := fun zs => by
    induction zs with
    | nil => exact ⟨rfl, rfl⟩
    | cons z zs ih => exact ⟨by rw [List.map_cons, PyData.canLayAll0, ih.1]; rfl, by rw [List.map_cons, PyData.depthAll, ih.2]; rfl⟩
  have e1 := e1 as
  unfold ruleD
  constructor
  · simp only [PyData.canLay0, PyData.canLayAll0, e1.1, List.map_nil, Bool.and_self]
  · simp only [PyData.depth, PyData.depthAll, e1.2, List.map_nil]
    omega
end
def fP : PyData → PyData | .tuple [.list ws, .list es] => .tuple [.tuple (ws.map fun d => .tuple (itemsOf d)), .tuple es] | d => d
theorem fP_lot (t : Lot) : fP (lotD t) = lotP t := by
  show PyData.tuple [.tuple ((t.1.map wayL).map fun d => .tuple (itemsOf d)), .tuple (nsD t.2)] = _
  rw [List.map_map]
  rfl
theorem map_fP (ts : List Lot) : (ts.map lotD).map fP = ts.map lotP := by
  rw [List.map_map]
  exact List.map_congr_left fun t _ => fP_lot t
section
variable {K : PySem.W.Frag} {σ : L2.St} {G H : Hp} {ts : List Lot} {vs : List Nat}
theorem en_plain {m i j k : Nat} {v : V} (h : σ[m]? = some (some v)) (hv : Dp K G v (.list (ts.map lotD))) (l9 : ts.length ≤ 100) (hM : ∀ t ∈ ts, ∃ L, MOk L t.1 t.2) (hw : ∀ v1 v2, wipe (((wipe σ vs).set i (some v1)).set j (some v2)) vs = wipe σ vs) {ws : List Nat}
    (hi : ∀ v1 v2, (((wipe σ vs).set i (some v1)).set j (some v2))[i]? = some (some v1)) (hj : ∀ v1 v2, (((wipe σ vs).set i (some v1)).set j (some v2))[j]? = some (some v2))
    (hw2 : ∀ v1 v2 v3, wipe ((wipe (((wipe σ vs).set i (some v1)).set j (some v2)) ws).set k (some v3)) ws = wipe (((wipe σ vs).set i (some v1)).set j (some v2)) ws) (hk : ∀ v1 v2 v3, ((wipe (((wipe σ vs).set i (some v1)).set j (some v2)) ws).set k (some v3))[k]? = some (some v3)) :
    EvN K (tLc (iList K (tVar m)) (gTup K 2 (gCons (gName i) (gCons (gName j) gNil))) tYes (tTup (tCons (tCB (rTupQ K) (tCons (tLc (iList K (tVar i)) (gName k) tYes (tCB (rTupQ K) (tCons (tVar k) tNil)) ws) tNil)) (tCons (tCB (rTupQ K) (tCons (tVar j) tNil)) tNil))) vs) σ G (ts.map lotP) := by
  have big : 100000 ≤ sizeLine := by decide
  refine EvN.cast (en_lcL2 fP (ed_var h hv) hw (by rw [List.length_map]; omega) (fun d hd => ?_) fun x y v1 v2 Gi hm s h1 h2 => ?_) (map_fP ts)
  · obtain ⟨t, _, rfl⟩ := List.mem_map.mp hd
    exact ⟨_, _, rfl⟩
  · obtain ⟨t, ht, e⟩ := List.mem_map.mp hm
    obtain ⟨L, M⟩ := hM t ht
    have e2 : PyData.tuple [.list (t.1.map wayL), .list (nsD t.2)] = .tuple [x, y] := e
    injection e2 with e2
    injection e2 with ex e3
    injection e3 with ey _
    subst ex ey
    have n2 := M.n2
    refine EvD.cast (ed_tup (ea_cons (ed_cb (ea_cons (EvN.toD (en_lcL1 (i := k) (fun d => .tuple (itemsOf d)) (ed_var (hi v1 v2) h1) (hw2 v1 v2) (by rw [List.length_map]; omega) fun d v Gj hd g hdv => ?_)) ea_nil) rcl_tupleL) (ea_cons (ed_cb (ea_cons (ed_var (hj v1 v2) h2) ea_nil) rcl_tupleL) ea_nil)) (by show 2 ≤ sizeLine; omega)) rfl
    obtain ⟨o, _, rfl⟩ := List.mem_map.mp hd
    exact ed_cb (ea_cons (ed_var (hk v1 v2 v) hdv) ea_nil) rcl_tupleL
theorem showy_three {bs as : List Int} {ts : List Lot} (hb : Letters 12 bs) (lb : bs.length ≤ 12) (ha : Letters 12 as) (la : as.length ≤ 1000) (ht : ∀ t ∈ ts, Cmp 825 3 (lotP t)) (lt : ts.length ≤ 5) : Showy (.list [wD bs, .tuple ([(as, ([] : List Int))].map ruleD), .list (ts.map lotP)]) := by
  have c1 : Cmp 10013 4 (wD bs) := (cmp_word hb (by omega)).mono (by omega) (by omega)
  have cr : Cmp 10007 2 (ruleD (as, [])) := (cmp_tup (n := 5000) (p := 1) (ds := [wD as, wD []]) fun d hd => by
    simp only [List.mem_cons, List.not_mem_nil, or_false] at hd
    rcases hd with rfl | rfl
    · exact cmp_word ha la
    · exact cmp_word (fun x hx => nomatch hx) (Nat.zero_le _)).mono (by show 2 * (5000 + 2) + 3 ≤ 10007; omega) (Nat.le_refl _)
  have c2 : Cmp 10013 4 (.tuple ([(as, ([] : List Int))].map ruleD)) := (cmp_tup (n := 10007) (p := 2) fun d hd => by
    rw [List.mem_singleton.mp hd]; exact cr).mono (by show 1 * (10007 + 2) + 3 ≤ 10013; omega) (by omega)
  have c3 : Cmp 10013 4 (.list (ts.map lotP)) := (cmp_lst (n := 825) (p := 3) fun d hd => by
    obtain ⟨t, h, rfl⟩ := List.mem_map.mp hd
    exact ht t h).mono (by rw [List.length_map]; omega) (by omega)
  refine (cmp_lst (n := 10013) (p := 4) (ds := [wD bs, .tuple ([(as, ([] : List Int))].map ruleD), .list (ts.map lotP)]) fun d hd => ?_).showy (by show 3 * (10013 + 2) + 3 ≤ 1000000; omega) (by omega)
  simp only [List.mem_cons, List.not_mem_nil, or_false] at hd
  rcases hd with rfl | rfl | rfl
  · exact c1
  · exact c2
  · exact c3
theorem eb_same {te tb : TE} (h : ∀ H, Same G H → ∀ Q : VK, (∀ G1 H1, Nx G H G1 H1 → Q (.bl false) H1) → tOp rNeSame te tb σ H Q) : EvB K (tTest (tOp rNeSame te tb)) σ G false := fun H s Q q => h H s _ fun G1 H1 n => ⟨false, rfl, q G1 H1 n⟩
end
end Gw
namespace Gw
open PySem PySem.Spec PyProof.Rows L2 LamX
/-! ### claims compared, over a view -/
section
variable {K : PySem.W.Frag} {CC CG CM : Addr} {σ : L2.St} {G H : Hp} {g h gg gw t t2 : Addr} {xs ys : List V} {bs rs : List PyData} {L : Nat} {ws : List (List (Option Nat))} {es : List Nat} {e : Nat → Bool} {Q : VK} {E : XK} {c : Bool → Bool}
theorem rO_cc (O : OwnC K CC) (s : Same G H) (hc : ClmAt K CC G g gg gw t xs) (hc2 : ClmAt K CC G h gg gw t2 ys) (hg : GrpAt K CG G gg bs rs) (SG : ShG bs rs) (hm : MacAt K CM G gw L ws es) (p : PrsN K CM G xs ys e) (q : ∀ G' H', Nx G H G' H' → Q (.bl (c (AllE xs.length e))) H') : rOwnEq K CC (spCE K CC CG CM) E c (.ref g) (.ref h) H Q := by
  obtain ⟨⟨dx, e1⟩, _⟩ := id hc
  obtain ⟨⟨dx2, e2⟩, _⟩ := id hc2
  refine ⟨g, dx, _, _, rfl, s _ _ e1, O.tyx (s _ _ e2), (by show (_ || _) = true; rw [Bool.or_eq_true]; left; exact beq_self_eq_true _), G, g, gg, gw, t, xs, _, s, rfl, hc, .inr ⟨h, gg, gw, t2, ys, e, bs, rs, bs, rs, L, ws, es, L, ws, es, rfl, hc2, hg, hg, SG, SG, hm, hm, p, fun G' H' n => ⟨_, rfl, ?_⟩⟩⟩
  have h := q G' H' n
  rw [eqG_self SG, eqM_self, Bool.true_and, Bool.true_and]
  exact h
theorem rO_cl {p : Addr} {zs : List V} (O : OwnC K CC) (s : Same G H) (hc : ClmAt K CC G g gg gw t xs) (hp : G p = some (.lst zs)) (q : ∀ G' H', Nx G H G' H' → Q (.bl (c false)) H') : rOwnEq K CC (spCE K CC CG CM) E c (.ref g) (.ref p) H Q := by
  obtain ⟨⟨dx, e1⟩, _⟩ := id hc
  exact ⟨g, dx, _, _, rfl, s _ _ e1, lst_ty hp _ s, O.nf (.list []), G, g, gg, gw, t, xs, _, s, rfl, hc, .inl ⟨tyF_l O hp, fun G' H' n => ⟨_, rfl, q G' H' n⟩⟩⟩
theorem prsN_same (hr : ∀ v ∈ xs, ∃ c : Addr, v = .ref c) : PrsN K CM G xs xs fun _ => true := ⟨rfl, fun i x y h1 h2 => by
  rw [h1] at h2
  cases h2
  obtain ⟨c, rfl⟩ := hr x (List.mem_of_getElem? h1)
  exact .inl ⟨c, rfl, rfl, rfl⟩⟩
theorem allE_true (n : Nat) : AllE n (fun _ => true) = true := allE_yes fun _ _ => rfl
end
/-! ### a machine of one state without ways -/
abbrev oneW (W : Nat) : List (List (Option Nat)) := [List.replicate W none]
theorem flat_one {α : Type} (x : α) : ∀ n : Nat, (List.replicate n [x]).flatten = List.replicate n x
  | 0 => rfl
  | n + 1 => by rw [List.replicate_succ, List.replicate_succ, List.flatten_cons, flat_one x n]; rfl
theorem wayL_none (W : Nat) : PyData.list (List.replicate W [PyData.none]).flatten = wayL (List.replicate W none) := by
  unfold wayL
  rw [flat_one, List.map_replicate]
  rfl
theorem oneW_ok {W : Nat} {es : List Nat} (h1 : 1 ≤ W) (h2 : W ≤ 169) (he : es = [0] ∨ es = []) : MOk W (oneW W) es := by
  refine ⟨h1, h2, Nat.le_refl _, by show 1 ≤ 2000; decide, fun w hw => ?_, fun k hk => ?_, fun i hi => ?_, ?_⟩
  · rw [List.mem_singleton.mp hw]
    refine ⟨List.length_replicate, fun k hk => ?_⟩
    have := List.eq_of_mem_replicate hk
    cases this
  · rcases he with rfl | rfl
    · rw [List.mem_singleton.mp hk]; exact Nat.zero_lt_one
    · cases hk
  · rcases he with rfl | rfl
    · have : i + 1 < 1 := hi
      omega
    · exact absurd hi (Nat.not_lt_zero _)
  · rcases he with rfl | rfl <;> decide
theorem en_repE {K : PySem.W.Frag} {σ : L2.St} {G : Hp} {tl tk : TE} {ds : List PyData} {k : Int} (h : EvN K tl σ G ds) (hk : EvD K tk σ G (.int k)) (h0 : 0 ≤ k) (h1 : k ≤ 1000) (hz : ds.length ≤ 1000) : EvN K (tOp rRep tl tk) σ G (List.replicate k.toNat ds).flatten := fun H s Q q =>
  h H s _ fun p vs G' H' n hp gp e hv => (hk.mono n.gg) H' n.gh _ fun w G2 H2 n2 hw => by
    rw [dp_int hw]
    have n12 := n.trans n2
    have gp2 : G2 p = none := (n2.fr p (ne_none e)).trans gp
    refine ⟨p, k, vs, rfl, rfl, n2.hh _ _ e, by omega, by omega, ?_, fun p2 hp2 => q p2 _ G2 _ (n12.trans (Nx.lay n2.gh hp2)) (n12.hh.free hp2) (n2.gh.free hp2) upd_same ?_⟩
    · rw [dpa_length hv]
      have h2 : ds.length * k.toNat ≤ 1000 * 1000 := Nat.mul_le_mul hz (by omega)
      exact Nat.le_trans h2 (by decide)
    · have hv2 := dpa_mono n2.gg _ hv
      have rep : ∀ m : Nat, DpAll K G2 (List.replicate m vs).flatten (List.replicate m ds).flatten := fun m => by
        induction m with
        | zero => exact .nil
        | succ m ih => rw [List.replicate_succ, List.replicate_succ, List.flatten_cons, List.flatten_cons]; exact dpa_append hv2 ih
      exact rep _
theorem em_one {K : PySem.W.Frag} {CM : Addr} {σ : L2.St} {G : Hp} {tk te2 : TE} {W : Nat} {es : List Nat} {E : XK} (hk : ∀ G1, Same G G1 → EvD K tk σ G1 (.int (W : Int))) (h2 : EvD K te2 σ G (.list (nsD es))) (h1 : 1 ≤ W) (h9 : W ≤ 169) (he : es = [0] ∨ es = []) : EvM K CM (tMake CM (spMI K CM) [] E (tCons tk (tCons (tLst (tCons (tOp rRep (tLst (tCons (tC .non) tNil)) tk) tNil)) (tCons te2 tNil)))) σ G W (oneW W) es := by
  have one1 : 1 ≤ sizeLine := by decide
  refine em_make (hk G (Same.refl _)) (EvD.cast (ed_lst (ea_cons (EvN.toD (en_repE (en_lst (ea_cons ed_non ea_nil) one1) (hk G (Same.refl _)) (by omega) (by omega) (by show 1 ≤ 1000; decide))) ea_nil) one1) ?_) h2 (oneW_ok h1 h9 he)
  show PyData.list [.list (List.replicate (W : Int).toNat [PyData.none]).flatten] = .list [wayL (List.replicate W none)]
  rw [Int.toNat_natCast, wayL_none]
/-! ### one near for another -/
section
variable {K : PySem.W.Frag} {CM : Addr} {G : Hp} {W : Nat} {ts : List Lot} {xs : List V}
theorem cut_set {α : Type} {l : List α} {n : Nat} (x : α) (h : n < l.length) : l.take n ++ [x] ++ l.drop (n + 1) = l.set n x := by
  rw [List.set_eq_take_append_cons_drop, if_pos h, List.append_assoc]
  rfl
theorem nrs_set {n : Nat} {a : Addr} {t : Lot} (h : NrsAt K CM G W ts xs) (ha : MacAt K CM G a W t.1 t.2) : NrsAt K CM G W (ts.set n t) (xs.set n (.ref a)) := ⟨by rw [List.length_set, List.length_set, h.1], fun k x e => by
  rw [List.getElem?_set] at e
  by_cases hk : n = k
  · subst hk
    rw [if_pos rfl] at e
    split at e
    · cases e
      rename_i hl
      exact ⟨a, t, by rw [List.getElem?_set, if_pos rfl, if_pos (by rw [← h.1]; exact hl)], rfl, ha⟩
    · cases e
  · rw [if_neg hk] at e
    obtain ⟨m, u, h1, h2, h3⟩ := h.2 k x e
    exact ⟨m, u, by rw [List.getElem?_set, if_neg hk, h1], h2, h3⟩⟩
theorem near_any {a b : Addr} {L L2 : Nat} {ws ws2 : List (List (Option Nat))} {es es2 : List Nat} (h1 : MacAt K CM G a L ws es) (h2 : MacAt K CM G b L2 ws2 es2) : ∃ e, NearE K CM G (.ref a) (.ref b) e := by
  by_cases h : a = b
  · subst h; exact ⟨true, .inl ⟨a, rfl, rfl, rfl⟩⟩
  · exact ⟨_, .inr ⟨a, b, L, ws, es, L2, ws2, es2, rfl, rfl, h, h1, h2, rfl⟩⟩
theorem prsN_set {n : Nat} {a : Addr} {e0 : Bool} {y : V} (hr : ∀ v ∈ xs, ∃ c : Addr, v = .ref c) (hy : xs[n]? = some y) (he : NearE K CM G (.ref a) y e0) : PrsN K CM G (xs.set n (.ref a)) xs fun i => if i = n then e0 else true := ⟨List.length_set, fun i x z h1 h2 => by
  rw [List.getElem?_set] at h1
  by_cases hk : n = i
  · subst hk
    rw [if_pos rfl] at h1
    split at h1
    · cases h1
      rw [hy] at h2
      cases h2
      show NearE K CM G (.ref a) y (if n = n then e0 else true)
      rw [if_pos rfl]
      exact he
    · cases h1
  · rw [if_neg hk, h2] at h1
    cases h1
    obtain ⟨c, rfl⟩ := hr _ (List.mem_of_getElem? h2)
    show NearE K CM G (.ref c) (.ref c) (if i = n then e0 else true)
    rw [if_neg (Ne.symm hk)]
    exact .inl ⟨c, rfl, rfl, rfl⟩⟩
theorem vw_back {G1 H : Hp} {d l c : Addr} (v : Vw G1 H d l c) (s : Same G G1) : Vw G H d l c := ⟨s.trans v.gh, s.free v.gd, s.free v.gl, s.free v.gc, v.dr⟩
end
/-! ### says, over a view -/
section
variable {K : PySem.W.Frag} {CC CG CM CB CN CW : Addr} {σ : L2.St} {G H : Hp} {E : XK} {g gg gw t : Addr} {xs : List V} {bs as cs : List Int} {rs : List PyData} {ts : List Lot} {y : PyData} {tt : Lot}
theorem says_good {vl v1 v2 : V} {Q : VK} (s : Same G H) (hc : ClmAt K CC G g gg gw t xs) (hg : GrpAt K CG G gg (bs.map .int) rs) (lb : bs.length ≤ 12) (hN : NrsAt K CM G ((bs.length + 1) ^ 2) ts xs) (hy : Dp K G vl y) (h1 : Dp K G v1 (wD as)) (h2 : Dp K G v2 (wD cs)) (ok : letOk bs.length y = true) (la : Letters bs.length as) (lc : Letters bs.length cs) (za : as.length ≤ 1000) (zc : cs.length ≤ 1000)
    (ht : ts[ixOf y]? = some tt) (M : MOk ((bs.length + 1) ^ 2) tt.1 tt.2) (q : ∀ G' H', Nx G H G' H' → Q (.bl (sayB bs.length tt.1 tt.2 as cs)) H') : spSA K CC CG CM CB CN CW [.ref g, vl, v1, v2] H Q E := by
  have big : 100000 ≤ sizeLine := by decide
  have hx : ∃ v, xs[ixOf y]? = some v := ⟨_, List.getElem?_eq_getElem (by rw [hN.1]; exact (List.getElem?_eq_some_iff.mp ht).1)⟩
  obtain ⟨v, hv⟩ := hx
  obtain ⟨a, t', h3, rfl, hm⟩ := hN.2 _ _ hv
  rw [ht] at h3
  cases h3
  have row : ∀ ws : List Int, Letters bs.length ws → isRow bs.length (wD ws) = true := fun ws h => inR_let h
  have sz : ∀ ws : List Int, ws.length ≤ 1000 → Sized (wD ws) := fun ws h => by show (ws.map PyData.int).length ≤ sizeLine; rw [List.length_map]; omega
  exact ⟨G, _, vl, v1, v2, s, rfl, .inr ⟨g, gg, gw, t, xs, bs, rs, y, wD as, wD cs, rfl, hc, hg, lb, hy, h1, h2, sz as za, sz cs zc, .inr ⟨ok, .inr (.inr ⟨as, cs, 0, _, a, tt.1, tt.2, rfl, rfl, row as la, row cs lc, la, lc, za, zc, hv, hm, rfl, M.n1, M.w, q⟩)⟩⟩⟩
theorem ed_says {i j k m : Nat} {vl v1 v2 : V} (e1 : σ[i]? = some (some (.ref g))) (e2 : σ[j]? = some (some vl)) (e3 : σ[k]? = some (some v1)) (e4 : σ[m]? = some (some v2)) (hc : ClmAt K CC G g gg gw t xs) (hg : GrpAt K CG G gg (bs.map .int) rs) (lb : bs.length ≤ 12) (hN : NrsAt K CM G ((bs.length + 1) ^ 2) ts xs) (hy : Dp K G vl y) (h1 : Dp K G v1 (wD as)) (h2 : Dp K G v2 (wD cs)) (ok : letOk bs.length y = true) (la : Letters bs.length as) (lc : Letters bs.length cs) (za : as.length ≤ 1000) (zc : cs.length ≤ 1000)
    (ht : ts[ixOf y]? = some tt) (M : MOk ((bs.length + 1) ^ 2) tt.1 tt.2) : EvD K (tCall (spSA K CC CG CM CB CN CW) [] E (tCons (tVar i) (tCons (tVar j) (tCons (tVar k) (tCons (tVar m) tNil))))) σ G (.bool (sayB bs.length tt.1 tt.2 as cs)) := fun H s Q q =>
  ⟨_, e1, _, e2, _, e3, _, e4, says_good s hc hg lb hN hy h1 h2 ok la lc za zc ht M fun G' H' n => q _ G' H' n (.bl _)⟩
theorem ed_saysK {i j k m : Nat} {vl v1 v2 : V} (e1 : σ[i]? = some (some (.ref g))) (e2 : σ[j]? = some (some vl)) (e3 : σ[k]? = some (some v1)) (e4 : σ[m]? = some (some v2)) (hc : ClmAt K CC G g gg gw t xs) (hg : GrpAt K CG G gg (bs.map .int) rs) (lb : bs.length ≤ 12) (hN : NrsAt K CM G ((bs.length + 1) ^ 2) ts xs) (hy : Dp K G vl y) (h1 : Dp K G v1 (wD as)) (h2 : Dp K G v2 (wD cs)) (ok : letOk bs.length y = true) (la : Letters bs.length as) (lc : Letters bs.length cs) (za : as.length ≤ 1000) (zc : cs.length ≤ 1000)
    (ht : ts[ixOf y]? = some tt) (M : MOk ((bs.length + 1) ^ 2) tt.1 tt.2) : EvD K (tCallK (spSA K CC CG CM CB CN CW) g04 E tNil (tCons (tVar m) (tCons (tVar k) (tCons (tVar j) (tCons (tVar i) tNil))))) σ G (.bool (sayB bs.length tt.1 tt.2 as cs)) := fun H s Q q =>
  ⟨_, e4, _, e3, _, e2, _, e1, says_good s hc hg lb hN hy h1 h2 ok la lc za zc ht M fun G' H' n => q _ G' H' n (.bl _)⟩
end
end Gw
namespace Gw
open PySem PySem.Spec PyProof.Rows L2 LamX
/-! ### what is refused -/
theorem ed_m1 {K : PySem.W.Frag} {σ : L2.St} {G : Hp} : EvD K (tUn (rU fun i => V.int (-i)) (tC (.int 1))) σ G (.int (-1)) := fun H s Q q => ⟨1, rfl, q _ G H (Nx.refl s) (.int _)⟩
def wrongs (n : Int) : List PyData := [.none, .int 5, .list [.int 0], .tuple [.int n], .tuple [.int (-1)], .tuple [.bool true], .str "0"]
theorem off_rows {n : Nat} {x : PyData} (h : x ∈ wrongs (n : Int)) : isRow n x = false ∧ Sized x := by
  unfold wrongs at h
  simp only [List.mem_cons, List.not_mem_nil, or_false] at h
  have one : ∀ d : PyData, Sized (.tuple [d]) := fun d => by show 1 ≤ sizeLine; decide
  rcases h with rfl | rfl | rfl | rfl | rfl | rfl | rfl
  · exact ⟨rfl, trivial⟩
  · exact ⟨rfl, trivial⟩
  · exact ⟨rfl, trivial⟩
  · refine ⟨?_, one _⟩
    show ((decide (0 ≤ (n : Int)) && decide ((n : Int) ≤ (n : Int) - 1)) && true) = false
    rw [decide_eq_false (by omega : ¬ (n : Int) ≤ (n : Int) - 1)]
    simp
  · refine ⟨?_, one _⟩
    show ((decide (0 ≤ (-1 : Int)) && decide ((-1 : Int) ≤ (n : Int) - 1)) && true) = false
    simp
  · exact ⟨rfl, one _⟩
  · exact ⟨rfl, trivial⟩
section
variable {K : PySem.W.Frag} {G H H' H20 : Hp} {d l c : Addr}
theorem vw_lam (v : Vw (noT G) H d l c) (e : ExtN H H20) (s : Same H20 H') : Vw (noT G) H' d l c :=
  ⟨fun a o h => s _ _ (e a o (v.gh a o h) (noT_inv h).2), v.gd, v.gl, v.gc, by
    obtain ⟨r, t, ls, cs, h1, h2, h3, h4, h5⟩ := v.dr.at'
    exact ⟨v.dr.ne, r, t, ls, cs, s _ _ (e _ _ h1 (fun _ z => nomatch z)), s _ _ (e _ _ h2 (fun _ z => nomatch z)), s _ _ (e _ _ h3 (fun _ z => nomatch z)), h4, h5⟩⟩
theorem vw_noT (v : Vw G H d l c) : Vw (noT G) H d l c := vw_back v noT_same
variable {CM CG CC CB CN CW p : Addr} {us : List V} {w : V} {b : Bool} {m : Nat}
theorem nrJ_all (hp : G p = some (.lst us)) (l9 : us.length ≤ 100) (hu : ∀ v ∈ us, JM K CM G (((m + 1) ^ 2 : Nat) : Int) v true) (no : us.length ≠ m + 1) : NrJ K CM G m (.ref p) false :=
  nrJ_l hp l9 (bs := us.map fun _ => true) (List.length_map _) (fun k v b h1 h2 => by
    rw [List.getElem?_map, h1] at h2
    cases h2
    exact hu v (List.mem_of_getElem? h1)) (by rw [decide_eq_false no]; rfl)
theorem nrJ_app (hp : G p = some (.lst (us ++ [w]))) (l9 : us.length ≤ 90) (hu : ∀ v ∈ us, JM K CM G (((m + 1) ^ 2 : Nat) : Int) v true) (hw : JM K CM G (((m + 1) ^ 2 : Nat) : Int) w b) (no : us.length ≠ m ∨ b = false) : NrJ K CM G m (.ref p) false :=
  nrJ_l hp (by rw [List.length_append, List.length_singleton]; omega) (bs := us.map (fun _ => true) ++ [b]) (by rw [List.length_append, List.length_append, List.length_map]; rfl) (fun k v b' h1 h2 => by
    rcases Nat.lt_or_ge k us.length with hk | hk
    · rw [List.getElem?_append_left hk] at h1
      rw [List.getElem?_append_left (by rw [List.length_map]; exact hk), List.getElem?_map, h1] at h2
      cases h2
      exact hu v (List.mem_of_getElem? h1)
    · rw [List.getElem?_append_right hk] at h1
      rw [List.getElem?_append_right (by rw [List.length_map]; exact hk), List.length_map] at h2
      cases e : k - us.length with
      | zero => rw [e] at h1 h2; cases h1; cases h2; exact hw
      | succ n => rw [e] at h1; cases h1) (by
    rw [List.length_append, List.length_singleton]
    rcases no with no | no
    · rw [decide_eq_false (by omega : ¬ us.length + 1 = m + 1)]; rfl
    · subst no
      rw [List.all_append]
      simp)
theorem jm_mem {L : Nat} {ts : List Lot} {xs : List V} (h : NrsAt K CM G L ts xs) {v : V} (hv : v ∈ xs) {n : Int} (hn : (L : Int) = n) : JM K CM G n v true := by
  obtain ⟨k, hk⟩ := List.getElem?_of_mem hv
  exact jm_yes h hk hn
theorem jm_mac {a : Addr} {L : Nat} {ws : List (List (Option Nat))} {es : List Nat} (h : MacAt K CM G a L ws es) (n : Int) : JM K CM G n (.ref a) (decide ((L : Int) = n)) := .inl ⟨a, L, ws, es, rfl, h, rfl⟩
variable {vc vl v1 v2 : V} {g gg gw t : Addr} {xs : List V} {bs : List Int} {rs : List PyData} {y x1 x2 : PyData} {Q : VK} {E : XK}
theorem says_bad1 (s : Same G H) (hf : TyF K CC G vc) (q : ∀ d H', Same H H' → H' d = some (.xd (eF .non)) → E (.ref CB) (some d) H') : spSA K CC CG CM CB CN CW [vc, vl, v1, v2] H Q E := ⟨G, vc, vl, v1, v2, s, rfl, .inl ⟨hf, q⟩⟩
theorem says_bad2 (s : Same G H) (hc : ClmAt K CC G g gg gw t xs) (hg : GrpAt K CG G gg (bs.map .int) rs) (lb : bs.length ≤ 12) (hy : Dp K G vl y) (no : letOk bs.length y = false) (q : ∀ d H', Same H H' → H' d = some (.xd (eF (.str "letter"))) → E (.ref CN) (some d) H') : spSA K CC CG CM CB CN CW [.ref g, vl, .non, .non] H Q E :=
  ⟨G, _, vl, .non, .non, s, rfl, .inr ⟨g, gg, gw, t, xs, bs, rs, y, .none, .none, rfl, hc, hg, lb, hy, .non, .non, trivial, trivial, .inl ⟨no, q⟩⟩⟩
theorem says_bad3 (s : Same G H) (hc : ClmAt K CC G g gg gw t xs) (hg : GrpAt K CG G gg (bs.map .int) rs) (lb : bs.length ≤ 12) (h1 : Dp K G v1 x1) (z1 : Sized x1) (no : isRow bs.length x1 = false) (q : ∀ G' H', Nx G H G' H' → E (.ref CW) none H') : spSA K CC CG CM CB CN CW [.ref g, .non, v1, .non] H Q E :=
  ⟨G, _, .non, v1, .non, s, rfl, .inr ⟨g, gg, gw, t, xs, bs, rs, .none, x1, .none, rfl, hc, hg, lb, .non, h1, .non, z1, trivial, .inr ⟨rfl, .inl ⟨no, q⟩⟩⟩⟩
theorem says_bad4 {b2 : 0 < bs.length} (s : Same G H) (hc : ClmAt K CC G g gg gw t xs) (hg : GrpAt K CG G gg (bs.map .int) rs) (lb : bs.length ≤ 12) (h1 : Dp K G v1 (.tuple [])) (h2 : Dp K G v2 x2) (z2 : Sized x2) (no : isRow bs.length x2 = false) (q : ∀ G' H', Nx G H G' H' → E (.ref CW) none H') : spSA K CC CG CM CB CN CW [.ref g, .int 0, v1, v2] H Q E :=
  ⟨G, _, .int 0, v1, v2, s, rfl, .inr ⟨g, gg, gw, t, xs, bs, rs, .int 0, .tuple [], x2, rfl, hc, hg, lb, .int 0, h1, h2, Nat.zero_le _, z2, .inr ⟨by
    show (decide ((0 : Int) ≤ 0) && decide ((0 : Int) ≤ (bs.length : Int) - 1)) = true
    rw [decide_eq_true (Int.le_refl 0), decide_eq_true (by omega : (0 : Int) ≤ (bs.length : Int) - 1)]
    rfl, .inr (.inl ⟨rfl, no, q⟩)⟩⟩⟩
def badLs (n : Int) : List PyData := [.int (-1), .int n, .bool true, .str "0", .tuple [.int 0]]
theorem badLs_off {n : Nat} {x : PyData} (h : x ∈ badLs (n : Int)) : letOk n x = false := by
  unfold badLs at h
  simp only [List.mem_cons, List.not_mem_nil, or_false] at h
  rcases h with rfl | rfl | rfl | rfl | rfl
  · show (decide (0 ≤ (-1 : Int)) && decide ((-1 : Int) ≤ (n : Int) - 1)) = false
    simp
  · show (decide (0 ≤ (n : Int)) && decide ((n : Int) ≤ (n : Int) - 1)) = false
    rw [decide_eq_false (by omega : ¬ (n : Int) ≤ (n : Int) - 1)]
    simp
  · rfl
  · rfl
  · rfl
end
def NoTb (G : Hp) : Prop := ∀ a ps, G a ≠ some (.tbl ps)
theorem noTb_noT (G : Hp) : NoTb (noT G) := fun a ps h => (noT_inv h).2 ps rfl
theorem same_noT {G G1 : Hp} (z : NoTb G) (s : Same G G1) : Same G (noT G1) := fun a o h => noT_of (s _ _ h) fun ps e => z a ps (by rw [h, e])
section
variable {K : PySem.W.Frag} {G : Hp} {C CM CG a : Addr} {L : Nat} {ws : List (List (Option Nat))} {es : List Nat} {bs rs : List PyData}
theorem tyF_mac (O : OwnC K CM) (k : PySem.W.kitOne K (.ref CM) (.ref C) = some false) (h : MacAt K CM G a L ws es) : TyF K C G (.ref a) := by
  obtain ⟨dx, v1, v2, v3, h0, _⟩ := h
  exact tyF_o O k h0
theorem tyF_grp (O : OwnC K CG) (k : PySem.W.kitOne K (.ref CG) (.ref C) = some false) (h : GrpAt K CG G a bs rs) : TyF K C G (.ref a) := by
  obtain ⟨dx, v1, v2, h0, _⟩ := h
  exact tyF_o O k h0
end
theorem drw_lam {H H20 H' : Hp} {d l c : Addr} (D : Drw H d l c) (e : ExtN H H20) (s : Same H20 H') : Drw H' d l c := by
  obtain ⟨r, t, ls, cs, h1, h2, h3, h4, h5⟩ := D.at'
  exact ⟨D.ne, r, t, ls, cs, s _ _ (e _ _ h1 (fun _ z => nomatch z)), s _ _ (e _ _ h2 (fun _ z => nomatch z)), s _ _ (e _ _ h3 (fun _ z => nomatch z)), h4, h5⟩
end Gw
namespace Gw
open PySem PySem.Spec PyProof.Rows L2 LamX
set_option maxHeartbeats 0 in
theorem ok_law {P : Program} {w : World} {K : PySem.W.Frag} {mg : Str → Option Value} {base : Heap} (T : Bt mg) {CC CG CM CS CB CBC CBN CW fC fN fGe fMe fCe : Addr} {fdGe fdMe fdCe : FuncData} (t_BadClaim : PySem.SupX.SupTxt P K mg "BadClaim" "part" CBC fC) (t_BadNumber : PySem.SupX.SupTxt P K mg "BadNumber" "part" CBN fN) (e_BadWord : Err K mg "BadWord" CW) (gG : mg "GroupError" = some (.ref CS)) (EC : ExcC K CBC) (EN : ExcC K CBN) (EW : ExcC K CW)
  (xC : PySem.W.exmOne K (.ref CBC) (.ref CS) = some true) (xN : PySem.W.exmOne K (.ref CBN) (.ref CS) = some true) (xW : PySem.W.exmOne K (.ref CW) (.ref CS) = some true) (kC : PySem.W.kitOne K (.ref CBC) (.ref CBC) = some true) (kN : PySem.W.kitOne K (.ref CBN) (.ref CBN) = some true) (kW : PySem.W.kitOne K (.ref CW) (.ref CW) = some true)
  (OG : OwnC K CG) (OM : OwnC K CM) (OC : OwnC K CC) (gb : NoAttr K CG "back") (gr : NoAttr K CG "rules") (ml : NoAttr K CM "letters") (mw : NoAttr K CM "ways") (me : NoAttr K CM "ends") (cg : NoAttr K CC "group") (cw : NoAttr K CC "words") (cn : NoAttr K CC "nears") (kMG : PySem.W.kitOne K (.ref CM) (.ref CG) = some false) (kGM : PySem.W.kitOne K (.ref CG) (.ref CM) = some false)
  (O_Group : OwnE K CG fGe) (F_Group : FnOk P w K mg base CX0 2 fGe fdGe P_Groupeq (spEQ K CG)) (b_Group : Binds K fdGe P_Groupeq []) (O_Machine : OwnE K CM fMe) (F_Machine : FnOk P w K mg base CX0 2 fMe fdMe P_Machineeq (spMQ K CM)) (b_Machine : Binds K fdMe P_Machineeq []) (O_Claim : OwnE K CC fCe) (F_Claim : FnOk P w K mg base CX0 5 fCe fdCe P_Claimeq (spCE K CC CG CM)) (b_Claim : Binds K fdCe P_Claimeq [])
  (h_Group : MkX P w K mg base "Group" P_Groupinit ["rules", "back"] 7 CG (spGI K CG CB) gR gR) (h_Machine : MkM P w K mg base "Machine" P_Machineinit 5 CM (spMI K CM)) (h_Claim : MkX P w K mg base "Claim" P_Claiminit ["nears", "words", "group"] 5 CC (spCI K CC CG CM CBC) gR gR) (h_says : OkX P w K mg base "says" s_says P_says 6 (spSA K CC CG CM CBC CBN CW))
  (h__law_begun : Ok P w K mg base "_law_begun" P_law_begun 1 (spBegun K)) (h__law_take : Ok P w K mg base "_law_take" P_law_take 2 spTake) (h__law_pick : Ok P w K mg base "_law_pick" P_law_pick 3 (spPickG K)) (h__law_word : Ok P w K mg base "_law_word" P_law_word 3 (spWord K))
  (h__law_pairs_read : Ok P w K mg base "_law_pairs_read" P_law_pairs_read 1 (SpD K R_law_pairs_read)) (h__law_went : Ok P w K mg base "_law_went" P_law_went 1 (SpD K R_law_went)) (h__law_machine_sketch : Ok P w K mg base "_law_machine_sketch" P_law_machine_sketch 4 (spSk K)) (h__law_copied : OkX P w K mg base "_law_copied" s_law_copied P_law_copied 8 (spCp K CM)) (h__law_is_truth : Ok P w K mg base "_law_is_truth" P_law_is_truth 1 spTr)
  {fq : Addr} {fdq : FuncData} (D_caught : DefAt K mg "_law_caught" s_law_caught P_law_caught fq fdq)
  {c0 Pt : Addr} (TB : LamX.TabB base mg c0 Pt)
  {f : Addr} {s : Shared} {H : Hp} {a : Addr} {ns : List Int} (hr : Room 12 (callerA.deeper (envOfC "law" (defScope s_law) s.heap.objs.size f (.ref c0)))) (hS : SqL K H a (ns.map V.int)) (h63 : ns.length ≤ 63) (hP : H Pt = some (.tbl #[])) :
  ∃ t, PSs (cxOf CX0 P w K mg base N_law "law" (defScope s_law) f (.ref c0) callerA [] s H E0).nox (defBody s_law) t ∧ t { nx := fun _ _ => V.non = V.bl true, rt := fun v _ => v = .bl true } (start N_law [.ref a]) H := by
  have S := sc_law
  obtain ⟨oc, od, kV, doc, pm, an, cdv, ct, osl, rfl, lk_caught, c_caught⟩ := D_caught.F.ex
  have m_caught := D_caught.m
  have k_caught := D_caught.F.kp
  have b_caught := D_caught.b
  have hcode : (.ref c0 : Value) = .ref c0 := rfl
  refine ⟨_, (pss_cons (ps_set (i := 1) S.nd rfl (by first | exact .inl rfl | exact .inr rfl) (pe_ok h__law_begun (hr.mono (by decide)) (by rfl) (pa_cons (pv 0) pa_nil)))
  (pss_cons (ps_for PassesOwn.never rfl (pi_range1 (by rfl) T.range (pa_cons (pe_op op_add pe_int (pe_callB (call_min2 rfl) (by rfl) T.min (by decide +kernel) (pa_cons (pe_callB (q_len K rfl) (by rfl) T.len PySem.boot_len (pa_cons (pv 0) pa_nil)) (pa_cons pe_int pa_nil)))) pa_nil)) (pg_name (i := 2) S.nd rfl (by first | exact .inl rfl | exact .inr rfl)) (pss_cons (ps_set (i := 3) S.nd rfl (by first | exact .inl rfl | exact .inr rfl) (pe_ok h__law_pick (hr.mono (by decide)) (by rfl) (pa_cons (pv 1) (pa_cons (pe_lst (pa_cons (pe_tup (pa_cons pe_int (pa_cons pe_int pa_nil))) (pa_cons (pe_tup (pa_cons pe_int (pa_cons pe_int pa_nil))) (pa_cons (pe_tup (pa_cons pe_int (pa_cons pe_int (pa_cons pe_int pa_nil)))) (pa_cons (pe_tup (pa_cons pe_int (pa_cons pe_int (pa_cons pe_int pa_nil)))) (pa_cons (pe_tup (pa_cons pe_int (pa_cons pe_int (pa_cons pe_int pa_nil)))) pa_nil)))))) pa_nil))))
  (pss_cons (ps_asg (pe_tup (pa_cons (pe_callB (q_len K rfl) (by rfl) T.len PySem.boot_len (pa_cons (pv 3) pa_nil)) (pa_cons (pe_op op_mul (pe_op op_add (pe_callB (q_len K rfl) (by rfl) T.len PySem.boot_len (pa_cons (pv 3) pa_nil)) pe_int) (pe_op op_add (pe_callB (q_len K rfl) (by rfl) T.len PySem.boot_len (pa_cons (pv 3) pa_nil)) pe_int)) pa_nil))) (q_gT K 2 rfl rfl (pgs_cons (pg_name (i := 4) S.nd rfl (by first | exact .inl rfl | exact .inr rfl)) (pgs_cons (pg_name (i := 5) S.nd rfl (by first | exact .inl rfl | exact .inr rfl)) pgs_nil))))
  (pss_cons (ps_set (i := 6) S.nd rfl (by first | exact .inl rfl | exact .inr rfl) (pe_tup (pa_cons (pe_tup (pa_cons (pe_ok h__law_word (hr.mono (by decide)) (by rfl) (pa_cons (pv 1) (pa_cons (pv 3) (pa_cons pe_int pa_nil)))) (pa_cons (pe_tup pa_nil) pa_nil))) pa_nil)))
  (pss_cons (ps_set (i := 7) S.nd rfl (by first | exact .inl rfl | exact .inr rfl) (pe_mkX h_Group passL (hr.mono (by decide)) (by rfl) (pa_cons (pv 3) (pa_cons (pe_callTy (q_list K rfl) (by rfl) T.list (by decide +kernel) (pa_cons (pv 6) pa_nil)) pa_nil))))
  (pss_cons (ps_set (i := 8) S.nd rfl (by first | exact .inl rfl | exact .inr rfl) (pe_op op_cat (pe_lst (pa_cons (pe_ok h__law_machine_sketch (hr.mono (by decide)) (by rfl) (pa_cons (pv 1) (pa_cons (pv 4) (pa_cons pe_int pa_nil)))) pa_nil)) (pe_lc (own := [("k", 9)]) (g := gName 9) (by rfl) S.nd  (pi_range1 (by rfl) T.range (pa_cons (pe_op op_add (pv 4) pe_int) pa_nil)) (blkOk_by (N := N_law) (sc := defScope s_law) (by decide +kernel)) (fun _ _ _ _ _ => (pg_name (i := 9) S.nd rfl (by first | exact .inl rfl | exact .inr rfl))) (fun _ _ _ _ _ => pts_nil) (fun _ _ _ _ _ => (pe_ok h__law_machine_sketch (hr.mono (by decide)) (by rfl) (pa_cons (pv 1) (pa_cons (pv 5) (pa_cons pe_int pa_nil))))))))
  (pss_cons (ps_set (i := 10) S.nd rfl (by first | exact .inl rfl | exact .inr rfl) (pe_mkM h_Machine passL (hr.mono (by decide)) (by rfl) (pa_cons (pv 4) (pa_cons (pe_lc (own := [("line", 11)]) (g := gName 11) (by rfl) S.nd  (q_iL K rfl (pe_ix (q_ixT K rfl) (pe_ix (q_ixL K rfl) (pv 8) pe_int (fun _ _ => rfl)) pe_int (fun _ _ => rfl))) (blkOk_by (N := N_law) (sc := defScope s_law) (by decide +kernel)) (fun _ _ _ _ _ => (pg_name (i := 11) S.nd rfl (by first | exact .inl rfl | exact .inr rfl))) (fun _ _ _ _ _ => pts_nil) (fun _ _ _ _ _ => (pe_callTy (q_list K rfl) (by rfl) T.list (by decide +kernel) (pa_cons (pv 11) pa_nil)))) (pa_cons (pe_callTy (q_list K rfl) (by rfl) T.list (by decide +kernel) (pa_cons (pe_ix (q_ixT K rfl) (pe_ix (q_ixL K rfl) (pv 8) pe_int (fun _ _ => rfl)) pe_int (fun _ _ => rfl)) pa_nil)) pa_nil)))))
  (pss_cons (ps_setLc (i := 12) (own := [("lot", 13)]) (g := gName 13) (by rfl) S.nd rfl rfl (sw_true rfl rfl rfl (by decide +kernel)) (q_iL K rfl (pe_slice (q_slL K rfl) (pv 8) (po_some pe_int) po_none)) (blkOk_by (N := N_law) (sc := defScope s_law) (by decide +kernel)) (fun _ _ _ _ _ => (pg_name (i := 13) S.nd rfl (by first | exact .inl rfl | exact .inr rfl))) (fun _ _ _ _ _ => pts_nil) (fun _ _ _ _ _ => (pe_okX h__law_copied passL (hr.mono (by decide)) (by rfl) (pa_cons (pv 5) (pa_cons (pv 13) pa_nil)))))
  (pss_cons (ps_set (i := 14) S.nd rfl (by first | exact .inl rfl | exact .inr rfl) (pe_callTy (q_list K rfl) (by rfl) T.list (by decide +kernel) (pa_cons (pv 12) pa_nil)))
  (pss_cons (ps_set (i := 15) S.nd rfl (by first | exact .inl rfl | exact .inr rfl) (pe_mkX h_Claim passL (hr.mono (by decide)) (by rfl) (pa_cons (pv 7) (pa_cons (pv 10) (pa_cons (pv 12) pa_nil)))))
  (pss_cons (ps_expr (pe_bm PySem.F.plainAttrs_list PySem.F.slot_list_append PySem.F.type_list_append mt_append (pv 12) (pa_cons pe_non pa_nil)))
  (pss_cons (ps_if (PW.pt (pw_or (pt_cmpR (op_ownNe O_Group F_Group b_Group pass0 (hr.mono (by decide))) (pe_fld (pv 15) rfl) (pv 7) (nomark _)) (pw_or (pt_cmpR (op_ownNe O_Machine F_Machine b_Machine pass0 (hr.mono (by decide))) (pe_fld (pv 15) rfl) (pv 10) (nomark _)) (pw_or1 (pt_not (pt_val (pe_callB (q_isi K rfl) (by rfl) T.isinstance (by decide +kernel) (pa_cons (pe_fld (pv 15) rfl) (pa_cons (pe_bltn (v := .ty "tuple") (by rfl) T.tuple (by decide +kernel) rfl) pa_nil))))))))) (pss_one (ps_ret pe_bl)) pss_nil)
  (pss_cons (ps_setLc (i := 16) (own := [("ways_here", 17), ("ends_here", 18)])  (by rfl) S.nd rfl rfl (sw_true rfl rfl rfl (by decide +kernel)) (q_iL K rfl (pv 8)) (blkOk_by (N := N_law) (sc := defScope s_law) (by decide +kernel)) (fun _ _ _ _ _ => (q_gT K 2 rfl rfl (pgs_cons (pg_name (i := 17) S.nd rfl (by first | exact .inl rfl | exact .inr rfl)) (pgs_cons (pg_name (i := 18) S.nd rfl (by first | exact .inl rfl | exact .inr rfl)) pgs_nil)))) (fun _ _ _ _ _ => pts_nil) (fun _ _ _ _ _ => (pe_tup (pa_cons (pe_callTy (q_tuple K rfl) (by rfl) T.tuple (by decide +kernel) (pa_cons (pe_lc (own := [("line", 11)]) (g := gName 11) (by rfl) S.nd  (q_iL K rfl (pv 17)) (blkOk_any (N := N_law) (by decide +kernel)) (fun _ _ _ _ _ => (pg_name (i := 11) S.nd rfl (by first | exact .inl rfl | exact .inr rfl))) (fun _ _ _ _ _ => pts_nil) (fun _ _ _ _ _ => (pe_callTy (q_tuple K rfl) (by rfl) T.tuple (by decide +kernel) (pa_cons (pv 11) pa_nil)))) pa_nil)) (pa_cons (pe_callTy (q_tuple K rfl) (by rfl) T.tuple (by decide +kernel) (pa_cons (pv 18) pa_nil)) pa_nil)))))
  (pss_cons (ps_setLc (i := 19) (own := [("near", 20)]) (g := gName 20) (by rfl) S.nd rfl rfl (sw_true rfl rfl rfl (by decide +kernel)) (q_iT K rfl (pe_op (q_catT K rfl) (pe_tup (pa_cons (pe_fld (pv 15) rfl) pa_nil)) (pe_fld (pv 15) rfl))) (blkOk_by (N := N_law) (sc := defScope s_law) (by decide +kernel)) (fun _ _ _ _ _ => (pg_name (i := 20) S.nd rfl (by first | exact .inl rfl | exact .inr rfl))) (fun _ _ _ _ _ => pts_nil) (fun _ _ _ _ _ => (pe_tup (pa_cons (q_fld K rfl (pv 20) rfl) (pa_cons (q_fld K rfl (pv 20) rfl) pa_nil)))))
  (pss_cons (ps_if (PW.pt (pw_or (pt_cmpR op_ne (pe_callB (q_repr K rfl rfl hr.units) (by rfl) T.repr (by decide +kernel) (pa_cons (pe_lst (pa_cons (pe_fld (pe_fld (pv 15) rfl) rfl) (pa_cons (pe_fld (pe_fld (pv 15) rfl) rfl) (pa_cons (pv 19) pa_nil)))) pa_nil)) (pe_callB (q_repr K rfl rfl hr.units) (by rfl) T.repr (by decide +kernel) (pa_cons (pe_lst (pa_cons (pv 3) (pa_cons (pv 6) (pa_cons (pv 16) pa_nil)))) pa_nil)) (nomark _)) (pw_or1 (pt_cmpR (op_neSame hr.units0) (pe_callTy (q_list K rfl) (by rfl) T.list (by decide +kernel) (pa_cons (pe_fld (pv 15) rfl) pa_nil)) (pv 14) (nomark _))))) (pss_one (ps_ret pe_bl)) pss_nil)
  (pss_cons (ps_if (PW.pt (pw_or (pt_cmpR (op_ownNe O_Claim F_Claim b_Claim pass0 (hr.mono (by decide))) (pv 15) (pe_mkK0 h_Claim passL (hr.mono (by decide)) (by rfl) (pk_cons (pe_callTy (q_tuple K rfl) (by rfl) T.tuple (by decide +kernel) (pa_cons (pv 14) pa_nil)) (pk_cons (pv 10) (pk_cons (pv 7) pk_nil)))) (nomark _)) (pw_or1 (pt_cmpR (op_ownEq O_Claim F_Claim b_Claim pass0 (hr.mono (by decide))) (pv 15) (pv 14) (nomark _))))) (pss_one (ps_ret pe_bl)) pss_nil)
  (pss_cons (ps_set (i := 21) S.nd rfl (by first | exact .inl rfl | exact .inr rfl) (pe_mkM h_Machine passL (hr.mono (by decide)) (by rfl) (pa_cons (pv 5) (pa_cons (pe_lst (pa_cons (pe_op op_rep (pe_lst (pa_cons pe_non pa_nil)) (pv 5)) pa_nil)) (pa_cons (pe_lst (pa_cons pe_int pa_nil)) pa_nil)))))
  (pss_cons (ps_set (i := 22) S.nd rfl (by first | exact .inl rfl | exact .inr rfl) (pe_ok h__law_take (hr.mono (by decide)) (by rfl) (pa_cons (pv 1) (pa_cons (pe_op op_add (pv 4) pe_int) pa_nil))))
  (pss_cons (ps_set (i := 23) S.nd rfl (by first | exact .inl rfl | exact .inr rfl) (pe_op op_cat (pe_op op_cat (pe_slice (q_slL K rfl) (pv 14) po_none (po_some (pv 22))) (pe_lst (pa_cons (pv 21) pa_nil))) (pe_slice (q_slL K rfl) (pv 14) (po_some (pe_op op_add (pv 22) pe_int)) po_none)))
  (pss_cons (ps_if (pt_cmpR op_ne (pe_cmpR (op_ownEq O_Claim F_Claim b_Claim pass0 (hr.mono (by decide))) (pe_mkX h_Claim passL (hr.mono (by decide)) (by rfl) (pa_cons (pv 7) (pa_cons (pv 10) (pa_cons (pv 23) pa_nil)))) (pv 15) (nomark _)) (pe_cmpR (op_sqB monB_own (eqB_own O_Machine F_Machine b_Machine pass0) (hr.mono (by decide))) (pv 23) (pv 14) (nomark _)) (nomark _)) (pss_one (ps_ret pe_bl)) pss_nil)
  (pss_cons (ps_for PassesOwn.never rfl (pi_range1 (by rfl) T.range (pa_cons pe_int pa_nil)) (pg_name (i := 24) S.nd rfl (by first | exact .inl rfl | exact .inr rfl)) (pss_cons (ps_par (i := 25) (j := 26) rfl S.nd rfl rfl (by decide) rfl rfl (pa_cons (pe_ok h__law_word (hr.mono (by decide)) (by rfl) (pa_cons (pv 1) (pa_cons (pv 3) (pa_cons (pe_ok h__law_pick (hr.mono (by decide)) (by rfl) (pa_cons (pv 1) (pa_cons (pe_lst (pa_cons pe_int (pa_cons pe_int (pa_cons pe_int pa_nil)))) pa_nil))) pa_nil)))) (pa_cons (pe_ok h__law_word (hr.mono (by decide)) (by rfl) (pa_cons (pv 1) (pa_cons (pv 3) (pa_cons pe_int pa_nil)))) pa_nil)) (by rfl))
  (pss_cons (ps_set (i := 27) S.nd rfl (by first | exact .inl rfl | exact .inr rfl) (pe_ok h__law_pick (hr.mono (by decide)) (by rfl) (pa_cons (pv 1) (pa_cons (pe_lst (pa_cons pe_non (pa_cons (pe_ok h__law_take (hr.mono (by decide)) (by rfl) (pa_cons (pv 1) (pa_cons (pv 4) pa_nil))) pa_nil))) pa_nil))))
  (pss_cons (ps_asg (pe_ix (q_ixL K rfl) (pv 8) (pe_ifExp (pt_cmpR op_isN (pv 27) pe_non (nomark _)) pe_int (pe_op op_add (pv 27) pe_int)) (fun _ _ => rfl)) (q_gT K 2 rfl rfl (pgs_cons (pg_name (i := 17) S.nd rfl (by first | exact .inl rfl | exact .inr rfl)) (pgs_cons (pg_name (i := 18) S.nd rfl (by first | exact .inl rfl | exact .inr rfl)) pgs_nil))))
  (pss_cons (ps_set (i := 28) S.nd rfl (by first | exact .inl rfl | exact .inr rfl) (pe_cmpR (q_inD K rfl hr.in1.units) (pe_ok h__law_went (hr.mono (by decide)) (by rfl) (pa_cons (pv 17) (pa_cons (pe_ok h__law_pairs_read (hr.mono (by decide)) (by rfl) (pa_cons (pv 3) (pa_cons (pv 25) (pa_cons (pv 26) pa_nil)))) pa_nil))) (pv 18) (by rfl)))
  (pss_one (ps_if (PW.pt (pw_or (pt_not (pt_val (pe_ok h__law_is_truth (hr.mono (by decide)) (by rfl) (pa_cons (pe_okX h_says passL (hr.mono (by decide)) (by rfl) (pa_cons (pv 15) (pa_cons (pv 27) (pa_cons (pv 25) (pa_cons (pv 26) pa_nil))))) (pa_cons (pv 28) pa_nil))))) (pw_or1 (pt_cmpR op_ne (pe_okXK0 h_says kb_says passL (hr.mono (by decide)) (by rfl) (pk_cons (pv 26) (pk_cons (pv 25) (pk_cons (pv 27) (pk_cons (pv 15) pk_nil))))) (pv 28) (nomark _))))) (pss_one (ps_ret pe_bl)) pss_nil)))))))
  (pss_cons (ps_set (i := 29) S.nd rfl (by first | exact .inl rfl | exact .inr rfl) (pe_ok h__law_pick (hr.mono (by decide)) (by rfl) (pa_cons (pv 1) (pa_cons (pe_lst (pa_cons pe_non (pa_cons pe_int (pa_cons pe_str (pa_cons (pe_lst pa_nil) pa_nil))))) pa_nil))))
  (pss_cons (ps_for PassesOwn.never rfl (q_iL K rfl (pe_lst (pa_cons pe_non (pa_cons pe_int (pa_cons (pe_tup (pa_cons (pv 3) (pa_cons (pe_tup pa_nil) pa_nil))) (pa_cons (pv 10) pa_nil)))))) (pg_name (i := 30) S.nd rfl (by first | exact .inl rfl | exact .inr rfl)) (pss_cons (ps_set (i := 31) S.nd rfl (by first | exact .inl rfl | exact .inr rfl) (LamX.pe_lamcall (k := 9) (by rfl) m_caught k_caught lk_caught c_caught b_caught sc_law_caught rfl (.inl rfl) (caught_gives gG) TB hcode (List.mem_singleton_self _) (fun p hp _ => by rw [List.mem_singleton.mp hp]) (hr.mono (by decide)) (LamX.lamS_by (show LamX.lamSB (defScope s_law) _ = true by decide +kernel)) rfl (fun _ _ _ _ _ => rfl) (fun A outer s H E f c' hr => (pe_mkX h_Claim (passes_call (takes_of rfl rfl rfl rfl) fun _ _ _ _ h => h) (hr.mono (by decide)) (by rfl) (pa_cons (pv 30) (pa_cons (pv 29) (pa_cons (pv 29) pa_nil)))))))
  (pss_one (ps_if (PW.pt (pw_or (pt_not (pt_val (pe_callB cr_isC2 (by rfl) T.isinstance (by decide +kernel) (pa_cons (pv 31) (pa_cons (pe_glob (v := .ref CBC) (by rfl) t_BadClaim.gC rfl) pa_nil))))) (pw_or1 (pt_cmpR op_ne (pe_errFld t_BadClaim (pv 31)) pe_str (nomark _))))) (pss_one (ps_ret pe_bl)) pss_nil))))
  (pss_cons (ps_for PassesOwn.never rfl (q_iL K rfl (pe_lst (pa_cons pe_non (pa_cons pe_int (pa_cons (pv 7) (pa_cons (pv 21) (pa_cons (pe_mkM h_Machine passL (hr.mono (by decide)) (by rfl) (pa_cons (pe_op op_add (pv 4) pe_int) (pa_cons (pe_lst (pa_cons (pe_op op_rep (pe_lst (pa_cons pe_non pa_nil)) (pe_op op_add (pv 4) pe_int)) pa_nil)) (pa_cons (pe_lst pa_nil) pa_nil)))) pa_nil))))))) (pg_name (i := 30) S.nd rfl (by first | exact .inl rfl | exact .inr rfl)) (pss_cons (ps_set (i := 31) S.nd rfl (by first | exact .inl rfl | exact .inr rfl) (LamX.pe_lamcall (k := 9) (by rfl) m_caught k_caught lk_caught c_caught b_caught sc_law_caught rfl (.inl rfl) (caught_gives gG) TB hcode (List.mem_singleton_self _) (fun p hp _ => by rw [List.mem_singleton.mp hp]) (hr.mono (by decide)) (LamX.lamS_by (show LamX.lamSB (defScope s_law) _ = true by decide +kernel)) rfl (fun _ _ _ _ _ => rfl) (fun A outer s H E f c' hr => (pe_mkX h_Claim (passes_call (takes_of rfl rfl rfl rfl) fun _ _ _ _ h => h) (hr.mono (by decide)) (by rfl) (pa_cons (pv 7) (pa_cons (pv 30) (pa_cons (pv 29) pa_nil)))))))
  (pss_one (ps_if (PW.pt (pw_or (pt_not (pt_val (pe_callB cr_isC2 (by rfl) T.isinstance (by decide +kernel) (pa_cons (pv 31) (pa_cons (pe_glob (v := .ref CBC) (by rfl) t_BadClaim.gC rfl) pa_nil))))) (pw_or1 (pt_cmpR op_ne (pe_errFld t_BadClaim (pv 31)) pe_str (nomark _))))) (pss_one (ps_ret pe_bl)) pss_nil))))
  (pss_cons (ps_for PassesOwn.never rfl (q_iL K rfl (pe_lst (pa_cons pe_non (pa_cons pe_int (pa_cons pe_dnewK (pa_cons (pe_slice (q_slL K rfl) (pv 14) (po_some pe_int) po_none) (pa_cons (pe_op op_cat (pv 14) (pe_lst (pa_cons (pv 21) pa_nil))) (pa_cons (pe_op op_cat (pe_slice (q_slL K rfl) (pv 14) po_none (po_some (pe_un un_neg pe_int))) (pe_lst (pa_cons pe_non pa_nil))) (pa_cons (pe_op op_cat (pe_slice (q_slL K rfl) (pv 14) po_none (po_some (pe_un un_neg pe_int))) (pe_lst (pa_cons (pv 10) pa_nil))) pa_nil))))))))) (pg_name (i := 30) S.nd rfl (by first | exact .inl rfl | exact .inr rfl)) (pss_cons (ps_set (i := 31) S.nd rfl (by first | exact .inl rfl | exact .inr rfl) (LamX.pe_lamcall (k := 9) (by rfl) m_caught k_caught lk_caught c_caught b_caught sc_law_caught rfl (.inl rfl) (caught_gives gG) TB hcode (List.mem_singleton_self _) (fun p hp _ => by rw [List.mem_singleton.mp hp]) (hr.mono (by decide)) (LamX.lamS_by (show LamX.lamSB (defScope s_law) _ = true by decide +kernel)) rfl (fun _ _ _ _ _ => rfl) (fun A outer s H E f c' hr => (pe_mkX h_Claim (passes_call (takes_of rfl rfl rfl rfl) fun _ _ _ _ h => h) (hr.mono (by decide)) (by rfl) (pa_cons (pv 7) (pa_cons (pv 10) (pa_cons (pv 30) pa_nil)))))))
  (pss_one (ps_if (PW.pt (pw_or (pt_not (pt_val (pe_callB cr_isC2 (by rfl) T.isinstance (by decide +kernel) (pa_cons (pv 31) (pa_cons (pe_glob (v := .ref CBC) (by rfl) t_BadClaim.gC rfl) pa_nil))))) (pw_or1 (pt_cmpR op_ne (pe_errFld t_BadClaim (pv 31)) pe_str (nomark _))))) (pss_one (ps_ret pe_bl)) pss_nil))))
  (pss_cons (ps_for PassesOwn.never rfl (q_iL K rfl (pe_lst (pa_cons (pe_un un_neg pe_int) (pa_cons (pv 4) (pa_cons pe_bl (pa_cons pe_str (pa_cons (pe_tup (pa_cons pe_int pa_nil)) pa_nil))))))) (pg_name (i := 30) S.nd rfl (by first | exact .inl rfl | exact .inr rfl)) (pss_cons (ps_set (i := 31) S.nd rfl (by first | exact .inl rfl | exact .inr rfl) (LamX.pe_lamcall (k := 9) (by rfl) m_caught k_caught lk_caught c_caught b_caught sc_law_caught rfl (.inl rfl) (caught_gives gG) TB hcode (List.mem_singleton_self _) (fun p hp _ => by rw [List.mem_singleton.mp hp]) (hr.mono (by decide)) (LamX.lamS_by (show LamX.lamSB (defScope s_law) _ = true by decide +kernel)) rfl (fun _ _ _ _ _ => rfl) (fun A outer s H E f c' hr => (pe_okX h_says (passes_call (takes_of rfl rfl rfl rfl) fun _ _ _ _ h => h) (hr.mono (by decide)) (by rfl) (pa_cons (pv 15) (pa_cons (pv 30) (pa_cons pe_non (pa_cons pe_non pa_nil))))))))
  (pss_one (ps_if (PW.pt (pw_or (pt_not (pt_val (pe_callB cr_isC2 (by rfl) T.isinstance (by decide +kernel) (pa_cons (pv 31) (pa_cons (pe_glob (v := .ref CBN) (by rfl) t_BadNumber.gC rfl) pa_nil))))) (pw_or1 (pt_cmpR op_ne (pe_errFld t_BadNumber (pv 31)) pe_str (nomark _))))) (pss_one (ps_ret pe_bl)) pss_nil))))
  (pss_cons (ps_set (i := 32) S.nd rfl (by first | exact .inl rfl | exact .inr rfl) (pe_ok h__law_pick (hr.mono (by decide)) (by rfl) (pa_cons (pv 1) (pa_cons (pe_lst (pa_cons pe_non (pa_cons pe_int (pa_cons (pe_lst (pa_cons pe_int pa_nil)) (pa_cons (pe_tup (pa_cons (pv 4) pa_nil)) (pa_cons (pe_tup (pa_cons (pe_un un_neg pe_int) pa_nil)) (pa_cons (pe_tup (pa_cons pe_bl pa_nil)) (pa_cons pe_str pa_nil)))))))) pa_nil))))
  (pss_cons (ps_for PassesOwn.never rfl (q_iL K rfl (pe_lst (pa_cons (pe_lamV TB hcode (List.mem_singleton_self _) (fun p hp _ => by rw [List.mem_singleton.mp hp]) (LamX.lamS_by (show LamX.lamSB (defScope s_law) _ = true by decide +kernel)) rfl) (pa_cons (pe_lamV TB hcode (List.mem_singleton_self _) (fun p hp _ => by rw [List.mem_singleton.mp hp]) (LamX.lamS_by (show LamX.lamSB (defScope s_law) _ = true by decide +kernel)) rfl) pa_nil)))) (pg_name (i := 33) S.nd rfl (by first | exact .inl rfl | exact .inr rfl)) (pss_one (ps_if (pt_not (pt_val (pe_callB cr_isC (by rfl) T.isinstance (by decide +kernel) (pa_cons (pe_giv (k := 9) (by rfl) m_caught k_caught lk_caught c_caught b_caught sc_law_caught rfl (.inl rfl) (caught_gives gG) (hr.mono (by decide)) rfl lams_good (pv 33)) (pa_cons (pe_glob (v := .ref CW) (by rfl) e_BadWord.g rfl) pa_nil))))) (pss_one (ps_ret pe_bl)) pss_nil)))
  (pss_cons (ps_set (i := 31) S.nd rfl (by first | exact .inl rfl | exact .inr rfl) (LamX.pe_lamcall (k := 9) (by rfl) m_caught k_caught lk_caught c_caught b_caught sc_law_caught rfl (.inl rfl) (caught_gives gG) TB hcode (List.mem_singleton_self _) (fun p hp _ => by rw [List.mem_singleton.mp hp]) (hr.mono (by decide)) (LamX.lamS_by (show LamX.lamSB (defScope s_law) _ = true by decide +kernel)) rfl (fun _ _ _ _ _ => rfl) (fun A outer s H E f c' hr => (pe_okX h_says (passes_call (takes_of rfl rfl rfl rfl) fun _ _ _ _ h => h) (hr.mono (by decide)) (by rfl) (pa_cons (pv 29) (pa_cons pe_non (pa_cons pe_non (pa_cons pe_non pa_nil))))))))
  (pss_one (ps_if (PW.pt (pw_or (pt_not (pt_val (pe_callB cr_isC2 (by rfl) T.isinstance (by decide +kernel) (pa_cons (pv 31) (pa_cons (pe_glob (v := .ref CBC) (by rfl) t_BadClaim.gC rfl) pa_nil))))) (pw_or1 (pt_cmpR op_notN (pe_errFld t_BadClaim (pv 31)) pe_non (nomark _))))) (pss_one (ps_ret pe_bl)) pss_nil)))))))))))))))))))))))))))))))
  (pss_one (ps_ret pe_bl)))), ?_⟩
  refine ⟨_, rfl, a, ns, rfl, hS, h63, fun d l c H1 sm hd hl hc D1 => ?_⟩
  have hS1 : SqL K H1 a (ns.map V.int) := sm.seq hS
  have hlen : (ns.map V.int).length ≤ 63 := by rw [List.length_map]; exact h63
  have T1 : Tabs [(Pt, (cxOf CX0 P w K mg base N_law "law" (defScope s_law) f (.ref c0) callerA [] s H E0).nox.env.qual ++ "<lambda>")] H1 := tabs_one (sm _ _ hP)
  have big : 2000000 ≤ sizeLine := by decide
  refine ⟨_, rfl, a, _, rfl, .inl hS1, _, _, rfl, _, _, rfl, rfl, _, rfl, ?_, ?_, ?_⟩
  · split <;> omega
  · split <;> omega
  refine for_range (lo := 0) (fun _ σ Hc => ∃ z2 z3 z4 z5 z6 z7 z8 z9 z10 z11 z12 z13 z14 z15 z16 z17 z18 z19 z20 z21 z22 z23 z24 z25 z26 z27 z28 z29 z30 z31 z32 z33, σ = [some (.ref a), some (.ref d), z2, z3, z4, z5, z6, z7, z8, z9, z10, z11, z12, z13, z14, z15, z16, z17, z18, z19, z20, z21, z22, z23, z24, z25, z26, z27, z28, z29, z30, z31, z32, z33] ∧ Drw Hc d l c ∧ Tabs [(Pt, (cxOf CX0 P w K mg base N_law "law" (defScope s_law) f (.ref c0) callerA [] s H E0).nox.env.qual ++ "<lambda>")] Hc)
    ⟨_, _, _, _, _, _, _, _, _, _, _, _, _, _, _, _, _, _, _, _, _, _, _, _, _, _, _, _, _, _, _, _, rfl, D1, T1⟩ (fun i σ Hc hi hP => ?_) (fun σ Hc hP => ?_)
  · obtain ⟨z2, z3, z4, z5, z6, z7, z8, z9, z10, z11, z12, z13, z14, z15, z16, z17, z18, z19, z20, z21, z22, z23, z24, z25, z26, z27, z28, z29, z30, z31, z32, z33, rfl, Dc, Tc⟩ := hP
    have one1 : 1 ≤ sizeLine := by omega
    have V0 := offD_vw Dc
    generalize offD d l c Hc = G0 at V0
    -- back_here
    refine seq_asg ⟨_, rfl, (en_lst (K := K) (G := G0) (ds := backs.map wD) (ea_cons (ed_tup (ea_cons ed_int (ea_cons ed_int ea_nil)) (by show 2 ≤ sizeLine; omega)) (ea_cons (ed_tup (ea_cons ed_int (ea_cons ed_int ea_nil)) (by show 2 ≤ sizeLine; omega)) (ea_cons (ed_tup (ea_cons ed_int (ea_cons ed_int (ea_cons ed_int ea_nil))) (by show 3 ≤ sizeLine; omega)) (ea_cons (ed_tup (ea_cons ed_int (ea_cons ed_int (ea_cons ed_int ea_nil))) (by show 3 ≤ sizeLine; omega)) (ea_cons (ed_tup (ea_cons ed_int (ea_cons ed_int (ea_cons ed_int ea_nil))) (by show 3 ≤ sizeLine; omega)) ea_nil))))) (by show 5 ≤ sizeLine; omega)).tellV V0.gh fun pw vsw G1 H1' n1 hpw ew haw => ?_⟩
    have m1 := Mv.nx (K := K) V0 Tc n1
    refine pickG_go (E := E0) m1.vw (SqL.of ew) (by rw [dpa_length haw]; show 0 < 5; decide) (by rw [dpa_length haw]; show 5 < 1000000; decide) fun v3 H2 hv3 nd2 D2 => ?_
    obtain ⟨jw, hjw⟩ := List.getElem?_of_mem hv3
    obtain ⟨x3, hx3, hd3⟩ := dpa_get haw hjw
    rw [List.getElem?_map] at hx3
    obtain ⟨bs, hbs, rfl⟩ := Option.map_eq_some_iff.mp hx3
    obtain ⟨bB, b2, b3, bL⟩ := backs_ok bs (List.mem_of_getElem? hbs)
    obtain ⟨b, rfl, hb⟩ := dp_ints_t hd3
    have m2 := Mv.nd (K := K) m1.vw m1.tb nd2 D2
    have lb : (bs.map V.int).length = bs.length := List.length_map _
    have lbd : (bs.map PyData.int).length = bs.length := List.length_map _
    have V2 := m2.vw
    have T2 := m2.tb
    clear m2 m1 V0 Tc Dc D2 nd2 haw hv3 hjw hx3 ew n1
    -- many, wide
    have eLen : ∀ {σ : L2.St}, σ[3]? = some (some (.ref b)) → EvD K (tCB (rLenQ K) (tCons (tVar 3) tNil)) σ G1 (.int (bs.length : Int)) := fun h => EvD.cast (ed_cb (ea_cons (ed_var (i := 3) h hd3) ea_nil) rcl_len) (congrArg (fun n : Nat => PyData.int (n : Int)) lbd)
    refine seq_two (K := K) (G := G1) (x := .int (bs.length : Int)) (y := .int (((bs.length : Int) + 1) * ((bs.length : Int) + 1))) (ed_tup (ea_cons (eLen rfl) (ea_cons (ed_op (ed_op (eLen rfl) ed_int ro_i) (ed_op (eLen rfl) ed_int ro_i) (ro_ic (f := fun i j => i * j) (.inl ⟨by omega, by omega⟩))) ea_nil)) (by show 2 ≤ sizeLine; omega)) V2.gh fun v4 v5 G3 H3 n3 h4 h5 => ?_
    have h4 := dp_int h4
    have h5 := dp_int h5
    subst h4 h5
    obtain ⟨W, hW, hWe⟩ : ∃ W : Nat, ((bs.length : Int) + 1) * ((bs.length : Int) + 1) = (W : Int) ∧ W = (bs.length + 1) ^ 2 := ⟨(bs.length + 1) ^ 2, by rw [Nat.pow_succ, Nat.pow_one]; push_cast; rfl, rfl⟩
    rw [hW]
    have hW1 : 1 ≤ W ∧ W ≤ 16 := by
      rw [hWe, Nat.pow_succ, Nat.pow_one]
      exact ⟨Nat.mul_pos (by omega) (by omega), Nat.mul_le_mul (by omega : bs.length + 1 ≤ 4) (by omega : bs.length + 1 ≤ 4)⟩
    have m3 := Mv.nx (K := K) V2 T2 n3
    have V3 := m3.vw
    have T3 := m3.tb
    have hb3 : Dp K G3 (.ref b) (wD bs) := dp_mono n3.gg _ hd3
    have hs3 : SqT K G3 b (bs.map V.int) := same_tup n3.gg hb
    clear m3 V2 T2 n3 hd3 hb eLen
    dsimp only [gName]
    -- rules_here
    refine ⟨_, rfl, _, rfl, d, l, c, b, _, 3, rfl, V3.dr, same_tup V3.gh hs3, by rw [lb]; omega, by rw [lb]; omega, by decide, by decide, fun w1 as H4 ha1 ha2 ha0 ha n4 D4 => ?_⟩
    rw [lb] at ha2
    have k4 := Nw.tup (G := G3) V3 n4 D4 ha0 ha
    have m4 := Mv.nw (K := K) V3 T3 k4
    have hw4 : Dp K (upd G3 w1 (.tup (as.map V.int))) (.ref w1) (wD as) := .tup (SqT.of upd_same) (dpa_ints as)
    have hb4 := dp_mono k4.gg _ hb3
    generalize upd G3 w1 (.tup (as.map V.int)) = G4 at m4 hw4 hb4 k4
    have V4 := m4.vw
    have T4 := m4.tb
    refine ⟨Nat.zero_le _, fun t0 ht0 => ?_⟩
    have n5 := Nx.new (o := .tup []) V4.gh ht0
    have h05 : Dp K (upd G4 t0 (.tup [])) (.ref t0) (wD []) := .tup (SqT.of upd_same) .nil
    refine ⟨by show 2 ≤ sizeLine; omega, fun t1 ht1 => ?_⟩
    have n6 := n5.trans (Nx.new (o := .tup [.ref w1, .ref t0]) n5.gh ht1)
    have h16 : Dp K (upd (upd G4 t0 (.tup [])) t1 (.tup [.ref w1, .ref t0])) (.ref t1) (ruleD (as, [])) := .tup (SqT.of upd_same) (.cons (dp_mono n6.gg _ hw4) (.cons (dp_mono (Nx.new (o := .tup [.ref w1, .ref t0]) n5.gh ht1).gg _ h05) .nil))
    refine ⟨one1, fun t2 ht2 => ?_⟩
    have n7' := Nx.new (o := .tup [.ref t1]) n6.gh ht2
    have n7 := n6.trans n7'
    have h6 : Dp K (upd (upd (upd G4 t0 (.tup [])) t1 (.tup [.ref w1, .ref t0])) t2 (.tup [.ref t1])) (.ref t2) (.tuple ([(as, [])].map ruleD)) := .tup (SqT.of upd_same) (.cons (dp_mono n7'.gg _ h16) .nil)
    have hb7 := dp_mono n7.gg _ hb4
    have m7 := Mv.nx (K := K) V4 T4 n7
    generalize upd (upd (upd G4 t0 (.tup [])) t1 (.tup [.ref w1, .ref t0])) t2 (.tup [.ref t1]) = G7 at m7 h6 hb7
    generalize upd (upd (upd H4 t0 (.tup [])) t1 (.tup [.ref w1, .ref t0])) t2 (.tup [.ref t1]) = H7 at m7
    have V7 := m7.vw
    have T7 := m7.tb
    have RO : RulesOk bs.length [(as, [])] := fun r hr => by
      rw [List.mem_singleton.mp hr]
      exact ⟨by show as.length ≤ 40; omega, by show 0 ≤ 40; decide, ha2, fun x hx => nomatch hx⟩
    clear m7 n7 n7' n6 h16 n5 h05 V4 T4 m4 hw4 hb4 k4 D4 n4 ha0 ha V3 T3 hb3 hs3 ht0 ht1 ht2
    dsimp only [gName]
    -- group
    refine seq_letG (K := K) (CG := CG) (G := G7) (eg_make (CB := CB) (x := .list ([(as, [])].map ruleD)) (ed_var (i := 3) rfl hb7) (ed_cb (ea_cons (ed_var (i := 6) rfl h6) ea_nil) rcl_listT) bB (by omega) (by rw [lbd]; exact areL_ok RO (by show 1 ≤ 40; decide)) (szL RO (by show 1 ≤ 1000; decide))) V7.gh fun gg G8 H8 n8 hg8 => ?_
    have V8 := (Mv.nx (K := K) V7 T7 n8).vw
    have T8 := tabs_same T7 n8.hh
    have hb8 := dp_mono n8.gg _ hb7
    have h68 := dp_mono n8.gg _ h6
    clear V7 T7 n8 hb7 h6
    -- some
    refine ⟨_, rfl, _, rfl, G8, [(Pt, (cxOf CX0 P w K mg base N_law "law" (defScope s_law) f (.ref c0) callerA [] s H E0).nox.env.qual ++ "<lambda>")], d, l, c, bs.length, 3, rfl, V8, T8, by omega, by omega, by decide, by decide, fun v9 G9 H9 ws0 es0 M0 l0 mv9 hd9 => ?_⟩
    refine ⟨one1, fun p1 hp1 => ?_⟩
    have s1 := same_upd (o := .lst [v9]) hp1
    have m9 := mv9.trans (Mv.same (K := K) mv9.vw mv9.tb s1)
    have V9 := m9.vw
    have T9 := m9.tb
    have e1 : upd H9 p1 (.lst [v9]) p1 = some (.lst [v9]) := upd_same
    obtain ⟨pd1, pl1, pc1⟩ := mv9.vw.dr.off hp1
    have hg9 : GrpAt K CG G9 gg (bs.map .int) ([(as, [])].map ruleD) := by
      obtain ⟨dx, y1, y2, z0, z1, z2⟩ := hg8
      exact ⟨dx, y1, y2, m9.is z0, m9.dp z1, m9.dp z2⟩
    have hb9 := m9.dp hb8
    have h69 := m9.dp h68
    generalize upd H9 p1 (.lst [v9]) = H10 at V9 T9 e1
    clear m9 s1 hp1 mv9 hg8 hb8 h68 V8 T8
    refine ⟨_, rfl, _, _, rfl, rfl, _, rfl, by omega, by omega, fun q1 hq1 => ?_⟩
    obtain ⟨gq, vq, sq⟩ := Gr.start (K := K) V9 hq1
    have mq := Mv.same (K := K) V9 T9 sq
    refine lc_range (lo := 0) (n := ((bs.length : Int) + 1).toNat) (fun k Hd => ∃ Gi ts, Mv K [(Pt, (cxOf CX0 P w K mg base N_law "law" (defScope s_law) f (.ref c0) callerA [] s H E0).nox.env.qual ++ "<lambda>")] d l c G9 H10 Gi Hd ∧ Gr K d l c Gi Hd q1 (ts.map lotD) ∧ ts.length = k ∧ ∀ t ∈ ts, MOk W t.1 t.2 ∧ t.1.length ≤ 4) ⟨G9, [], mq, gq, rfl, fun t z => nomatch z⟩ (fun k Hd hk hP => ?_) fun Hd hP => ?_
    · obtain ⟨Gi, ts, mi, gi, lt, ht⟩ := hP
      refine ⟨rfl, tyes ?_⟩
      refine ⟨_, rfl, _, rfl, Gi, [(Pt, (cxOf CX0 P w K mg base N_law "law" (defScope s_law) f (.ref c0) callerA [] s H E0).nox.env.qual ++ "<lambda>")], d, l, c, W, 3, rfl, mi.vw, mi.tb, by omega, by omega, by decide, by decide, fun v Gj Hj ws es M l4 mj hdj => ?_⟩
      have gj := gi.mv mj
      obtain ⟨acq, eq, aq⟩ := id gj.ex
      obtain ⟨mf, gf⟩ := (mi.trans mj).put hq1 gj (dpa_append aq (.cons (d := lotD (ws, es)) hdj .nil))
      refine ⟨acq, eq, ?_, Gj, ts ++ [(ws, es)], mf, ?_, ?_, fun t htm => ?_⟩
      · have := dpa_length aq
        rw [List.length_map, lt] at this
        omega
      · rw [List.map_append]; exact gf
      · rw [List.length_append, lt]; rfl
      · rcases List.mem_append.mp htm with z | z
        · exact ht t z
        · rw [List.mem_singleton.mp z]; exact ⟨M, l4⟩
    obtain ⟨Gi, ts, mi, gi, lt, ht⟩ := hP
    have lt : ts.length = bs.length + 1 := by omega
    obtain ⟨acq, eq, aq⟩ := id gi.ex
    have lacq : acq.length = bs.length + 1 := by rw [dpa_length aq, List.length_map, lt]
    refine ⟨p1, q1, _, _, rfl, rfl, mi.ls e1 pd1 pl1, eq, by rw [lacq]; show 1 + _ ≤ sizeLine; omega, fun p3 hp3 => ?_⟩
    have n10 := Nx.new (o := .lst ([v9] ++ acq)) mi.vw.gh hp3
    have m10 := mi.trans (Mv.nx (K := K) mi.vw mi.tb n10)
    have h8 : Dp K (upd Gi p3 (.lst ([v9] ++ acq))) (.ref p3) (.list (((ws0, es0) :: ts).map lotD)) := .lst (SqL.of upd_same) (dpa_append (.cons (m10.dp hd9) .nil) (dpa_mono n10.gg _ aq))
    have hg10 : GrpAt K CG (upd Gi p3 (.lst ([v9] ++ acq))) gg (bs.map .int) ([(as, [])].map ruleD) := by
      obtain ⟨dx, y1, y2, z0, z1, z2⟩ := hg9
      exact ⟨dx, y1, y2, m10.is z0, m10.dp z1, m10.dp z2⟩
    have hb10 := m10.dp hb9
    have h610 := m10.dp h69
    have V10 := m10.vw
    have T10 := m10.tb
    generalize upd Gi p3 (.lst ([v9] ++ acq)) = G10 at V10 h8 hg10 hb10 h610
    generalize upd Hd p3 (.lst ([v9] ++ acq)) = H11 at V10 T10
    clear m10 n10 hp3 aq eq gi mi hg9 hb9 h69 hd9 mq sq vq gq hq1 V9 T9 e1 lacq
    dsimp only [gName]
    have W0 := M0
    -- words_here
    refine seq_letM (K := K) (CG := CM) (G := G10) (em_lot (t := (ws0, es0)) M0 (ed_var (i := 4) rfl (.int (bs.length : Int))) (ed_op (ed_op (ed_var (i := 8) rfl h8) ed_int (ro_ixL (k := 0) rfl rfl)) ed_int (ro_ixT (k := 0) rfl rfl)) (ed_op (ed_op (ed_var (i := 8) rfl h8) ed_int (ro_ixL (k := 0) rfl rfl)) ed_int (ro_ixT (k := 1) rfl rfl)) (fun _ => rfl) fun _ => rfl) V10.gh fun gw G12 H12 n12 hgw12 => ?_
    have V12 := (Mv.nx (K := K) V10 T10 n12).vw
    have T12 := tabs_same T10 n12.hh
    have hb12 := dp_mono n12.gg _ hb10
    have h612 := dp_mono n12.gg _ h610
    have h812 := dp_mono n12.gg _ h8
    have hg12 := hg10.mono n12.gg
    clear V10 T10 n12 hb10 h610 h8 hg10
    -- raw
    refine seq_letP (G := G12) (ep_lcL (K := K) (i := 13) (fun k G v => ∃ (m : Addr) (t : Lot), ts[k]? = some t ∧ v = .ref m ∧ MacAt K CM G m W t.1 t.2) (fun k G G' v s ⟨m, t, h1, h2, h3⟩ => ⟨m, t, h1, h2, h3.mono s⟩) (EvD.cast (ed_slL (ed_var (i := 8) rfl h812) (eo_some ed_int) eo_none) (congrArg PyData.list (cutD_from (k := 1)))) (fun _ => rfl) (by show (ts.map lotD).length ≤ sizeLine; rw [List.length_map]; omega) fun k d' v Gi hk s hd => ?_) V12.gh fun p12 xs G13 H13 n13 hp12 gp13 e13 hR => ?_
    · have hk : (ts.map lotD)[k]? = some d' := hk
      rw [List.getElem?_map] at hk
      obtain ⟨t, hk1, rfl⟩ := Option.map_eq_some_iff.mp hk
      exact fun H0 s0 Q0 q0 => ⟨_, rfl, _, rfl, Gi, v, W, t, s0, rfl, hd, (ht t (List.mem_of_getElem? hk1)).1, fun m' G' H' n hm => q0 _ G' H' n ⟨m', t, hk1, rfl, hm⟩⟩
    have hN13 : NrsAt K CM G13 W ts xs := ⟨by rw [hR.1]; exact List.length_map _, fun k x e => by
      obtain ⟨m, t, h1, h2, h3⟩ := hR.2 k x e
      exact ⟨m, t, h1, h2, h3⟩⟩
    obtain ⟨pd, pl, pc⟩ := V12.dr.off hp12
    have V13 := (Mv.nx (K := K) V12 T12 n13).vw
    have T13 := tabs_same T12 n13.hh
    have hb13 := dp_mono n13.gg _ hb12
    have h613 := dp_mono n13.gg _ h612
    have h813 := dp_mono n13.gg _ h812
    have hg13 := hg12.mono n13.gg
    have hgw13 := hgw12.mono n13.gg
    clear hR V12 T12 n13 hb12 h612 h812 hg12 hgw12 hp12
    -- nears_here
    refine ⟨_, rfl, p12, xs, rfl, .inl (SqL.of e13), fun p14 hp14 => ?_⟩
    have n14 := Nx.new (o := .lst xs) V13.gh hp14
    have e14 := n14.hh _ _ e13
    have gp14 : upd G13 p14 (.lst xs) p12 = none := (n14.fr p12 (ne_none e13)).trans gp13
    have h14 : upd G13 p14 (.lst xs) p14 = some (.lst xs) := upd_same
    have V14 := (Mv.nx (K := K) V13 T13 n14).vw
    have T14 := tabs_same T13 n14.hh
    have hb14 := dp_mono n14.gg _ hb13
    have h614 := dp_mono n14.gg _ h613
    have h814 := dp_mono n14.gg _ h813
    have hg14 := hg13.mono n14.gg
    have hgw14 := hgw13.mono n14.gg
    have hN14 := hN13.mono n14.gg
    generalize upd G13 p14 (.lst xs) = G14 at gp14 h14 V14 hb14 h614 h814 hg14 hgw14 hN14
    generalize upd H13 p14 (.lst xs) = H14 at e14 V14 T14
    clear n14 V13 T13 hb13 h613 h813 hg13 hgw13 hN13 e13 gp13 hp14
    dsimp only [gName]
    -- claim
    rw [hWe] at hN14
    refine seq_asg (tm_clmN (i := 7) (j := 10) (k := 12) rfl rfl rfl V14.gh gp14 e14 hg14 (by omega) hgw14 hN14 lt fun g t G15 H15 n15 gp15 e15 hc15 => ?_)
    have V15 := (Mv.nx (K := K) V14 T14 n15).vw
    have T15 := tabs_same T14 n15.hh
    have hb15 := dp_mono n15.gg _ hb14
    have h615 := dp_mono n15.gg _ h614
    have h815 := dp_mono n15.gg _ h814
    have hg15 := hg14.mono n15.gg
    have hgw15 := hgw14.mono n15.gg
    have hN15 := hN14.mono n15.gg
    have h15 := n15.gg _ _ h14
    clear n15 V14 T14 hb14 h614 h814 hg14 hgw14 hN14 e14 gp14 h14
    -- raw.append(None)
    refine ⟨_, rfl, .inl ⟨rfl, _, SqL.of e15⟩, p12, xs, .non, rfl, rfl, e15, by rw [hN15.1]; omega, ?_⟩
    have V16 := vw_upd (o := .lst (xs ++ [.non])) V15 gp15 pd pl pc
    have T16 := tabs_updM (o := .lst (xs ++ [.non])) T15 e15
    generalize upd H15 p12 (.lst (xs ++ [.non])) = H16 at V16 T16
    clear V15 T15 e15 gp15
    have SG : ShG (bs.map .int) ([(as, [])].map ruleD) := ⟨shaped_intsT bs, shaped_rule⟩
    obtain ⟨⟨dxc, ec⟩, htc⟩ := id hc15
    have lxs : xs.length = bs.length + 1 := by rw [hN15.1, lt]
    have hrefs : ∀ v ∈ xs, ∃ c : Addr, v = .ref c := fun v hv => by
      obtain ⟨k, hk⟩ := List.getElem?_of_mem hv
      obtain ⟨m, _, _, h, _⟩ := hN15.2 k v hk
      exact ⟨m, h⟩
    -- group, words, a tuple
    refine seq_chk (K := K) (G := G15) (eb_or0 (EvB.cast (eb_test (ed_gg (c := fun b => !b) OG (eg_cg (i := 15) rfl OC cg hc15 hg15) (eg_var (i := 7) rfl hg15) SG SG)) (by rw [eqG_self SG]; rfl)) (eb_or0 (EvB.cast (eb_test (ed_mm (c := fun b => !b) OM (em_cw (i := 15) rfl OC cw hc15 hgw15) (em_var (i := 10) rfl hgw15))) (by rw [eqM_self]; rfl)) (EvB.cast (eb_not (b := true) (eb_B fun H s Q q => ?_)) rfl))) V16.gh fun G17 H17 n17 => ?_
    · exact fld_at rfl (s _ _ ec) OC.cl cn look_nears ⟨.ref t, .ty "tuple", .type "tuple", .type "tuple", true, rfl, .ty "tuple", ty_sqT s htc, kit_ty (kit_tup (.tuple [])), q _ G15 H (Nx.refl s) (.bl _)⟩
    have V17 := (Mv.nx (K := K) V16 T16 n17).vw
    have T17 := tabs_same T16 n17.hh
    have hb17 := dp_mono n17.gg _ hb15
    have h617 := dp_mono n17.gg _ h615
    have h817 := dp_mono n17.gg _ h815
    have hg17 := hg15.mono n17.gg
    have hgw17 := hgw15.mono n17.gg
    have hN17 := hN15.mono n17.gg
    have h17 := n17.gg _ _ h15
    have hc17 := hc15.mono n17.gg
    clear n17 V16 T16 hb15 h615 h815 hg15 hgw15 hN15 h15 hc15 ec htc
    have hMs : ∀ t ∈ ((ws0, es0) :: ts : List Lot), ∃ L, MOk L t.1 t.2 ∧ L ≤ 16 ∧ t.1.length ≤ 4 := fun t htm => by
      rcases List.mem_cons.mp htm with rfl | htm
      · exact ⟨_, M0, by omega, l0⟩
      · exact ⟨W, (ht t htm).1, hW1.2, (ht t htm).2⟩
    have lts : ((ws0, es0) :: ts : List Lot).length ≤ 5 := by rw [List.length_cons, lt]; omega
    -- plain_here
    try dsimp only [List.set_cons_succ, List.set_cons_zero]
    refine seq_letV (K := K) (G := G17) (en_plain (m := 8) (i := 17) (j := 18) (k := 11) rfl h817 (by omega) (fun t htm => (hMs t htm).imp fun L h => h.1) (fun _ _ => rfl) (fun _ _ => rfl) (fun _ _ => rfl) (fun _ _ _ => rfl) fun _ _ _ => rfl) V17.gh fun p16 vs16 G18 H18 n18 hp16 e16 ha16 => ?_
    have h16 : Dp K G18 (.ref p16) (.list (((ws0, es0) :: ts).map lotP)) := .lst (SqL.of e16) ha16
    -- told
    try dsimp only [List.set_cons_succ, List.set_cons_zero]
    refine seq_letV (K := K) (G := G18) (en_told (j := 15) (i := 20) (t0 := (ws0, es0)) rfl OC cw cn OM mw me (hc17.mono n18.gg) (hgw17.mono n18.gg) (hN17.mono n18.gg) (by omega) (by omega) (fun _ => rfl) fun _ => rfl) n18.gh fun p19 vs19 G19 H19 n19 hp19 e19 ha19 => ?_
    have h19 : Dp K G19 (.ref p19) (.list (((ws0, es0) :: ts).map lotP)) := .lst (SqL.of e19) ha19
    have h169 := dp_mono n19.gg _ h16
    have n189 := n18.trans n19
    have V19 := (Mv.nx (K := K) V17 T17 n189).vw
    have T19 := tabs_same T17 n189.hh
    have hb19 := dp_mono n189.gg _ hb17
    have h619 := dp_mono n189.gg _ h617
    have h819 := dp_mono n189.gg _ h817
    have hg19 := hg17.mono n189.gg
    have hgw19 := hgw17.mono n189.gg
    have hN19 := hN17.mono n189.gg
    have h149 := n189.gg _ _ h17
    have hc19 := hc17.mono n189.gg
    clear n18 n19 n189 V17 T17 hb17 h617 h817 hg17 hgw17 hN17 h17 hc17 h16 hp16 hp19 e16 e19 ha16 ha19
    have shw : Showy (.list [wD bs, .tuple ([(as, ([] : List Int))].map ruleD), .list (((ws0, es0) :: ts).map lotP)]) := showy_three bL (by omega) (ha2.le (by omega)) (by omega) (fun t htm => by
      obtain ⟨L, M, l1, l2⟩ := hMs t htm
      exact cmp_lot M l1 l2 (Nat.le_trans (mok_ends M) l2)) lts
    obtain ⟨⟨dxc, ec⟩, htc⟩ := id hc19
    -- repr, list
    try dsimp only [List.set_cons_succ, List.set_cons_zero]
    refine seq_chk (K := K) (G := G19) (eb_or0 (EvB.cast (eb_test (ed_op (ed_repr (ed_lst (ea_cons (ed_gb OG gb (eg_cg (i := 15) rfl OC cg hc19 hg19)) (ea_cons (ed_gr OG gr (eg_cg (i := 15) rfl OC cg hc19 hg19)) (ea_cons (ed_var (i := 19) rfl h19) ea_nil))) (by show 3 ≤ sizeLine; omega)) shw) (ed_repr (ed_lst (ea_cons (ed_var (i := 3) rfl hb19) (ea_cons (ed_var (i := 6) rfl h619) (ea_cons (ed_var (i := 16) rfl h169) ea_nil))) (by show 3 ≤ sizeLine; omega)) shw) ro_neS)) (by simp)) (eb_same fun H s Q q => ?_)) V19.gh fun G20 H20 n20 => ?_
    · exact fld_at rfl (s _ _ ec) OC.cl cn look_nears ⟨t, xs, rfl, .inr (same_tup s htc), fun l' hl' => ⟨_, rfl, l', p14, xs, rfl, rfl, upd_same, (same_upd hl') _ _ (s _ _ h149), hrefs, q G19 _ (Nx.lay s hl')⟩⟩
    have V20 := (Mv.nx (K := K) V19 T19 n20).vw
    have T20 := tabs_same T19 n20.hh
    have hb20 := dp_mono n20.gg _ hb19
    have h820 := dp_mono n20.gg _ h819
    have hg20 := hg19.mono n20.gg
    have hgw20 := hgw19.mono n20.gg
    have hN20 := hN19.mono n20.gg
    have h1420 := n20.gg _ _ h149
    have hc20 := hc19.mono n20.gg
    clear n20 V19 T19 hb19 h619 h819 hg19 hgw19 hN19 h149 hc19 ec htc shw h19 h169
    have eAT : ∀ n : Nat, AllE n (fun _ => true) = true := fun n => allE_true n
    -- by keywords
    try dsimp only [List.set_cons_succ, List.set_cons_zero]
    refine seq_chk (K := K) (G := G20) (eb_or0 (fun H s Q q => ?_) fun H s Q q => ?_) V20.gh fun G21 H21 n21 => ?_
    · exact ⟨_, rfl, tm_clmK (i := 7) (j := 10) (k := 14) rfl rfl rfl s h1420 hg20 (by omega) hgw20 hN20 lt fun g2 t2' G' H' n hc => rO_cc (G := G') (c := fun b => !b) OC n.gh (hc20.mono n.gg) hc (hg20.mono n.gg) SG (hgw20.mono n.gg) (prsN_same hrefs) fun G2 H2 n2 => ⟨false, by rw [eAT]; rfl, q G2 H2 (n.trans n2)⟩⟩
    · exact ⟨_, rfl, _, rfl, rO_cl (c := fun b => b) OC s hc20 h1420 fun G2 H2 n2 => ⟨false, rfl, q G2 H2 n2⟩⟩
    have V21 := (Mv.nx (K := K) V20 T20 n21).vw
    have T21 := tabs_same T20 n21.hh
    have hb21 := dp_mono n21.gg _ hb20
    have h821 := dp_mono n21.gg _ h820
    have hg21 := hg20.mono n21.gg
    have hgw21 := hgw20.mono n21.gg
    have hN21 := hN20.mono n21.gg
    have h1421 := n21.gg _ _ h1420
    have hc21 := hc20.mono n21.gg
    clear n21 V20 T20 hb20 h820 hg20 hgw20 hN20 h1420 hc20
    -- other
    refine seq_letM (K := K) (CG := CM) (G := G21) (em_one (W := W) (es := [0]) (fun G1 _ => ed_var (i := 5) rfl (.int (W : Int))) (ed_lst (ea_cons ed_int ea_nil) one1) hW1.1 (by omega) (.inl rfl)) V21.gh fun go G22 H22 n22 hgo22 => ?_
    have V22 := (Mv.nx (K := K) V21 T21 n22).vw
    have T22 := tabs_same T21 n22.hh
    have hb22 := dp_mono n22.gg _ hb21
    have h822 := dp_mono n22.gg _ h821
    have hg22 := hg21.mono n22.gg
    have hgw22 := hgw21.mono n22.gg
    have hN22 := hN21.mono n22.gg
    have h1422 := n22.gg _ _ h1421
    have hc22 := hc21.mono n22.gg
    clear n22 V21 T21 hb21 h821 hg21 hgw21 hN21 h1421 hc21
    -- spot
    refine ⟨_, rfl, _, rfl, _, _, rfl, rfl, d, l, c, ((bs.length : Int) + 1), rfl, V22.dr, by omega, by omega, fun j22 H23 hj0 hj1 nd23 D23 => ?_⟩
    obtain ⟨sp, rfl⟩ : ∃ sp : Nat, j22 = (sp : Int) := ⟨j22.toNat, by omega⟩
    have m23 := Mv.nd (K := K) V22 T22 nd23 D23
    have V23 := m23.vw
    have T23 := m23.tb
    clear m23 V22 T22 nd23 D23
    -- changed
    try dsimp only [List.set_cons_succ, List.set_cons_zero]
    have cutL : ∀ (lo hi : Option Int), (cutV xs lo hi).length ≤ xs.length := fun lo hi => cutV_length xs lo hi
    refine seq_asg ((el_cat (el_cat (el_cut (K := K) (G := G22) (i := 14) rfl h1422 eo_none (eo_some (ed_var (i := 22) rfl (.int (sp : Int))))) (el_one (i := 21) rfl) (by have := cutL none (some (sp : Int)); show _ + 1 ≤ sizeLine; omega)) (el_cut (K := K) (G := G22) (i := 14) rfl h1422 (eo_some (ed_op (ed_var (i := 22) rfl (.int (sp : Int))) ed_int ro_i)) eo_none) (by have h1 := cutL none (some (sp : Int)); have h2 := cutL (some ((sp : Int) + 1)) none; rw [List.length_append]; show _ + 1 + _ ≤ sizeLine; omega)).tell (fun _ _ _ _ h => h) V23.gh fun p23 ys G24 H24 n24 hp23 e23 hy => ?_)
    have hsp : sp < xs.length := by omega
    have hys : ys = xs.set sp (.ref go) := by
      rw [hy, cutV_to, show (sp : Int) + 1 = ((sp + 1 : Nat) : Int) by omega, cutV_from]
      exact cut_set _ hsp
    subst hys
    have V24 := (Mv.nx (K := K) V23 T23 n24).vw
    have T24 := tabs_same T23 n24.hh
    have hb24 := dp_mono n24.gg _ hb22
    have h824 := dp_mono n24.gg _ h822
    have hg24 := hg22.mono n24.gg
    have hgw24 := hgw22.mono n24.gg
    have hN24 := hN22.mono n24.gg
    have h1424 := n24.gg _ _ h1422
    have hc24 := hc22.mono n24.gg
    have hgo24 := hgo22.mono n24.gg
    clear n24 V23 T23 hb22 h822 hg22 hgw22 hN22 h1422 hc22 hgo22 hy
    obtain ⟨y0, hy0⟩ : ∃ y0, xs[sp]? = some y0 := ⟨_, List.getElem?_eq_getElem hsp⟩
    obtain ⟨m0, t00, ht00, ey0, hm0⟩ := hN24.2 sp y0 hy0
    subst ey0
    obtain ⟨e0, he0⟩ := near_any hgo24 hm0
    have pr := prsN_set (K := K) (CM := CM) (G := G24) hrefs hy0 he0
    have hNc : NrsAt K CM G24 ((bs.length + 1) ^ 2) (ts.set sp (oneW W, [0])) (xs.set sp (.ref go)) := nrs_set hN24 (by rw [← hWe]; exact hgo24)
    -- compared alike
    try dsimp only [List.set_cons_succ, List.set_cons_zero]
    refine seq_chk (K := K) (G := G24) (EvB.cast (eb_test (ed_op (x := .bool (AllE (xs.set sp (.ref go)).length fun i => if i = sp then e0 else true)) (y := .bool (AllE (xs.set sp (.ref go)).length fun i => if i = sp then e0 else true)) (fun H s Q q => ?_) (fun H s Q q => ?_) ro_neB)) (by simp)) V24.gh fun G25 H25 n25 => ?_
    · exact tm_clm (i := 7) (j := 10) (k := 23) rfl rfl rfl s e23 hg24 (by omega) hgw24 hNc (by rw [List.length_set, lt]) fun g2 t2' G' H' n hc => ⟨_, rfl, rO_cc (G := G') (c := fun b => b) OC n.gh hc (hc24.mono n.gg) (hg24.mono n.gg) SG (hgw24.mono n.gg) (pr.mono n.gg) fun G2 H2 n2 => q _ G2 H2 (n.trans n2) (.bl _)⟩
    · exact ⟨_, rfl, _, rfl, sqB_of s (.inl ⟨e23, h1424⟩) pr fun G2 H2 n2 => q _ G2 H2 n2 (.bl _)⟩
    have V25 := (Mv.nx (K := K) V24 T24 n25).vw
    have T25 := tabs_same T24 n25.hh
    have hb25 := dp_mono n25.gg _ hb24
    have h825 := dp_mono n25.gg _ h824
    have hg25 := hg24.mono n25.gg
    have hgw25 := hgw24.mono n25.gg
    have hN25 := hN24.mono n25.gg
    have h1425 := n25.gg _ _ h1424
    have hc25 := hc24.mono n25.gg
    have hgo25 := hgo24.mono n25.gg
    clear n25 V24 T24 hb24 h824 hg24 hgw24 hN24 h1424 hc24 hgo24 pr hNc he0 hm0 ht00 e23
    -- laps
    try dsimp only [List.set_cons_succ, List.set_cons_zero]
    obtain ⟨b', eb', hsb⟩ := dp_ints_t hb25
    cases eb'
    refine seq_forR (K := K) (G := G25) (n := 8) (fun _ σ Hc => ∃ y17 y18 y24 y25 y26 y27 y28, σ = [some (.ref a), some (.ref d), some (.int (0 + (i : Int))), some (.ref b), some (.int (bs.length : Int)), some (.int (W : Int)), some (.ref t2), some (.ref gg), some (.ref p3), z9, some (.ref gw), z11, some (.ref p12), z13, some (.ref p14), some (.ref g), some (.ref p16), y17, y18, some (.ref p19), z20, some (.ref go), some (.int (sp : Int)), some (.ref p23), y24, y25, y26, y27, y28, z29, z30, z31, z32, z33] ∧ Vw G25 Hc d l c ∧ Tabs [(Pt, (cxOf CX0 P w K mg base N_law "law" (defScope s_law) f (.ref c0) callerA [] s H E0).nox.env.qual ++ "<lambda>")] Hc) ed_int V25.gh (by decide) (fun G1 H1 n1 => ⟨_, _, _, _, _, _, _, rfl, vw_back (Mv.nx (K := K) V25 T25 n1).vw n1.gg, tabs_same T25 n1.hh⟩) (fun kk σ Hc hkk hP => ?_) fun σ Hc hP => ?_
    · obtain ⟨y17, y18, y24, y25, y26, y27, y28, rfl, Vq, Tb⟩ := hP
      dsimp only [gName]
      -- one, two
      refine ⟨_, rfl, _, rfl, _, rfl, by show 3 ≤ sizeLine; omega, fun pk hpk => ?_⟩
      have mk := Mv.nx (K := K) Vq Tb (Nx.new (o := .lst [.int 4, .int 4, .int 40]) Vq.gh hpk)
      have sk := (Nx.new (o := .lst [.int 4, .int 4, .int 40]) Vq.gh hpk).gg
      refine pickG_go (E := E0) mk.vw (SqL.of upd_same) (by show 0 < 3; decide) (by show 3 < 1000000; decide) fun vk Hk hvk ndk Dk => ?_
      obtain ⟨mx, rfl, hmx0, hmx1⟩ : ∃ mx : Int, vk = .int mx ∧ 0 ≤ mx ∧ mx ≤ 40 := by
        simp only [List.mem_cons, List.not_mem_nil, or_false, or_self_left] at hvk
        rcases hvk with rfl | rfl
        · exact ⟨4, rfl, by decide, by decide⟩
        · exact ⟨40, rfl, by decide, by decide⟩
      have m2 := Mv.nd (K := K) mk.vw mk.tb ndk Dk
      generalize upd G25 pk (.lst [.int 4, .int 4, .int 40]) = Gk at mk sk m2
      refine ⟨d, l, c, b, _, mx, rfl, m2.vw.dr, same_tup m2.vw.gh (same_tup sk hsb), by rw [lb]; omega, by rw [lb]; omega, hmx0, by omega, fun w1' a1 H5 hx1 hx2 hx0 hx n5 D5 => ?_⟩
      rw [lb] at hx2
      have k5 := Nw.tup (G := Gk) m2.vw n5 D5 hx0 hx
      have m5 := Mv.nw (K := K) m2.vw m2.tb k5
      have h15 : Dp K (upd Gk w1' (.tup (a1.map V.int))) (.ref w1') (wD a1) := .tup (SqT.of upd_same) (dpa_ints a1)
      have s5 := sk.trans k5.gg
      generalize upd Gk w1' (.tup (a1.map V.int)) = G5 at k5 m5 h15 s5
      refine ⟨_, rfl, _, rfl, d, l, c, b, _, 4, rfl, m5.vw.dr, same_tup m5.vw.gh (same_tup s5 hsb), by rw [lb]; omega, by rw [lb]; omega, by decide, by decide, fun w2' a2 H6 hy1 hy2 hy0' hy n6 D6 => ⟨_, _, rfl, ?_⟩⟩
      rw [lb] at hy2
      have k6 := Nw.tup (G := G5) m5.vw n6 D6 hy0' hy
      have m6 := Mv.nw (K := K) m5.vw m5.tb k6
      have h26 : Dp K (upd G5 w2' (.tup (a2.map V.int))) (.ref w2') (wD a2) := .tup (SqT.of upd_same) (dpa_ints a2)
      have h16 := dp_mono k6.gg _ h15
      have s6 := s5.trans k6.gg
      generalize upd G5 w2' (.tup (a2.map V.int)) = G6 at k6 m6 h26 h16 s6
      have V6 := m6.vw
      have T6 := m6.tb
      clear mk sk m2 k5 m5 h15 s5 k6 m6 hx hx0 n5 D5 hy hy0' n6 D6 Dk ndk hvk Vq Tb hpk
      dsimp only [gName]
      -- letter
      refine ⟨_, rfl, _, rfl, _, rfl, d, l, c, (bs.length : Int), rfl, V6.dr, by omega, by omega, fun j7 H7 hj0 hj1 nd7 D7 => ⟨by show 2 ≤ sizeLine; omega, fun pj hpj => ?_⟩⟩
      have m7 := Mv.nd (K := K) V6 T6 nd7 D7
      have nj := Nx.new (o := .lst [.non, .int j7]) m7.vw.gh hpj
      have mj := Mv.nx (K := K) m7.vw m7.tb nj
      refine pickG_go (E := E0) mj.vw (SqL.of upd_same) (by show 0 < 2; decide) (by show 2 < 1000000; decide) fun v27 H8' hv27 nd8 D8 => ?_
      have m8 := Mv.nd (K := K) mj.vw mj.tb nd8 D8
      have s8 := s6.trans nj.gg
      have h18 := dp_mono nj.gg _ h16
      have h28 := dp_mono nj.gg _ h26
      generalize upd G6 pj (.lst [.non, .int j7]) = G8' at nj mj m8 s8 h18 h28
      have V8' := m8.vw
      have T8' := m8.tb
      obtain ⟨y, hy27, hlet, hix⟩ : ∃ y, Dp K G8' v27 y ∧ letOk bs.length y = true ∧ ixOf y < bs.length + 1 := by
        rcases List.mem_cons.mp hv27 with rfl | hv27
        · exact ⟨.none, .non, rfl, Nat.succ_pos _⟩
        · rw [List.mem_singleton.mp hv27]
          refine ⟨.int j7, .int j7, ?_, ?_⟩
          · show (decide (0 ≤ j7) && decide (j7 ≤ (bs.length : Int) - 1)) = true
            rw [decide_eq_true hj0, decide_eq_true (by omega : j7 ≤ (bs.length : Int) - 1)]
            rfl
          · show j7.toNat + 1 < bs.length + 1
            omega
      obtain ⟨tt, htt⟩ : ∃ tt, ts[ixOf y]? = some tt := ⟨_, List.getElem?_eq_getElem (by omega)⟩
      have Mtt := (ht tt (List.mem_of_getElem? htt)).1
      clear m7 nj mj m8 V6 T6 s6 h16 h26 nd7 D7 nd8 D8 hv27 hpj
      -- ways_here, ends_here
      try dsimp only [List.set_cons_succ, List.set_cons_zero]
      have h88 := dp_mono s8 _ h825
      have eIx : ∀ {σ : L2.St}, σ[27]? = some (some v27) → EvD K (tIf (tTest (tOp (fun x y H Q => y = .non ∧ Q (.bl (decide (x = .non))) H) (tVar 27) (tC .non))) (tC (.int 1)) (tOp (rI0 fun i j => .int (i + j)) (tVar 27) (tC (.int 2)))) σ G8' (.int ((ixOf y + 1 : Nat) : Int)) := fun h => by
        refine ed_if (b := isNonD y) (eb_test (ed_op (ed_var (i := 27) h hy27) ed_non ro_isNd)) (fun z => ?_) fun z => ?_
        · cases y with
          | none => exact ed_int
          | _ => cases z
        · cases y with
          | int q =>
            have hi0 : (decide ((0 : Int) ≤ q) && decide (q ≤ (bs.length : Int) - 1)) = true := hlet
            rw [Bool.and_eq_true, decide_eq_true_iff, decide_eq_true_iff] at hi0
            refine EvD.cast (ed_op (ed_var (i := 27) h hy27) ed_int ro_i) ?_
            show PyData.int (q + 2) = .int ((q.toNat + 1 + 1 : Nat) : Int)
            rw [show ((q.toNat + 1 + 1 : Nat) : Int) = q + 2 by omega]
          | none => cases z
          | _ => cases hlet
      have hlots : (((ws0, es0) :: ts).map lotD)[ixOf y + 1]? = some (lotD tt) := by
        rw [List.map_cons, List.getElem?_cons_succ, List.getElem?_map, htt]; rfl
      refine seq_two (K := K) (G := G8') (x := .list (tt.1.map wayL)) (y := .list (nsD tt.2)) (ed_op (ed_var (i := 8) rfl h88) (eIx rfl) (ro_ixL (k := ixOf y + 1) rfl hlots)) V8'.gh fun v17 v18 G9' H9' n9 h17' h18' => ?_
      have V9' := (Mv.nx (K := K) V8' T8' n9).vw
      have T9' := tabs_same T8' n9.hh
      have s9 := s8.trans n9.gg
      have hy9 := dp_mono n9.gg _ hy27
      have h19' := dp_mono n9.gg _ h18
      have h29' := dp_mono n9.gg _ h28
      clear n9 V8' T8' h18 h28 h88 eIx
      -- due
      try dsimp only [List.set_cons_succ, List.set_cons_zero]
      have za1 : a1.length ≤ 1000 := by omega
      have za2 : a2.length ≤ 1000 := by omega
      refine seq_let (K := K) (G := G9') (d := .bool (sayB bs.length tt.1 tt.2 a1 a2)) (ed_op (ed_call (R := R_law_went) (E := E0) (ea_cons (ed_var (i := 17) rfl h17') (ea_cons (EvD.cast (ed_call (R := R_law_pairs_read) (E := E0) (ea_cons (ed_var (i := 3) rfl (dp_mono s9 _ hb25)) (ea_cons (ed_var (i := 25) rfl h19') (ea_cons (ed_var (i := 26) rfl h29') ea_nil))) ⟨bs, a1, a2, rfl, by omega, by omega, by omega, rfl⟩) (prN_row hx2 hy2)) ea_nil)) ⟨W, tt.1, prN bs.length a1 a2, rfl, Mtt.n1, Mtt.w, fun i' hi' => by rw [hWe]; exact prN_in hx2 hy2 i' hi', rfl⟩) (ed_var (i := 18) rfl h18') (ro_inL (shaped_oD _) shaped_es)) V9'.gh fun v28 G10' H10' n10 h28' => ?_
      have V10' := (Mv.nx (K := K) V9' T9' n10).vw
      have T10' := tabs_same T9' n10.hh
      have s10 := s9.trans n10.gg
      have hy10 := dp_mono n10.gg _ hy9
      have h110 := dp_mono n10.gg _ h19'
      have h210 := dp_mono n10.gg _ h29'
      clear n10 V9' T9' h19' h29' h17' h18' hy9 s9
      rw [hWe] at Mtt
      -- says
      try dsimp only [List.set_cons_succ, List.set_cons_zero]
      refine if_chk (K := K) (G := G10') (eb_or0 (EvB.cast (eb_not (eb_B (ed_tr (ed_says (i := 15) (j := 27) (k := 25) (m := 26) rfl rfl rfl rfl (hc25.mono s10) (hg25.mono s10) (by omega) (hN25.mono s10) hy10 h110 h210 hlet hx2 hy2 za1 za2 htt Mtt) (ed_var (i := 28) rfl h28')))) (by simp)) (EvB.cast (eb_test (ed_op (ed_saysK (i := 15) (j := 27) (k := 25) (m := 26) rfl rfl rfl rfl (hc25.mono s10) (hg25.mono s10) (by omega) (hN25.mono s10) hy10 h110 h210 hlet hx2 hy2 za1 za2 htt Mtt) (ed_var (i := 28) rfl h28') ro_neB)) (by simp))) V10'.gh fun G11' H11' n11 => ?_
      exact ⟨_, _, _, _, _, _, _, rfl, vw_back (Mv.nx (K := K) V10' T10' n11).vw (s10.trans n11.gg), tabs_same T10' n11.hh⟩
    obtain ⟨y17, y18, y24, y25, y26, y27, y28, rfl, V26, T26⟩ := hP
    -- none
    refine seq_asg ⟨_, rfl, (en_lst (K := K) (G := G25) (ds := [.none, .int 5, .str "x", .list []]) (ea_cons ed_non (ea_cons ed_int (ea_cons ed_str (ea_cons (ed_lst ea_nil (Nat.zero_le _)) ea_nil)))) (by show 4 ≤ sizeLine; omega)).tellV V26.gh fun pn vsn G27 H27 n27 hpn en han => ?_⟩
    have m27 := Mv.nx (K := K) V26 T26 n27
    refine pickG_go (E := E0) m27.vw (SqL.of en) (by rw [dpa_length han]; show 0 < 4; decide) (by rw [dpa_length han]; show 4 < 1000000; decide) fun v29 H28 hv29 nd28 D28 => ?_
    obtain ⟨jn, hjn⟩ := List.getElem?_of_mem hv29
    obtain ⟨x29, hx29, hd29⟩ := dpa_get han hjn
    have m28 := Mv.nd (K := K) m27.vw m27.tb nd28 D28
    have V28 := vw_noT m28.vw
    have T28 := m28.tb
    have hd29 : Dp K (noT G27) v29 x29 := dp_noT _ hd29
    have hb28 : Dp K (noT G27) (.ref b) (wD bs) := dp_noT _ (dp_mono n27.gg _ hb25)
    have hg28 := (hg25.mono n27.gg).noT
    have hgw28 := (hgw25.mono n27.gg).noT
    have hN28 := (hN25.mono n27.gg).noT
    have h1428 : noT G27 p14 = some (.lst xs) := noT_of (n27.gg _ _ h1425) (fun _ z => nomatch z)
    have hc28 := (hc25.mono n27.gg).noT
    have hgo28 := (hgo25.mono n27.gg).noT
    have hZ := noTb_noT G27
    generalize noT G27 = GZ at *
    clear m28 m27 V26 T26 n27 han hv29 hjn hx29 nd28 D28 hb25 h825 hg25 hgw25 hN25 h1425 hc25 hgo25 en V25 T25
    -- wrong groups
    try dsimp only [List.set_cons_succ, List.set_cons_zero]
    have mT : ∀ (C : Addr) (G G' : Hp) (v : V), Same G G' → TyF K C (noT G) v → TyF K C (noT G') v := fun C _ _ _ s h => h.mono (noT_mono s)
    refine seq_forV (K := K) (G := GZ) (n := 4) (B := fun G v => TyF K CG (noT G) v) (mT CG) (ev_cons (mT CG) (ex_of (K := K) ed_non fun _ _ _ h => tyF_d OG (dp_noT _ h)) fun G1 s1 => ev_cons (mT CG) (ex_of (K := K) ed_int fun _ _ _ h => tyF_d OG (dp_noT _ h)) fun G2 s2 => ev_cons (mT CG) (ex_of (K := K) (ed_tup (ea_cons (ed_var (i := 3) rfl (dp_mono (s1.trans s2) _ hb28)) (ea_cons (ed_tup ea_nil (Nat.zero_le _)) ea_nil)) (by show 2 ≤ sizeLine; omega)) fun _ _ _ h => tyF_d OG (dp_noT _ h)) fun G3 s3 => ev_cons (mT CG) (ex_var (i := 10) rfl (tyF_mac OM kMG (hgw28.mono ((s1.trans s2).trans s3)).noT)) fun _ _ => ev_nil) (by show 4 ≤ sizeLine; omega) V28.gh fun pb vsb G29 H29 n29 epb lvb hvb => ?_
    have V29 := vw_noT (Mv.nx (K := K) V28 T28 n29).vw
    have T29 := tabs_same T28 n29.hh
    have Z29 := same_noT hZ n29.gg
    refine ⟨pb, rfl, ⟨vsb, SqL.of (V29.gh _ _ (noT_of epb (fun _ z => nomatch z)))⟩, for_list (K := K) (a := pb) (xs := vsb) (fun j σ Hc => ∃ y30 y31, σ = [some (.ref a), some (.ref d), some (.int (0 + (i : Int))), some (.ref b), some (.int (bs.length : Int)), some (.int (W : Int)), some (.ref t2), some (.ref gg), some (.ref p3), z9, some (.ref gw), z11, some (.ref p12), z13, some (.ref p14), some (.ref g), some (.ref p16), y17, y18, some (.ref p19), z20, some (.ref go), some (.int (sp : Int)), some (.ref p23), y24, y25, y26, y27, y28, some v29, y30, y31, z32, z33] ∧ Vw (noT G29) Hc d l c ∧ Tabs [(Pt, (cxOf CX0 P w K mg base N_law "law" (defScope s_law) f (.ref c0) callerA [] s H E0).nox.env.qual ++ "<lambda>")] Hc) ⟨_, _, rfl, V29, T29⟩ (fun j σ Hc _ hp => by obtain ⟨_, _, _, h, _⟩ := hp; exact SqL.of (h.gh _ _ (noT_of epb (fun _ z => nomatch z)))) ?_ ?_⟩
    · rintro j v σ Hc' hj ⟨y30, y31, rfl, vq, tq⟩
      refine ⟨tq, fun H20 e20 t20 => ?_⟩
      dsimp only [TTc]
      refine tm_bad1 (i := 30) (j := 29) (k := 29) rfl rfl rfl (noT_ext vq.gh e20) (hvb v (List.mem_of_getElem? hj)) fun d' H' sm hd' => ⟨true, xC, fun _ ae hae => ?_, fun z => nomatch z⟩
      have sE := same_upd (o := ErrO (.ref CBC) (some d') ae) hae
      exact chk_part (i := 31) rfl upd_same (sE _ _ hd') EC kC ⟨_, _, rfl, vw_lam vq e20 (sm.trans sE), tabs_same t20 (sm.trans sE)⟩
    rintro σ H30 ⟨y30, y31, rfl, V30', T30⟩
    have V30 := vw_back V30' Z29
    clear V29 T29 Z29 V30' hvb epb n29 V28 T28
    dsimp only
    -- wrong words
    have mJ : ∀ (n : Int) (G G' : Hp) (v : V), Same G G' → JM K CM (noT G) n v false → JM K CM (noT G') n v false := fun n _ _ _ s h => h.mono (noT_mono s)
    have hWn : decide ((W : Int) = (bs.length : Int)) = false := decide_eq_false (by
      rw [hWe, Nat.pow_succ, Nat.pow_one]
      push_cast
      intro z
      have h1 : ((bs.length : Int) + 1) * 1 ≤ ((bs.length : Int) + 1) * ((bs.length : Int) + 1) := Int.mul_le_mul_of_nonneg_left (by omega) (by omega)
      omega)
    refine seq_forV (K := K) (G := GZ) (n := 5) (B := fun G v => JM K CM (noT G) (bs.length : Int) v false) (mJ _) (ev_cons (mJ _) (ex_of (K := K) ed_non fun _ _ _ h => .inr ⟨tyF_d OM (dp_noT _ h), rfl⟩) fun G1 s1 => ev_cons (mJ _) (ex_of (K := K) ed_int fun _ _ _ h => .inr ⟨tyF_d OM (dp_noT _ h), rfl⟩) fun G2 s2 => ev_cons (mJ _) (ex_var (i := 7) rfl (.inr ⟨tyF_grp OG kGM (hg28.mono (s1.trans s2)).noT, rfl⟩)) fun G3 s3 => ev_cons (mJ _) (ex_var (i := 21) rfl (by
      have h := jm_mac (hgo28.mono ((s1.trans s2).trans s3)).noT (bs.length : Int)
      rw [hWn] at h
      exact h)) fun G4 s4 => ev_cons (mJ _) (fun H s Q q => (em_one (K := K) (CM := CM) (G := G4) (W := bs.length + 1) (es := []) (fun G5 _ => ed_op (ed_var (i := 4) rfl (.int (bs.length : Int))) ed_int ro_i) (ed_lst ea_nil (Nat.zero_le _)) (by omega) (by omega) (.inr rfl)) H s Q fun m G' H' n hm => q _ G' H' n (by
      have h := jm_mac hm.noT (bs.length : Int)
      rw [decide_eq_false (by omega : ¬ ((bs.length + 1 : Nat) : Int) = (bs.length : Int))] at h
      exact h)) fun _ _ => ev_nil) (by show 5 ≤ sizeLine; omega) V30.gh fun pb31 vs31 G31 H31 n31 epb31 lvb31 hvb31 => ?_
    have V31 := vw_noT (Mv.nx (K := K) V30 T30 n31).vw
    have T31 := tabs_same T30 n31.hh
    have Z31 := same_noT hZ n31.gg
    have ep31 : noT G31 pb31 = some (.lst vs31) := noT_of epb31 (fun _ z => nomatch z)
    refine ⟨pb31, rfl, ⟨vs31, SqL.of (V31.gh _ _ ep31)⟩, for_list (K := K) (a := pb31) (xs := vs31) (fun j σ Hc => ∃ y30 y31, σ = [some (.ref a), some (.ref d), some (.int (0 + (i : Int))), some (.ref b), some (.int (bs.length : Int)), some (.int (W : Int)), some (.ref t2), some (.ref gg), some (.ref p3), z9, some (.ref gw), z11, some (.ref p12), z13, some (.ref p14), some (.ref g), some (.ref p16), y17, y18, some (.ref p19), z20, some (.ref go), some (.int (sp : Int)), some (.ref p23), y24, y25, y26, y27, y28, some v29, y30, y31, z32, z33] ∧ Vw (noT G31) Hc d l c ∧ Tabs [(Pt, (cxOf CX0 P w K mg base N_law "law" (defScope s_law) f (.ref c0) callerA [] s H E0).nox.env.qual ++ "<lambda>")] Hc) ⟨_, _, rfl, V31, T31⟩ (fun j σ Hc _ hp => by obtain ⟨_, _, _, h, _⟩ := hp; exact SqL.of (h.gh _ _ ep31)) ?_ ?_⟩
    · rintro j v σ Hc' hj ⟨y30, y31, rfl, vq, tq⟩
      refine ⟨tq, fun H20 e20 t20 => ?_⟩
      dsimp only [TTc]
      refine tm_bad2 (i := 7) (j := 30) (k := 29) rfl rfl rfl (noT_ext vq.gh e20) ((hg28.mono n31.gg).noT) (by omega) (hvb31 v (List.mem_of_getElem? hj)) fun d' H' sm hd' => ⟨true, xC, fun _ ae hae => ?_, fun z => nomatch z⟩
      have sE := same_upd (o := ErrO (.ref CBC) (some d') ae) hae
      exact chk_part (i := 31) rfl upd_same (sE _ _ hd') EC kC ⟨_, _, rfl, vw_lam vq e20 (sm.trans sE), tabs_same t20 (sm.trans sE)⟩
    rintro σ H32 ⟨y30, y31, rfl, V32', T32⟩
    have V32 := vw_back V32' Z31
    clear V31 T31 Z31 V32' hvb31 epb31 ep31 n31 V30 T30
    dsimp only
    -- wrong nears
    have mN : ∀ (n : Nat) (G G' : Hp) (v : V), Same G G' → NrJ K CM (noT G) n v false → NrJ K CM (noT G') n v false := fun n _ _ _ s h => h.mono (noT_mono s)
    have Wc : (W : Int) = (((bs.length + 1) ^ 2 : Nat) : Int) := by rw [hWe]
    have lx28 : xs.length = bs.length + 1 := lxs
    have allX : ∀ G', Same GZ G' → ∀ v ∈ xs, JM K CM (noT G') (((bs.length + 1) ^ 2 : Nat) : Int) v true := fun G' s v hv => jm_mem (hN28.mono s).noT hv rfl
    have cutL' : ∀ (lo hi : Option Int), ∀ v ∈ cutV xs lo hi, v ∈ xs := fun lo hi v hv => List.mem_of_mem_drop (List.mem_of_mem_take hv)
    have c1 : cutV xs (some 1) none = xs.drop 1 := cutV_from (k := 1)
    have c9 : (cutV xs none (some (-1))).length = bs.length := by rw [cutV_m1, List.length_take]; omega
    refine seq_forV (K := K) (G := GZ) (n := 7) (B := fun G v => NrJ K CM (noT G) bs.length v false) (mN _) (ev_cons (mN _) (ex_of (K := K) ed_non fun _ _ _ h => nrJ_d (dp_noT _ h) rfl) fun G1 s1 => ev_cons (mN _) (ex_of (K := K) ed_int fun _ _ _ h => nrJ_d (dp_noT _ h) rfl) fun G2 s2 => ev_cons (mN _) (fun H s Q q p hp => q _ _ _ (Nx.new (o := .dK []) s hp) (nrJ_dict (noT_of upd_same (fun _ z => nomatch z)))) fun G3 s3 => ?_) (by show 7 ≤ sizeLine; omega) V32.gh fun pb33 vs33 G33 H33 n33 epb33 lvb33 hvb33 => ?_
    · have s13 := (s1.trans s2).trans s3
      have idR : ∀ zs : List V, ∀ (G G' : Hp) (ys : List V), Same G G' → ys = zs → ys = zs := fun _ _ _ _ _ h => h
      refine ev_cons (mN _) (ex_P (el_cut (K := K) (i := 14) rfl (s13 _ _ h1428) (eo_some ed_int) eo_none) (idR _) fun G' p ys s hp hy => ?_) fun G4 s4 => ?_
      · subst hy
        exact nrJ_all (noT_of hp (fun _ z => nomatch z)) (by rw [c1, List.length_drop]; omega) (fun v hv => allX G' (s13.trans s) v (cutL' _ _ v hv)) (by rw [c1, List.length_drop]; omega)
      have s14 := s13.trans s4
      refine ev_cons (mN _) (ex_P (el_catV (i := 14) rfl (s14 _ _ h1428) (el_one (i := 21) rfl) (by show _ + 1 ≤ sizeLine; omega)) (idR _) fun G' p ys s hp hy => ?_) fun G5 s5 => ?_
      · subst hy
        exact nrJ_app (b := true) (noT_of hp (fun _ z => nomatch z)) (by omega) (allX G' (s14.trans s)) (by
          have h := jm_mac (hgo28.mono (s14.trans s)).noT (((bs.length + 1) ^ 2 : Nat) : Int)
          rw [decide_eq_true Wc] at h
          exact h) (.inl (by omega))
      have s15 := s14.trans s5
      refine ev_cons (mN _) (ex_P (el_cat (el_cut (K := K) (i := 14) rfl (s15 _ _ h1428) eo_none (eo_some ed_m1)) el_non (by rw [c9]; show _ + 1 ≤ sizeLine; omega)) (idR _) fun G' p ys s hp hy => ?_) fun G6 s6 => ?_
      · subst hy
        exact nrJ_app (b := false) (noT_of hp (fun _ z => nomatch z)) (by rw [c9]; omega) (fun v hv => allX G' (s15.trans s) v (cutL' _ _ v hv)) (.inr ⟨tyF_d (x := .none) OM .non, rfl⟩) (.inr rfl)
      have s16 := s15.trans s6
      refine ev_cons (mN _) (ex_P (el_cat (el_cut (K := K) (i := 14) rfl (s16 _ _ h1428) eo_none (eo_some ed_m1)) (el_one (i := 10) rfl) (by rw [c9]; show _ + 1 ≤ sizeLine; omega)) (idR _) fun G' p ys s hp hy => ?_) fun _ _ => ev_nil
      subst hy
      exact nrJ_app (b := false) (noT_of hp (fun _ z => nomatch z)) (by rw [c9]; omega) (fun v hv => allX G' (s16.trans s) v (cutL' _ _ v hv)) (by
        have h := jm_mac (hgw28.mono (s16.trans s)).noT (((bs.length + 1) ^ 2 : Nat) : Int)
        rw [decide_eq_false (by rw [← Wc]; exact fun z => absurd (decide_eq_true z.symm) (by rw [hWn]; decide))] at h
        exact h) (.inr rfl)
    have V33 := vw_noT (Mv.nx (K := K) V32 T32 n33).vw
    have T33 := tabs_same T32 n33.hh
    have Z33 := same_noT hZ n33.gg
    have ep33 : noT G33 pb33 = some (.lst vs33) := noT_of epb33 (fun _ z => nomatch z)
    refine ⟨pb33, rfl, ⟨vs33, SqL.of (V33.gh _ _ ep33)⟩, for_list (K := K) (a := pb33) (xs := vs33) (fun j σ Hc => ∃ y30 y31, σ = [some (.ref a), some (.ref d), some (.int (0 + (i : Int))), some (.ref b), some (.int (bs.length : Int)), some (.int (W : Int)), some (.ref t2), some (.ref gg), some (.ref p3), z9, some (.ref gw), z11, some (.ref p12), z13, some (.ref p14), some (.ref g), some (.ref p16), y17, y18, some (.ref p19), z20, some (.ref go), some (.int (sp : Int)), some (.ref p23), y24, y25, y26, y27, y28, some v29, y30, y31, z32, z33] ∧ Vw (noT G33) Hc d l c ∧ Tabs [(Pt, (cxOf CX0 P w K mg base N_law "law" (defScope s_law) f (.ref c0) callerA [] s H E0).nox.env.qual ++ "<lambda>")] Hc) ⟨_, _, rfl, V33, T33⟩ (fun j σ Hc _ hp => by obtain ⟨_, _, _, h, _⟩ := hp; exact SqL.of (h.gh _ _ ep33)) ?_ ?_⟩
    · rintro j v σ Hc' hj ⟨y30, y31, rfl, vq, tq⟩
      refine ⟨tq, fun H20 e20 t20 => ?_⟩
      dsimp only [TTc]
      refine tm_bad3 (i := 7) (j := 10) (k := 30) rfl rfl rfl (noT_ext vq.gh e20) ((hg28.mono n33.gg).noT) (by omega) (by
        have h := jm_mac (hgw28.mono n33.gg).noT (bs.length : Int)
        rw [decide_eq_true rfl] at h
        exact h) (hvb33 v (List.mem_of_getElem? hj)) fun d' H' sm hd' => ⟨true, xC, fun _ ae hae => ?_, fun z => nomatch z⟩
      have sE := same_upd (o := ErrO (.ref CBC) (some d') ae) hae
      exact chk_part (i := 31) rfl upd_same (sE _ _ hd') EC kC ⟨_, _, rfl, vw_lam vq e20 (sm.trans sE), tabs_same t20 (sm.trans sE)⟩
    rintro σ H34 ⟨y30, y31, rfl, V34', T34⟩
    have V34 := vw_back V34' Z33
    clear V33 T33 Z33 V34' hvb33 epb33 ep33 n33 V32 T32
    dsimp only
    -- wrong letters
    refine seq_forN (K := K) (G := GZ) (ds := badLs (bs.length : Int)) (en_lst (ea_cons ed_m1 (ea_cons (ed_var (i := 4) rfl (.int (bs.length : Int))) (ea_cons ed_bl (ea_cons ed_str (ea_cons (ed_tup (ea_cons ed_int ea_nil) one1) ea_nil))))) (by show 5 ≤ sizeLine; omega)) V34.gh fun pb35 vs35 G35 H35 n35 hpb35 eb35 hab35 => ?_
    have V35 := vw_noT (Mv.nx (K := K) V34 T34 n35).vw
    have T35 := tabs_same T34 n35.hh
    have Z35 := same_noT hZ n35.gg
    refine ⟨pb35, rfl, ⟨vs35, SqL.of eb35⟩, for_list (K := K) (a := pb35) (xs := vs35) (fun j σ Hc => ∃ y30 y31, σ = [some (.ref a), some (.ref d), some (.int (0 + (i : Int))), some (.ref b), some (.int (bs.length : Int)), some (.int (W : Int)), some (.ref t2), some (.ref gg), some (.ref p3), z9, some (.ref gw), z11, some (.ref p12), z13, some (.ref p14), some (.ref g), some (.ref p16), y17, y18, some (.ref p19), z20, some (.ref go), some (.int (sp : Int)), some (.ref p23), y24, y25, y26, y27, y28, some v29, y30, y31, z32, z33] ∧ Vw (noT G35) Hc d l c ∧ Tabs [(Pt, (cxOf CX0 P w K mg base N_law "law" (defScope s_law) f (.ref c0) callerA [] s H E0).nox.env.qual ++ "<lambda>")] Hc ∧ Hc pb35 = some (.lst vs35)) ⟨_, _, rfl, V35, T35, eb35⟩ (fun j σ Hc _ hp => by obtain ⟨_, _, _, _, _, h⟩ := hp; exact SqL.of h) ?_ ?_⟩
    · rintro j v σ Hc' hj ⟨y30, y31, rfl, vq, tq, eq'⟩
      obtain ⟨x, hx, hdx⟩ := dpa_get hab35 hj
      refine ⟨tq, fun H20 e20 t20 => ⟨_, rfl, _, rfl, ?_⟩⟩
      dsimp only [tCons, tC, tNil]
      refine says_bad2 (K := K) (noT_ext vq.gh e20) (hc28.mono n35.gg).noT (hg28.mono n35.gg).noT (by omega) (dp_noT _ hdx) (badLs_off (List.mem_of_getElem? hx)) fun d' H' sm hd' => ⟨true, xN, fun _ ae hae => ?_, fun z => nomatch z⟩
      have sE := same_upd (o := ErrO (.ref CBN) (some d') ae) hae
      exact chk_part (i := 31) rfl upd_same (sE _ _ hd') EN kN ⟨_, _, rfl, vw_lam vq e20 (sm.trans sE), tabs_same t20 (sm.trans sE), (sm.trans sE) _ _ (e20 _ _ eq' (fun _ z => nomatch z))⟩
    rintro σ H36 ⟨y30, y31, rfl, V36', T36, _⟩
    have V36 := vw_back V36' Z35
    clear V35 T35 Z35 V36' eb35 hab35 hpb35 n35 V34 T34
    dsimp only
    -- wrong
    refine seq_asg ⟨_, rfl, (en_lst (K := K) (G := GZ) (ds := wrongs (bs.length : Int)) (ea_cons ed_non (ea_cons ed_int (ea_cons (ed_lst (ea_cons ed_int ea_nil) one1) (ea_cons (ed_tup (ea_cons (ed_var (i := 4) rfl (.int (bs.length : Int))) ea_nil) one1) (ea_cons (ed_tup (ea_cons ed_m1 ea_nil) one1) (ea_cons (ed_tup (ea_cons ed_bl ea_nil) one1) (ea_cons ed_str ea_nil))))))) (by show 7 ≤ sizeLine; omega)).tellV V36.gh fun pw2 vsw2 G37 H37 n37 hpw2 ew2 haw2 => ?_⟩
    have m37 := Mv.nx (K := K) V36 T36 n37
    refine pickG_go (E := E0) m37.vw (SqL.of ew2) (by rw [dpa_length haw2]; show 0 < 7; decide) (by rw [dpa_length haw2]; show 7 < 1000000; decide) fun v32 H38 hv32 nd38 D38 => ?_
    obtain ⟨jw2, hjw2⟩ := List.getElem?_of_mem hv32
    obtain ⟨x32, hx32, hd32⟩ := dpa_get haw2 hjw2
    obtain ⟨off1, off2⟩ := off_rows (List.mem_of_getElem? hx32)
    have m38 := Mv.nd (K := K) m37.vw m37.tb nd38 D38
    have V38 := m38.vw
    have T38 := m38.tb
    have hvN : Dp K (noT H38) v32 x32 := dp_noT _ (dp_mono V38.gh _ hd32)
    have hcN := ((hc28.mono n37.gg).mono V38.gh).noT
    have hgN := ((hg28.mono n37.gg).mono V38.gh).noT
    have hnN : Dp K (noT H38) v29 x29 := dp_noT _ (dp_mono V38.gh _ (dp_mono n37.gg _ hd29))
    clear m38 m37 V36 T36 haw2 hjw2 hx32 hv32 nd38 ew2 n37 hd32 hN28 hgw28 hgo28 h1428 hb28
    -- what is no word
    try dsimp only [List.set_cons_succ, List.set_cons_zero]
    refine ⟨T38, fun f1 c1' H41 e41 t41 hf1 at1 co1 => ⟨t41, fun f2 c2 H42 e42 t42 hf2 at2 co2 => ⟨by show 2 ≤ sizeLine; omega, fun pq hpq => ⟨pq, rfl, ⟨_, SqL.of upd_same⟩, ?_⟩⟩⟩⟩
    have s41 := noT_ext noT_same e41
    have s42 := noT_ext s41 e42
    have s45 := same_upd (o := .lst [.ref f1, .ref f2]) hpq
    have g1 : noT H38 f1 = none := noT_none hf1
    have g2 : noT H38 f2 = none := s41.free hf2
    have at12 := e42 _ _ at1 (fun _ z => nomatch z)
    have co12 := e42 _ _ co1 (fun _ z => nomatch z)
    have n12' : f1 ≠ f2 := ne_of_none at1 hf2
    have m1' := code_ne at12 co12
    have m2' := code_ne at2 co2
    have m21' : c2 ≠ f1 := code_ne at12 co2
    refine for_list (K := K) (a := pq) (xs := [.ref f1, .ref f2]) (fun jj σ Hc => ∃ y33, σ = [some (.ref a), some (.ref d), some (.int (0 + (i : Int))), some (.ref b), some (.int (bs.length : Int)), some (.int (W : Int)), some (.ref t2), some (.ref gg), some (.ref p3), z9, some (.ref gw), z11, some (.ref p12), z13, some (.ref p14), some (.ref g), some (.ref p16), y17, y18, some (.ref p19), z20, some (.ref go), some (.int (sp : Int)), some (.ref p23), y24, y25, y26, y27, y28, some v29, y30, y31, some v32, y33] ∧ Same (noT H38) Hc ∧ Tabs [(Pt, (cxOf CX0 P w K mg base N_law "law" (defScope s_law) f (.ref c0) callerA [] s H E0).nox.env.qual ++ "<lambda>")] Hc ∧ Hc pq = some (.lst [.ref f1, .ref f2]) ∧
      (jj = 0 → Hc f1 = H42 f1 ∧ Hc c1' = H42 c1') ∧ (jj ≤ 1 → Hc f2 = H42 f2 ∧ Hc c2 = H42 c2))
      ⟨_, rfl, s42.trans s45, tabs_same t42 s45, upd_same, fun _ => ⟨(s45 _ _ at12).trans at12.symm, (s45 _ _ co12).trans co12.symm⟩, fun _ => ⟨(s45 _ _ at2).trans at2.symm, (s45 _ _ co2).trans co2.symm⟩⟩ (fun jj σ Hc _ hp => by obtain ⟨_, _, _, _, h, _⟩ := hp; exact SqL.of h) ?_ ?_
    · rintro jj v2 σ Hq' hjj ⟨y33, rfl, sq, tq, hpq', q1, q2⟩
      match jj, hjj with
      | 0, hjj =>
        cases hjj
        obtain ⟨r1, r1c⟩ := q1 rfl
        obtain ⟨r2, r2c⟩ := q2 (by decide)
        have r1 := r1.trans at12
        refine ⟨_, rfl, f1, c1', _, _, _, fun E => tCall (spSA K CC CG CM CBC CBN CW) [] E (tCons (tVar 15) (tCons (tC .non) (tCons (tVar 32) (tCons (tC .non) tNil)))), ⟨LamX.lamS_by (show LamX.lamSB (defScope s_law) _ = true by decide +kernel), fun _ _ _ _ _ => rfl, fun A outer s H E f c' hr => pe_okX h_says (passes_call (takes_of rfl rfl rfl rfl) fun _ _ _ _ h => h) (hr.mono (by decide)) (by rfl) (pa_cons (pv 15) (pa_cons pe_non (pa_cons (pv 32) (pa_cons pe_non pa_nil))))⟩, rfl, r1, r1c.trans co12, m1', ?_⟩
        refine ⟨_, rfl, _, rfl, ?_⟩
        dsimp only [tCons, tC, tNil]
        have sd := same_del sq g1
        refine says_bad3 (K := K) sd hcN hgN (by omega) hvN off2 off1 fun G' H' n => ⟨true, xW, fun _ ae hae => ?_, fun z => nomatch z⟩
        have sE := same_upd (o := ErrO (.ref CW) none ae) hae
        have keep := n.hh.trans sE
        refine isc_yes EW kW upd_same ⟨true, rfl, if_off rfl (nx_of ⟨_, rfl, (same_del sq g1).trans keep, tabs_same (tabs_del tq r1) keep, keep _ _ ((delH_ne (ne_of hpq' r1 fun z => nomatch z)).trans hpq'), (fun z => absurd z (by decide)), fun _ => ⟨(keep _ _ ((delH_ne (Ne.symm n12')).trans (r2.trans at2))).trans at2.symm, (keep _ _ ((delH_ne m21').trans (r2c.trans co2))).trans co2.symm⟩⟩)⟩
      | 1, hjj =>
        cases hjj
        obtain ⟨r2, r2c⟩ := q2 (by decide)
        have r2 := r2.trans at2
        refine ⟨_, rfl, f2, c2, _, _, _, fun E => tCall (spSA K CC CG CM CBC CBN CW) [] E (tCons (tVar 15) (tCons (tC (.int 0)) (tCons (tTup tNil) (tCons (tVar 32) tNil)))), ⟨LamX.lamS_by (show LamX.lamSB (defScope s_law) _ = true by decide +kernel), fun _ _ _ _ _ => rfl, fun A outer s H E f c' hr => pe_okX h_says (passes_call (takes_of rfl rfl rfl rfl) fun _ _ _ _ h => h) (hr.mono (by decide)) (by rfl) (pa_cons (pv 15) (pa_cons pe_int (pa_cons (pe_tup pa_nil) (pa_cons (pv 32) pa_nil))))⟩, rfl, r2, r2c.trans co2, m2', ?_⟩
        refine ⟨_, rfl, Nat.zero_le _, fun t0 ht0 => ⟨_, rfl, ?_⟩⟩
        dsimp only [tCons, tC, tNil]
        have sd0 := same_del sq g2
        have s0 := same_upd (o := .tup []) (sd0.free ht0)
        refine says_bad4 (K := K) (G := upd (noT H38) t0 (.tup [])) (b2 := by omega) (fun a o e => by
          by_cases hq : a = t0
          · subst hq; rw [upd_same] at e; rw [upd_same]; exact e
          · rw [upd_ne hq] at e; rw [upd_ne hq]; exact sd0 a o e) (hcN.mono s0) (hgN.mono s0) (by omega) (.tup (SqT.of upd_same) .nil) (dp_mono s0 _ hvN) off2 off1 fun G' H' n => ⟨true, xW, fun _ ae hae => ?_, fun z => nomatch z⟩
        have sE := same_upd (o := ErrO (.ref CW) none ae) hae
        have keep := (same_upd (o := .tup []) ht0).trans (n.hh.trans sE)
        refine isc_yes EW kW upd_same ⟨true, rfl, if_off rfl (nx_of ⟨_, rfl, (same_del sq g2).trans keep, tabs_same (tabs_del tq r2) keep, keep _ _ ((delH_ne (ne_of hpq' r2 fun z => nomatch z)).trans hpq'), (fun z => absurd z (by decide)), (fun z => absurd z (by decide))⟩)⟩
      | jj + 2, hjj => cases hjj
    rintro σ H50 ⟨y33, rfl, s50, T50, _⟩
    have D50 : Drw H50 d l c := D38.noT.same s50
    have hn50 := hnN
    clear s41 s42 s45 g1 g2 at12 co12 at1 co1 at2 co2 hf1 hf2 e41 e42 t41 t42 T38
    -- what is no claim
    try dsimp only [List.set_cons_succ, List.set_cons_zero]
    refine ⟨T50, fun H51 e51 t51 => ⟨_, rfl, ?_⟩⟩
    dsimp only [tCons, tC, tNil]
    refine says_bad1 (K := K) (noT_ext s50 e51) (tyF_d OC hnN) fun d' H' sm hd' => ⟨true, xC, fun _ ae hae => ?_, fun z => nomatch z⟩
    have sE := same_upd (o := ErrO (.ref CBC) (some d') ae) hae
    refine chk_none (i := 31) rfl upd_same (sE _ _ hd') EC kC ⟨_, _, _, _, _, _, _, _, _, _, _, _, _, _, _, _, _, _, _, _, _, _, _, _, _, _, _, _, _, _, _, _, rfl, ?_, tabs_same t51 (sm.trans sE)⟩
    exact drw_lam D50 e51 (sm.trans sE)
  · obtain ⟨z2, z3, z4, z5, z6, z7, z8, z9, z10, z11, z12, z13, z14, z15, z16, z17, z18, z19, z20, z21, z22, z23, z24, z25, z26, z27, z28, z29, z30, z31, z32, z33, rfl, Dc, Tc⟩ := hP
    rfl
end Gw
namespace Gw
open PySem PySem.Spec PyProof.Rows PySem.HandSPX L2 LamX
/-! ### what the top has written, the head -/
theorem all_mk {l : PySem.W.OpenLaw} {w : World} {K : PySem.W.Frag} {h : Heap} {mg : Str → Option Value} {fa : Addr} {ts : List Addr} (X : K.In h) (G : h.Ns mainGlobals mg) (hfa : mg "law" = some (.ref fa))
    {C_GroupError : Addr}
    {C_BadClaim : Addr}
    {nm_BadClaim q_BadClaim : Str} {N_BadClaim fI_BadClaim cda_BadClaim cc_BadClaim : Addr} {bs_BadClaim : List Value} {sn_BadClaim : List Str} {sub_BadClaim : List Value} {ab_BadClaim : Bool} {col_BadClaim : Option Bool} {dd_BadClaim : Option Addr} {m0_BadClaim m1_BadClaim m2_BadClaim m3_BadClaim m5_BadClaim : Option Value}
    {oi_BadClaim : Value} {odi_BadClaim : Option Addr} {doci_BadClaim pmi_BadClaim : Value} {ani_BadClaim : Option Addr} {cti_BadClaim : Value} {osli_BadClaim : Array (Option Value)} {ccl_BadClaim ccv_BadClaim : Value} {cdd_BadClaim cld_BadClaim : Option Addr} {vsi_BadClaim : Array Value} {ccs_BadClaim csl_BadClaim : Array (Option Value)} {file_BadClaim : Str} {tf_BadClaim : Tok}
    {C_BadGroup : Addr}
    {nm_BadGroup q_BadGroup : Str} {N_BadGroup fI_BadGroup cda_BadGroup cc_BadGroup : Addr} {bs_BadGroup : List Value} {sn_BadGroup : List Str} {sub_BadGroup : List Value} {ab_BadGroup : Bool} {col_BadGroup : Option Bool} {dd_BadGroup : Option Addr} {m0_BadGroup m1_BadGroup m2_BadGroup m3_BadGroup m5_BadGroup : Option Value}
    {oi_BadGroup : Value} {odi_BadGroup : Option Addr} {doci_BadGroup pmi_BadGroup : Value} {ani_BadGroup : Option Addr} {cti_BadGroup : Value} {osli_BadGroup : Array (Option Value)} {ccl_BadGroup ccv_BadGroup : Value} {cdd_BadGroup cld_BadGroup : Option Addr} {vsi_BadGroup : Array Value} {ccs_BadGroup csl_BadGroup : Array (Option Value)} {file_BadGroup : Str} {tf_BadGroup : Tok}
    {C_BadMachine : Addr}
    {nm_BadMachine q_BadMachine : Str} {N_BadMachine fI_BadMachine cda_BadMachine cc_BadMachine : Addr} {bs_BadMachine : List Value} {sn_BadMachine : List Str} {sub_BadMachine : List Value} {ab_BadMachine : Bool} {col_BadMachine : Option Bool} {dd_BadMachine : Option Addr} {m0_BadMachine m1_BadMachine m2_BadMachine m3_BadMachine m5_BadMachine : Option Value}
    {oi_BadMachine : Value} {odi_BadMachine : Option Addr} {doci_BadMachine pmi_BadMachine : Value} {ani_BadMachine : Option Addr} {cti_BadMachine : Value} {osli_BadMachine : Array (Option Value)} {ccl_BadMachine ccv_BadMachine : Value} {cdd_BadMachine cld_BadMachine : Option Addr} {vsi_BadMachine : Array Value} {ccs_BadMachine csl_BadMachine : Array (Option Value)} {file_BadMachine : Str} {tf_BadMachine : Tok}
    {C_BadNumber : Addr}
    {nm_BadNumber q_BadNumber : Str} {N_BadNumber fI_BadNumber cda_BadNumber cc_BadNumber : Addr} {bs_BadNumber : List Value} {sn_BadNumber : List Str} {sub_BadNumber : List Value} {ab_BadNumber : Bool} {col_BadNumber : Option Bool} {dd_BadNumber : Option Addr} {m0_BadNumber m1_BadNumber m2_BadNumber m3_BadNumber m5_BadNumber : Option Value}
    {oi_BadNumber : Value} {odi_BadNumber : Option Addr} {doci_BadNumber pmi_BadNumber : Value} {ani_BadNumber : Option Addr} {cti_BadNumber : Value} {osli_BadNumber : Array (Option Value)} {ccl_BadNumber ccv_BadNumber : Value} {cdd_BadNumber cld_BadNumber : Option Addr} {vsi_BadNumber : Array Value} {ccs_BadNumber csl_BadNumber : Array (Option Value)} {file_BadNumber : Str} {tf_BadNumber : Tok}
    {C_BadWord : Addr}
    {C_Group : Addr}
    {g_Groupinit : Addr} {od_Groupinit an_Groupinit : Option Addr} {sl_Groupinit : Array (Option Value)} {oc_Groupinit kV_Groupinit dc_Groupinit pm_Groupinit cd_Groupinit ct_Groupinit : Value}
    {g_Groupeq : Addr} {od_Groupeq an_Groupeq : Option Addr} {sl_Groupeq : Array (Option Value)} {oc_Groupeq kV_Groupeq dc_Groupeq pm_Groupeq cd_Groupeq ct_Groupeq : Value}
    {C_Machine : Addr}
    {g_Machineinit : Addr} {od_Machineinit an_Machineinit : Option Addr} {sl_Machineinit : Array (Option Value)} {oc_Machineinit kV_Machineinit dc_Machineinit pm_Machineinit cd_Machineinit ct_Machineinit : Value}
    {g_Machineeq : Addr} {od_Machineeq an_Machineeq : Option Addr} {sl_Machineeq : Array (Option Value)} {oc_Machineeq kV_Machineeq dc_Machineeq pm_Machineeq cd_Machineeq ct_Machineeq : Value}
    {C_Claim : Addr}
    {g_Claiminit : Addr} {od_Claiminit an_Claiminit : Option Addr} {sl_Claiminit : Array (Option Value)} {oc_Claiminit kV_Claiminit dc_Claiminit pm_Claiminit cd_Claiminit ct_Claiminit : Value}
    {g_Claimeq : Addr} {od_Claimeq an_Claimeq : Option Addr} {sl_Claimeq : Array (Option Value)} {oc_Claimeq kV_Claimeq dc_Claimeq pm_Claimeq cd_Claimeq ct_Claimeq : Value}
    {f0 : Addr} {od0 an0 : Option Addr} {sl0 : Array (Option Value)} {oc0 kV0 dc0 pm0 cd0 ct0 : Value}
    {f1 : Addr} {od1 an1 : Option Addr} {sl1 : Array (Option Value)} {oc1 kV1 dc1 pm1 cd1 ct1 : Value}
    {f2 : Addr} {od2 an2 : Option Addr} {sl2 : Array (Option Value)} {oc2 kV2 dc2 pm2 cd2 ct2 : Value}
    {f3 : Addr} {od3 an3 : Option Addr} {sl3 : Array (Option Value)} {oc3 kV3 dc3 pm3 cd3 ct3 : Value}
    {f4 : Addr} {od4 an4 : Option Addr} {sl4 : Array (Option Value)} {oc4 kV4 dc4 pm4 cd4 ct4 : Value}
    {f5 : Addr} {od5 an5 : Option Addr} {sl5 : Array (Option Value)} {oc5 kV5 dc5 pm5 cd5 ct5 : Value}
    {f6 : Addr} {od6 an6 : Option Addr} {sl6 : Array (Option Value)} {oc6 kV6 dc6 pm6 cd6 ct6 : Value}
    {f7 : Addr} {od7 an7 : Option Addr} {sl7 : Array (Option Value)} {oc7 kV7 dc7 pm7 cd7 ct7 : Value}
    {f8 : Addr} {od8 an8 : Option Addr} {sl8 : Array (Option Value)} {oc8 kV8 dc8 pm8 cd8 ct8 : Value}
    {f9 : Addr} {od9 an9 : Option Addr} {sl9 : Array (Option Value)} {oc9 kV9 dc9 pm9 cd9 ct9 : Value}
    {f10 : Addr} {od10 an10 : Option Addr} {sl10 : Array (Option Value)} {oc10 kV10 dc10 pm10 cd10 ct10 : Value}
    {f11 : Addr} {od11 an11 : Option Addr} {sl11 : Array (Option Value)} {oc11 kV11 dc11 pm11 cd11 ct11 : Value}
    {f12 : Addr} {od12 an12 : Option Addr} {sl12 : Array (Option Value)} {oc12 kV12 dc12 pm12 cd12 ct12 : Value}
    {f13 : Addr} {od13 an13 : Option Addr} {sl13 : Array (Option Value)} {oc13 kV13 dc13 pm13 cd13 ct13 : Value}
    {f14 : Addr} {od14 an14 : Option Addr} {sl14 : Array (Option Value)} {oc14 kV14 dc14 pm14 cd14 ct14 : Value}
    {f15 : Addr} {od15 an15 : Option Addr} {sl15 : Array (Option Value)} {oc15 kV15 dc15 pm15 cd15 ct15 : Value}
    {f16 : Addr} {od16 an16 : Option Addr} {sl16 : Array (Option Value)} {oc16 kV16 dc16 pm16 cd16 ct16 : Value}
    {f17 : Addr} {od17 an17 : Option Addr} {sl17 : Array (Option Value)} {oc17 kV17 dc17 pm17 cd17 ct17 : Value}
    {f18 : Addr} {od18 an18 : Option Addr} {sl18 : Array (Option Value)} {oc18 kV18 dc18 pm18 cd18 ct18 : Value}
    {f19 : Addr} {od19 an19 : Option Addr} {sl19 : Array (Option Value)} {oc19 kV19 dc19 pm19 cd19 ct19 : Value}
    {f20 : Addr} {od20 an20 : Option Addr} {sl20 : Array (Option Value)} {oc20 kV20 dc20 pm20 cd20 ct20 : Value}
    {f21 : Addr} {od21 an21 : Option Addr} {sl21 : Array (Option Value)} {oc21 kV21 dc21 pm21 cd21 ct21 : Value}
    {f22 : Addr} {od22 an22 : Option Addr} {sl22 : Array (Option Value)} {oc22 kV22 dc22 pm22 cd22 ct22 : Value}
    {f23 : Addr} {od23 an23 : Option Addr} {sl23 : Array (Option Value)} {oc23 kV23 dc23 pm23 cd23 ct23 : Value}
    {f24 : Addr} {od24 an24 : Option Addr} {sl24 : Array (Option Value)} {oc24 kV24 dc24 pm24 cd24 ct24 : Value}
    {f25 : Addr} {od25 an25 : Option Addr} {sl25 : Array (Option Value)} {oc25 kV25 dc25 pm25 cd25 ct25 : Value}
    {f26 : Addr} {od26 an26 : Option Addr} {sl26 : Array (Option Value)} {oc26 kV26 dc26 pm26 cd26 ct26 : Value}
    {f27 : Addr} {od27 an27 : Option Addr} {sl27 : Array (Option Value)} {oc27 kV27 dc27 pm27 cd27 ct27 : Value}
    {f28 : Addr} {od28 an28 : Option Addr} {sl28 : Array (Option Value)} {oc28 kV28 dc28 pm28 cd28 ct28 : Value}
    {f29 : Addr} {od29 an29 : Option Addr} {sl29 : Array (Option Value)} {oc29 kV29 dc29 pm29 cd29 ct29 : Value}
    {f30 cL Pt : Addr} {od30 an30 ddT : Option Addr} {sl30 slT : Array (Option Value)} {oc30 kV30 dc30 pm30 ct30 eT : Value} {vsT : Array Value}
    {t_MOST_BACK : Tok}
    {t_MOST_RULES : Tok}
    {t_MOST_SIDE : Tok}
    {t_MOST_READ : Tok}
    {t_MOST_STATES : Tok}
    (a0 : PySem.W.nsIn K mainGlobals "is_number" = some (some (.ref f0)))
    (l0 : K.lookup f0 = some ⟨oc0, od0, .func (PySem.W.fnOf "is_number" "is_number" (defArgs s_is_number) (defBody s_is_number) (defScope s_is_number) .none kV0 dc0 pm0 an0 cd0 ct0), sl0⟩)
    (c0 : PySem.W.codeIn K cd0 "is_number" = true)
    (k0 : PySem.W.keepIn K (.ref f0) = true)
    (a1 : PySem.W.nsIn K mainGlobals "is_number_in" = some (some (.ref f1)))
    (l1 : K.lookup f1 = some ⟨oc1, od1, .func (PySem.W.fnOf "is_number_in" "is_number_in" (defArgs s_is_number_in) (defBody s_is_number_in) (defScope s_is_number_in) .none kV1 dc1 pm1 an1 cd1 ct1), sl1⟩)
    (c1 : PySem.W.codeIn K cd1 "is_number_in" = true)
    (k1 : PySem.W.keepIn K (.ref f1) = true)
    (a2 : PySem.W.nsIn K mainGlobals "is_list" = some (some (.ref f2)))
    (l2 : K.lookup f2 = some ⟨oc2, od2, .func (PySem.W.fnOf "is_list" "is_list" (defArgs s_is_list) (defBody s_is_list) (defScope s_is_list) .none kV2 dc2 pm2 an2 cd2 ct2), sl2⟩)
    (c2 : PySem.W.codeIn K cd2 "is_list" = true)
    (k2 : PySem.W.keepIn K (.ref f2) = true)
    (a3 : PySem.W.nsIn K mainGlobals "is_pair" = some (some (.ref f3)))
    (l3 : K.lookup f3 = some ⟨oc3, od3, .func (PySem.W.fnOf "is_pair" "is_pair" (defArgs s_is_pair) (defBody s_is_pair) (defScope s_is_pair) .none kV3 dc3 pm3 an3 cd3 ct3), sl3⟩)
    (c3 : PySem.W.codeIn K cd3 "is_pair" = true)
    (k3 : PySem.W.keepIn K (.ref f3) = true)
    (a4 : PySem.W.nsIn K mainGlobals "is_row" = some (some (.ref f4)))
    (l4 : K.lookup f4 = some ⟨oc4, od4, .func (PySem.W.fnOf "is_row" "is_row" (defArgs s_is_row) (defBody s_is_row) (defScope s_is_row) .none kV4 dc4 pm4 an4 cd4 ct4), sl4⟩)
    (c4 : PySem.W.codeIn K cd4 "is_row" = true)
    (k4 : PySem.W.keepIn K (.ref f4) = true)
    (a5 : PySem.W.nsIn K mainGlobals "is_short_row" = some (some (.ref f5)))
    (l5 : K.lookup f5 = some ⟨oc5, od5, .func (PySem.W.fnOf "is_short_row" "is_short_row" (defArgs s_is_short_row) (defBody s_is_short_row) (defScope s_is_short_row) .none kV5 dc5 pm5 an5 cd5 ct5), sl5⟩)
    (c5 : PySem.W.codeIn K cd5 "is_short_row" = true)
    (k5 : PySem.W.keepIn K (.ref f5) = true)
    (a6 : PySem.W.nsIn K mainGlobals "is_back" = some (some (.ref f6)))
    (l6 : K.lookup f6 = some ⟨oc6, od6, .func (PySem.W.fnOf "is_back" "is_back" (defArgs s_is_back) (defBody s_is_back) (defScope s_is_back) .none kV6 dc6 pm6 an6 cd6 ct6), sl6⟩)
    (c6 : PySem.W.codeIn K cd6 "is_back" = true)
    (k6 : PySem.W.keepIn K (.ref f6) = true)
    (a7 : PySem.W.nsIn K mainGlobals "want_letters" = some (some (.ref f7)))
    (l7 : K.lookup f7 = some ⟨oc7, od7, .func (PySem.W.fnOf "want_letters" "want_letters" (defArgs s_want_letters) (defBody s_want_letters) (defScope s_want_letters) .none kV7 dc7 pm7 an7 cd7 ct7), sl7⟩)
    (c7 : PySem.W.codeIn K cd7 "want_letters" = true)
    (k7 : PySem.W.keepIn K (.ref f7) = true)
    (a8 : PySem.W.nsIn K mainGlobals "is_rule" = some (some (.ref f8)))
    (l8 : K.lookup f8 = some ⟨oc8, od8, .func (PySem.W.fnOf "is_rule" "is_rule" (defArgs s_is_rule) (defBody s_is_rule) (defScope s_is_rule) .none kV8 dc8 pm8 an8 cd8 ct8), sl8⟩)
    (c8 : PySem.W.codeIn K cd8 "is_rule" = true)
    (k8 : PySem.W.keepIn K (.ref f8) = true)
    (a9 : PySem.W.nsIn K mainGlobals "are_rules" = some (some (.ref f9)))
    (l9 : K.lookup f9 = some ⟨oc9, od9, .func (PySem.W.fnOf "are_rules" "are_rules" (defArgs s_are_rules) (defBody s_are_rules) (defScope s_are_rules) .none kV9 dc9 pm9 an9 cd9 ct9), sl9⟩)
    (c9 : PySem.W.codeIn K cd9 "are_rules" = true)
    (k9 : PySem.W.keepIn K (.ref f9) = true)
    (a10 : PySem.W.nsIn K mainGlobals "is_way" = some (some (.ref f10)))
    (l10 : K.lookup f10 = some ⟨oc10, od10, .func (PySem.W.fnOf "is_way" "is_way" (defArgs s_is_way) (defBody s_is_way) (defScope s_is_way) .none kV10 dc10 pm10 an10 cd10 ct10), sl10⟩)
    (c10 : PySem.W.codeIn K cd10 "is_way" = true)
    (k10 : PySem.W.keepIn K (.ref f10) = true)
    (a11 : PySem.W.nsIn K mainGlobals "are_ways" = some (some (.ref f11)))
    (l11 : K.lookup f11 = some ⟨oc11, od11, .func (PySem.W.fnOf "are_ways" "are_ways" (defArgs s_are_ways) (defBody s_are_ways) (defScope s_are_ways) .none kV11 dc11 pm11 an11 cd11 ct11), sl11⟩)
    (c11 : PySem.W.codeIn K cd11 "are_ways" = true)
    (k11 : PySem.W.keepIn K (.ref f11) = true)
    (a12 : PySem.W.nsIn K mainGlobals "are_ends" = some (some (.ref f12)))
    (l12 : K.lookup f12 = some ⟨oc12, od12, .func (PySem.W.fnOf "are_ends" "are_ends" (defArgs s_are_ends) (defBody s_are_ends) (defScope s_are_ends) .none kV12 dc12 pm12 an12 cd12 ct12), sl12⟩)
    (c12 : PySem.W.codeIn K cd12 "are_ends" = true)
    (k12 : PySem.W.keepIn K (.ref f12) = true)
    (a13 : PySem.W.nsIn K mainGlobals "state_behind" = some (some (.ref f13)))
    (l13 : K.lookup f13 = some ⟨oc13, od13, .func (PySem.W.fnOf "state_behind" "state_behind" (defArgs s_state_behind) (defBody s_state_behind) (defScope s_state_behind) .none kV13 dc13 pm13 an13 cd13 ct13), sl13⟩)
    (c13 : PySem.W.codeIn K cd13 "state_behind" = true)
    (k13 : PySem.W.keepIn K (.ref f13) = true)
    (a14 : PySem.W.nsIn K mainGlobals "row_of_pair" = some (some (.ref f14)))
    (l14 : K.lookup f14 = some ⟨oc14, od14, .func (PySem.W.fnOf "row_of_pair" "row_of_pair" (defArgs s_row_of_pair) (defBody s_row_of_pair) (defScope s_row_of_pair) .none kV14 dc14 pm14 an14 cd14 ct14), sl14⟩)
    (c14 : PySem.W.codeIn K cd14 "row_of_pair" = true)
    (k14 : PySem.W.keepIn K (.ref f14) = true)
    (a15 : PySem.W.nsIn K mainGlobals "is_machine_of" = some (some (.ref f15)))
    (l15 : K.lookup f15 = some ⟨oc15, od15, .func (PySem.W.fnOf "is_machine_of" "is_machine_of" (defArgs s_is_machine_of) (defBody s_is_machine_of) (defScope s_is_machine_of) .none kV15 dc15 pm15 an15 cd15 ct15), sl15⟩)
    (c15 : PySem.W.codeIn K cd15 "is_machine_of" = true)
    (k15 : PySem.W.keepIn K (.ref f15) = true)
    (a16 : PySem.W.nsIn K mainGlobals "are_nears" = some (some (.ref f16)))
    (l16 : K.lookup f16 = some ⟨oc16, od16, .func (PySem.W.fnOf "are_nears" "are_nears" (defArgs s_are_nears) (defBody s_are_nears) (defScope s_are_nears) .none kV16 dc16 pm16 an16 cd16 ct16), sl16⟩)
    (c16 : PySem.W.codeIn K cd16 "are_nears" = true)
    (k16 : PySem.W.keepIn K (.ref f16) = true)
    (a17 : PySem.W.nsIn K mainGlobals "want_claim" = some (some (.ref f17)))
    (l17 : K.lookup f17 = some ⟨oc17, od17, .func (PySem.W.fnOf "want_claim" "want_claim" (defArgs s_want_claim) (defBody s_want_claim) (defScope s_want_claim) .none kV17 dc17 pm17 an17 cd17 ct17), sl17⟩)
    (c17 : PySem.W.codeIn K cd17 "want_claim" = true)
    (k17 : PySem.W.keepIn K (.ref f17) = true)
    (a18 : PySem.W.nsIn K mainGlobals "says" = some (some (.ref f18)))
    (l18 : K.lookup f18 = some ⟨oc18, od18, .func (PySem.W.fnOf "says" "says" (defArgs s_says) (defBody s_says) (defScope s_says) .none kV18 dc18 pm18 an18 cd18 ct18), sl18⟩)
    (c18 : PySem.W.codeIn K cd18 "says" = true)
    (k18 : PySem.W.keepIn K (.ref f18) = true)
    (a19 : PySem.W.nsIn K mainGlobals "_law_begun" = some (some (.ref f19)))
    (l19 : K.lookup f19 = some ⟨oc19, od19, .func (PySem.W.fnOf "_law_begun" "_law_begun" (defArgs s_law_begun) (defBody s_law_begun) (defScope s_law_begun) .none kV19 dc19 pm19 an19 cd19 ct19), sl19⟩)
    (c19 : PySem.W.codeIn K cd19 "_law_begun" = true)
    (k19 : PySem.W.keepIn K (.ref f19) = true)
    (a20 : PySem.W.nsIn K mainGlobals "_law_mixed" = some (some (.ref f20)))
    (l20 : K.lookup f20 = some ⟨oc20, od20, .func (PySem.W.fnOf "_law_mixed" "_law_mixed" (defArgs s_law_mixed) (defBody s_law_mixed) (defScope s_law_mixed) .none kV20 dc20 pm20 an20 cd20 ct20), sl20⟩)
    (c20 : PySem.W.codeIn K cd20 "_law_mixed" = true)
    (k20 : PySem.W.keepIn K (.ref f20) = true)
    (a21 : PySem.W.nsIn K mainGlobals "_law_take" = some (some (.ref f21)))
    (l21 : K.lookup f21 = some ⟨oc21, od21, .func (PySem.W.fnOf "_law_take" "_law_take" (defArgs s_law_take) (defBody s_law_take) (defScope s_law_take) .none kV21 dc21 pm21 an21 cd21 ct21), sl21⟩)
    (c21 : PySem.W.codeIn K cd21 "_law_take" = true)
    (k21 : PySem.W.keepIn K (.ref f21) = true)
    (a22 : PySem.W.nsIn K mainGlobals "_law_pick" = some (some (.ref f22)))
    (l22 : K.lookup f22 = some ⟨oc22, od22, .func (PySem.W.fnOf "_law_pick" "_law_pick" (defArgs s_law_pick) (defBody s_law_pick) (defScope s_law_pick) .none kV22 dc22 pm22 an22 cd22 ct22), sl22⟩)
    (c22 : PySem.W.codeIn K cd22 "_law_pick" = true)
    (k22 : PySem.W.keepIn K (.ref f22) = true)
    (a23 : PySem.W.nsIn K mainGlobals "_law_is_truth" = some (some (.ref f23)))
    (l23 : K.lookup f23 = some ⟨oc23, od23, .func (PySem.W.fnOf "_law_is_truth" "_law_is_truth" (defArgs s_law_is_truth) (defBody s_law_is_truth) (defScope s_law_is_truth) .none kV23 dc23 pm23 an23 cd23 ct23), sl23⟩)
    (c23 : PySem.W.codeIn K cd23 "_law_is_truth" = true)
    (k23 : PySem.W.keepIn K (.ref f23) = true)
    (a24 : PySem.W.nsIn K mainGlobals "_law_caught" = some (some (.ref f24)))
    (l24 : K.lookup f24 = some ⟨oc24, od24, .func (PySem.W.fnOf "_law_caught" "_law_caught" (defArgs s_law_caught) (defBody s_law_caught) (defScope s_law_caught) .none kV24 dc24 pm24 an24 cd24 ct24), sl24⟩)
    (c24 : PySem.W.codeIn K cd24 "_law_caught" = true)
    (k24 : PySem.W.keepIn K (.ref f24) = true)
    (a25 : PySem.W.nsIn K mainGlobals "_law_word" = some (some (.ref f25)))
    (l25 : K.lookup f25 = some ⟨oc25, od25, .func (PySem.W.fnOf "_law_word" "_law_word" (defArgs s_law_word) (defBody s_law_word) (defScope s_law_word) .none kV25 dc25 pm25 an25 cd25 ct25), sl25⟩)
    (c25 : PySem.W.codeIn K cd25 "_law_word" = true)
    (k25 : PySem.W.keepIn K (.ref f25) = true)
    (a26 : PySem.W.nsIn K mainGlobals "_law_pairs_read" = some (some (.ref f26)))
    (l26 : K.lookup f26 = some ⟨oc26, od26, .func (PySem.W.fnOf "_law_pairs_read" "_law_pairs_read" (defArgs s_law_pairs_read) (defBody s_law_pairs_read) (defScope s_law_pairs_read) .none kV26 dc26 pm26 an26 cd26 ct26), sl26⟩)
    (c26 : PySem.W.codeIn K cd26 "_law_pairs_read" = true)
    (k26 : PySem.W.keepIn K (.ref f26) = true)
    (a27 : PySem.W.nsIn K mainGlobals "_law_went" = some (some (.ref f27)))
    (l27 : K.lookup f27 = some ⟨oc27, od27, .func (PySem.W.fnOf "_law_went" "_law_went" (defArgs s_law_went) (defBody s_law_went) (defScope s_law_went) .none kV27 dc27 pm27 an27 cd27 ct27), sl27⟩)
    (c27 : PySem.W.codeIn K cd27 "_law_went" = true)
    (k27 : PySem.W.keepIn K (.ref f27) = true)
    (a28 : PySem.W.nsIn K mainGlobals "_law_machine_sketch" = some (some (.ref f28)))
    (l28 : K.lookup f28 = some ⟨oc28, od28, .func (PySem.W.fnOf "_law_machine_sketch" "_law_machine_sketch" (defArgs s_law_machine_sketch) (defBody s_law_machine_sketch) (defScope s_law_machine_sketch) .none kV28 dc28 pm28 an28 cd28 ct28), sl28⟩)
    (c28 : PySem.W.codeIn K cd28 "_law_machine_sketch" = true)
    (k28 : PySem.W.keepIn K (.ref f28) = true)
    (a29 : PySem.W.nsIn K mainGlobals "_law_copied" = some (some (.ref f29)))
    (l29 : K.lookup f29 = some ⟨oc29, od29, .func (PySem.W.fnOf "_law_copied" "_law_copied" (defArgs s_law_copied) (defBody s_law_copied) (defScope s_law_copied) .none kV29 dc29 pm29 an29 cd29 ct29), sl29⟩)
    (c29 : PySem.W.codeIn K cd29 "_law_copied" = true)
    (k29 : PySem.W.keepIn K (.ref f29) = true)
    (a30 : PySem.W.nsIn K mainGlobals "law" = some (some (.ref f30)))
    (l30 : K.lookup f30 = some ⟨oc30, od30, .func (PySem.W.fnOf "law" "law" (defArgs s_law) (defBody s_law) (defScope s_law) .none kV30 dc30 pm30 an30 (.ref cL) ct30), sl30⟩)
    (c30 : PySem.W.codeIn K (.ref cL) "law" = true)
    (k30 : PySem.W.keepIn K (.ref f30) = true)
    (lc0 : K.lookup cL = some ⟨eT, ddT, .fields vsT, slT⟩)
    (lt0 : vsT[11]? = some (.ref Pt))
    (ch0 : PySem.W.codeHdIn K cL Pt = true)
    (np0 : K.lookup Pt = none)
    (mt0 : Pt ∈ ts)
    (g_MOST_BACK : PySem.W.nsIn K mainGlobals "MOST_BACK" = some (some (.int 12 t_MOST_BACK)))
    (g_MOST_RULES : PySem.W.nsIn K mainGlobals "MOST_RULES" = some (some (.int 40 t_MOST_RULES)))
    (g_MOST_SIDE : PySem.W.nsIn K mainGlobals "MOST_SIDE" = some (some (.int 40 t_MOST_SIDE)))
    (g_MOST_READ : PySem.W.nsIn K mainGlobals "MOST_READ" = some (some (.int 169 t_MOST_READ)))
    (g_MOST_STATES : PySem.W.nsIn K mainGlobals "MOST_STATES" = some (some (.int 2000 t_MOST_STATES)))
    (z_len : PySem.W.nsIn K mainGlobals "len" = some none)
    (z_int : PySem.W.nsIn K mainGlobals "int" = some none)
    (z_bool : PySem.W.nsIn K mainGlobals "bool" = some none)
    (z_str : PySem.W.nsIn K mainGlobals "str" = some none)
    (z_list : PySem.W.nsIn K mainGlobals "list" = some none)
    (z_tuple : PySem.W.nsIn K mainGlobals "tuple" = some none)
    (z_dict : PySem.W.nsIn K mainGlobals "dict" = some none)
    (z_isinstance : PySem.W.nsIn K mainGlobals "isinstance" = some none)
    (z_all : PySem.W.nsIn K mainGlobals "all" = some none)
    (z_any : PySem.W.nsIn K mainGlobals "any" = some none)
    (z_abs : PySem.W.nsIn K mainGlobals "abs" = some none)
    (z_min : PySem.W.nsIn K mainGlobals "min" = some none)
    (z_max : PySem.W.nsIn K mainGlobals "max" = some none)
    (z_range : PySem.W.nsIn K mainGlobals "range" = some none)
    (z_enumerate : PySem.W.nsIn K mainGlobals "enumerate" = some none)
    (z_repr : PySem.W.nsIn K mainGlobals "repr" = some none)
    (z_sorted : PySem.W.nsIn K mainGlobals "sorted" = some none)
    (z_super : PySem.W.nsIn K mainGlobals "super" = some none)
    (z_op : PySem.W.nsIn K cStatics "thirdparty.any" = some none)
    (h_top : (l.prog.main.scope.names.lookup ("super" : Str)).isSome = false)
    (xg_GroupError : PySem.W.nsIn K mainGlobals "GroupError" = some (some (.ref C_GroupError)))
    (xb_GroupError : PySem.W.subIn K (.ref C_GroupError) (.type "BaseException") = some true)
    (xt_GroupError : PySem.W.typeIn K (.ref C_GroupError) = some (.type "type"))
    (xd_GroupError : PySem.W.hasDictIn K C_GroupError = true)
    (xg_BadClaim : PySem.W.nsIn K mainGlobals "BadClaim" = some (some (.ref C_BadClaim)))
    (xb_BadClaim : PySem.W.subIn K (.ref C_BadClaim) (.type "BaseException") = some true)
    (xt_BadClaim : PySem.W.typeIn K (.ref C_BadClaim) = some (.type "type"))
    (xd_BadClaim : PySem.W.hasDictIn K C_BadClaim = true)
    (xx_BadClaim : K.lookup C_BadClaim = some (excClassObj nm_BadClaim q_BadClaim C_BadClaim N_BadClaim bs_BadClaim [.ref C_GroupError, .type "ValueError", .type "Exception", .type "BaseException", .type "object"] true sn_BadClaim sub_BadClaim ab_BadClaim col_BadClaim dd_BadClaim m0_BadClaim m1_BadClaim m2_BadClaim m3_BadClaim m5_BadClaim "ValueError.__new__"))
    (xk_BadClaim : PySem.W.keepIn K (.ref C_BadClaim) = true)
    (xsa_BadClaim : PySem.W.findIn K (.ref C_BadClaim) "__setattr__" = some (some (.builtin "object.__setattr__")))
    (xa_BadClaim : PySem.W.findIn K (.ref C_BadClaim) "__getattribute__" = some (some (.builtin "BaseException.__getattribute__")))
    (xh_BadClaim : PySem.W.findIn K (.ref C_BadClaim) "__getattr__" = some none)
    (xn_BadClaim : PySem.W.findIn K (.ref C_BadClaim) "part" = some none)
    (xi_BadClaim : PySem.W.findIn K (.ref C_BadClaim) "__init__" = some (some (.ref fI_BadClaim)))
    (xf_BadClaim : PySem.W.typeIn K (.ref fI_BadClaim) = some (.type "function"))
    (xv_BadClaim : PySem.W.subIn K (.ref C_BadClaim) (.type "ValueError") = some true)
    (xo_BadClaim : PySem.W.mroIn K C_BadClaim (.ref C_BadClaim) = some true)
    (xw_BadClaim : PySem.W.ks_superIn K C_BadClaim C_BadClaim "__init__" = some (some (.builtin "ValueError.__init__")))
    (xc_BadClaim : PySem.W.findIn K (.ref C_BadClaim) "__class__" = some (some (.builtin "object.__class__")))
    (xm_BadClaim : PySem.W.mroIn K C_BadClaim (.type "object") = some true)
    (xs_BadClaim : PySem.W.subIn K (.ref C_BadClaim) (.ref C_GroupError) = some true)
    (xl_BadClaim : K.lookup fI_BadClaim = some ⟨oi_BadClaim, odi_BadClaim, .func (PySem.W.ksFn "__init__" "BadClaim.__init__" (PySem.SupX.eA "part" ⟨6, 17, 6, 21⟩ ⟨6, 23, 6, 27⟩) (PySem.SupX.eB "part" "not right for a claim" ⟨7, 8, 7, 13⟩ ⟨7, 8, 7, 15⟩ ⟨7, 8, 7, 24⟩ ⟨7, 25, 7, 48⟩ ⟨7, 8, 7, 49⟩ ⟨7, 8, 7, 49⟩ ⟨8, 8, 8, 12⟩ ⟨8, 8, 8, 17⟩ ⟨8, 20, 8, 24⟩ ⟨8, 8, 8, 24⟩) (PySem.SupX.eS "part") .none .none doci_BadClaim pmi_BadClaim ani_BadClaim (.ref cda_BadClaim) cti_BadClaim cc_BadClaim), osli_BadClaim⟩)
    (xq_BadClaim : PySem.W.codeIn K (.ref cda_BadClaim) "BadClaim.__init__" = true)
    (xcd_BadClaim : K.lookup cda_BadClaim = some ⟨ccl_BadClaim, cdd_BadClaim, .fields vsi_BadClaim, ccs_BadClaim⟩)
    (xfl_BadClaim : vsi_BadClaim[2]? = some (.str file_BadClaim tf_BadClaim))
    (xfe_BadClaim : ((l.prog.main.file : Str) == file_BadClaim) = true)
    (xcc_BadClaim : K.lookup cc_BadClaim = some ⟨ccv_BadClaim, cld_BadClaim, .cell (some (.ref C_BadClaim)), csl_BadClaim⟩)
    (xg_BadGroup : PySem.W.nsIn K mainGlobals "BadGroup" = some (some (.ref C_BadGroup)))
    (xb_BadGroup : PySem.W.subIn K (.ref C_BadGroup) (.type "BaseException") = some true)
    (xt_BadGroup : PySem.W.typeIn K (.ref C_BadGroup) = some (.type "type"))
    (xd_BadGroup : PySem.W.hasDictIn K C_BadGroup = true)
    (xx_BadGroup : K.lookup C_BadGroup = some (excClassObj nm_BadGroup q_BadGroup C_BadGroup N_BadGroup bs_BadGroup [.ref C_GroupError, .type "ValueError", .type "Exception", .type "BaseException", .type "object"] true sn_BadGroup sub_BadGroup ab_BadGroup col_BadGroup dd_BadGroup m0_BadGroup m1_BadGroup m2_BadGroup m3_BadGroup m5_BadGroup "ValueError.__new__"))
    (xk_BadGroup : PySem.W.keepIn K (.ref C_BadGroup) = true)
    (xsa_BadGroup : PySem.W.findIn K (.ref C_BadGroup) "__setattr__" = some (some (.builtin "object.__setattr__")))
    (xa_BadGroup : PySem.W.findIn K (.ref C_BadGroup) "__getattribute__" = some (some (.builtin "BaseException.__getattribute__")))
    (xh_BadGroup : PySem.W.findIn K (.ref C_BadGroup) "__getattr__" = some none)
    (xn_BadGroup : PySem.W.findIn K (.ref C_BadGroup) "part" = some none)
    (xi_BadGroup : PySem.W.findIn K (.ref C_BadGroup) "__init__" = some (some (.ref fI_BadGroup)))
    (xf_BadGroup : PySem.W.typeIn K (.ref fI_BadGroup) = some (.type "function"))
    (xv_BadGroup : PySem.W.subIn K (.ref C_BadGroup) (.type "ValueError") = some true)
    (xo_BadGroup : PySem.W.mroIn K C_BadGroup (.ref C_BadGroup) = some true)
    (xw_BadGroup : PySem.W.ks_superIn K C_BadGroup C_BadGroup "__init__" = some (some (.builtin "ValueError.__init__")))
    (xc_BadGroup : PySem.W.findIn K (.ref C_BadGroup) "__class__" = some (some (.builtin "object.__class__")))
    (xm_BadGroup : PySem.W.mroIn K C_BadGroup (.type "object") = some true)
    (xs_BadGroup : PySem.W.subIn K (.ref C_BadGroup) (.ref C_GroupError) = some true)
    (xl_BadGroup : K.lookup fI_BadGroup = some ⟨oi_BadGroup, odi_BadGroup, .func (PySem.W.ksFn "__init__" "BadGroup.__init__" (PySem.SupX.eA "part" ⟨11, 17, 11, 21⟩ ⟨11, 23, 11, 27⟩) (PySem.SupX.eB "part" "not right for a group" ⟨12, 8, 12, 13⟩ ⟨12, 8, 12, 15⟩ ⟨12, 8, 12, 24⟩ ⟨12, 25, 12, 48⟩ ⟨12, 8, 12, 49⟩ ⟨12, 8, 12, 49⟩ ⟨13, 8, 13, 12⟩ ⟨13, 8, 13, 17⟩ ⟨13, 20, 13, 24⟩ ⟨13, 8, 13, 24⟩) (PySem.SupX.eS "part") .none .none doci_BadGroup pmi_BadGroup ani_BadGroup (.ref cda_BadGroup) cti_BadGroup cc_BadGroup), osli_BadGroup⟩)
    (xq_BadGroup : PySem.W.codeIn K (.ref cda_BadGroup) "BadGroup.__init__" = true)
    (xcd_BadGroup : K.lookup cda_BadGroup = some ⟨ccl_BadGroup, cdd_BadGroup, .fields vsi_BadGroup, ccs_BadGroup⟩)
    (xfl_BadGroup : vsi_BadGroup[2]? = some (.str file_BadGroup tf_BadGroup))
    (xfe_BadGroup : ((l.prog.main.file : Str) == file_BadGroup) = true)
    (xcc_BadGroup : K.lookup cc_BadGroup = some ⟨ccv_BadGroup, cld_BadGroup, .cell (some (.ref C_BadGroup)), csl_BadGroup⟩)
    (xg_BadMachine : PySem.W.nsIn K mainGlobals "BadMachine" = some (some (.ref C_BadMachine)))
    (xb_BadMachine : PySem.W.subIn K (.ref C_BadMachine) (.type "BaseException") = some true)
    (xt_BadMachine : PySem.W.typeIn K (.ref C_BadMachine) = some (.type "type"))
    (xd_BadMachine : PySem.W.hasDictIn K C_BadMachine = true)
    (xx_BadMachine : K.lookup C_BadMachine = some (excClassObj nm_BadMachine q_BadMachine C_BadMachine N_BadMachine bs_BadMachine [.ref C_GroupError, .type "ValueError", .type "Exception", .type "BaseException", .type "object"] true sn_BadMachine sub_BadMachine ab_BadMachine col_BadMachine dd_BadMachine m0_BadMachine m1_BadMachine m2_BadMachine m3_BadMachine m5_BadMachine "ValueError.__new__"))
    (xk_BadMachine : PySem.W.keepIn K (.ref C_BadMachine) = true)
    (xsa_BadMachine : PySem.W.findIn K (.ref C_BadMachine) "__setattr__" = some (some (.builtin "object.__setattr__")))
    (xa_BadMachine : PySem.W.findIn K (.ref C_BadMachine) "__getattribute__" = some (some (.builtin "BaseException.__getattribute__")))
    (xh_BadMachine : PySem.W.findIn K (.ref C_BadMachine) "__getattr__" = some none)
    (xn_BadMachine : PySem.W.findIn K (.ref C_BadMachine) "part" = some none)
    (xi_BadMachine : PySem.W.findIn K (.ref C_BadMachine) "__init__" = some (some (.ref fI_BadMachine)))
    (xf_BadMachine : PySem.W.typeIn K (.ref fI_BadMachine) = some (.type "function"))
    (xv_BadMachine : PySem.W.subIn K (.ref C_BadMachine) (.type "ValueError") = some true)
    (xo_BadMachine : PySem.W.mroIn K C_BadMachine (.ref C_BadMachine) = some true)
    (xw_BadMachine : PySem.W.ks_superIn K C_BadMachine C_BadMachine "__init__" = some (some (.builtin "ValueError.__init__")))
    (xc_BadMachine : PySem.W.findIn K (.ref C_BadMachine) "__class__" = some (some (.builtin "object.__class__")))
    (xm_BadMachine : PySem.W.mroIn K C_BadMachine (.type "object") = some true)
    (xs_BadMachine : PySem.W.subIn K (.ref C_BadMachine) (.ref C_GroupError) = some true)
    (xl_BadMachine : K.lookup fI_BadMachine = some ⟨oi_BadMachine, odi_BadMachine, .func (PySem.W.ksFn "__init__" "BadMachine.__init__" (PySem.SupX.eA "part" ⟨16, 17, 16, 21⟩ ⟨16, 23, 16, 27⟩) (PySem.SupX.eB "part" "not right for a machine" ⟨17, 8, 17, 13⟩ ⟨17, 8, 17, 15⟩ ⟨17, 8, 17, 24⟩ ⟨17, 25, 17, 50⟩ ⟨17, 8, 17, 51⟩ ⟨17, 8, 17, 51⟩ ⟨18, 8, 18, 12⟩ ⟨18, 8, 18, 17⟩ ⟨18, 20, 18, 24⟩ ⟨18, 8, 18, 24⟩) (PySem.SupX.eS "part") .none .none doci_BadMachine pmi_BadMachine ani_BadMachine (.ref cda_BadMachine) cti_BadMachine cc_BadMachine), osli_BadMachine⟩)
    (xq_BadMachine : PySem.W.codeIn K (.ref cda_BadMachine) "BadMachine.__init__" = true)
    (xcd_BadMachine : K.lookup cda_BadMachine = some ⟨ccl_BadMachine, cdd_BadMachine, .fields vsi_BadMachine, ccs_BadMachine⟩)
    (xfl_BadMachine : vsi_BadMachine[2]? = some (.str file_BadMachine tf_BadMachine))
    (xfe_BadMachine : ((l.prog.main.file : Str) == file_BadMachine) = true)
    (xcc_BadMachine : K.lookup cc_BadMachine = some ⟨ccv_BadMachine, cld_BadMachine, .cell (some (.ref C_BadMachine)), csl_BadMachine⟩)
    (xg_BadNumber : PySem.W.nsIn K mainGlobals "BadNumber" = some (some (.ref C_BadNumber)))
    (xb_BadNumber : PySem.W.subIn K (.ref C_BadNumber) (.type "BaseException") = some true)
    (xt_BadNumber : PySem.W.typeIn K (.ref C_BadNumber) = some (.type "type"))
    (xd_BadNumber : PySem.W.hasDictIn K C_BadNumber = true)
    (xx_BadNumber : K.lookup C_BadNumber = some (excClassObj nm_BadNumber q_BadNumber C_BadNumber N_BadNumber bs_BadNumber [.ref C_GroupError, .type "ValueError", .type "Exception", .type "BaseException", .type "object"] true sn_BadNumber sub_BadNumber ab_BadNumber col_BadNumber dd_BadNumber m0_BadNumber m1_BadNumber m2_BadNumber m3_BadNumber m5_BadNumber "ValueError.__new__"))
    (xk_BadNumber : PySem.W.keepIn K (.ref C_BadNumber) = true)
    (xsa_BadNumber : PySem.W.findIn K (.ref C_BadNumber) "__setattr__" = some (some (.builtin "object.__setattr__")))
    (xa_BadNumber : PySem.W.findIn K (.ref C_BadNumber) "__getattribute__" = some (some (.builtin "BaseException.__getattribute__")))
    (xh_BadNumber : PySem.W.findIn K (.ref C_BadNumber) "__getattr__" = some none)
    (xn_BadNumber : PySem.W.findIn K (.ref C_BadNumber) "part" = some none)
    (xi_BadNumber : PySem.W.findIn K (.ref C_BadNumber) "__init__" = some (some (.ref fI_BadNumber)))
    (xf_BadNumber : PySem.W.typeIn K (.ref fI_BadNumber) = some (.type "function"))
    (xv_BadNumber : PySem.W.subIn K (.ref C_BadNumber) (.type "ValueError") = some true)
    (xo_BadNumber : PySem.W.mroIn K C_BadNumber (.ref C_BadNumber) = some true)
    (xw_BadNumber : PySem.W.ks_superIn K C_BadNumber C_BadNumber "__init__" = some (some (.builtin "ValueError.__init__")))
    (xc_BadNumber : PySem.W.findIn K (.ref C_BadNumber) "__class__" = some (some (.builtin "object.__class__")))
    (xm_BadNumber : PySem.W.mroIn K C_BadNumber (.type "object") = some true)
    (xs_BadNumber : PySem.W.subIn K (.ref C_BadNumber) (.ref C_GroupError) = some true)
    (xl_BadNumber : K.lookup fI_BadNumber = some ⟨oi_BadNumber, odi_BadNumber, .func (PySem.W.ksFn "__init__" "BadNumber.__init__" (PySem.SupX.eA "part" ⟨21, 17, 21, 21⟩ ⟨21, 23, 21, 27⟩) (PySem.SupX.eB "part" "not a number that may stand there" ⟨22, 8, 22, 13⟩ ⟨22, 8, 22, 15⟩ ⟨22, 8, 22, 24⟩ ⟨22, 25, 22, 60⟩ ⟨22, 8, 22, 61⟩ ⟨22, 8, 22, 61⟩ ⟨23, 8, 23, 12⟩ ⟨23, 8, 23, 17⟩ ⟨23, 20, 23, 24⟩ ⟨23, 8, 23, 24⟩) (PySem.SupX.eS "part") .none .none doci_BadNumber pmi_BadNumber ani_BadNumber (.ref cda_BadNumber) cti_BadNumber cc_BadNumber), osli_BadNumber⟩)
    (xq_BadNumber : PySem.W.codeIn K (.ref cda_BadNumber) "BadNumber.__init__" = true)
    (xcd_BadNumber : K.lookup cda_BadNumber = some ⟨ccl_BadNumber, cdd_BadNumber, .fields vsi_BadNumber, ccs_BadNumber⟩)
    (xfl_BadNumber : vsi_BadNumber[2]? = some (.str file_BadNumber tf_BadNumber))
    (xfe_BadNumber : ((l.prog.main.file : Str) == file_BadNumber) = true)
    (xcc_BadNumber : K.lookup cc_BadNumber = some ⟨ccv_BadNumber, cld_BadNumber, .cell (some (.ref C_BadNumber)), csl_BadNumber⟩)
    (xg_BadWord : PySem.W.nsIn K mainGlobals "BadWord" = some (some (.ref C_BadWord)))
    (xb_BadWord : PySem.W.subIn K (.ref C_BadWord) (.type "BaseException") = some true)
    (xt_BadWord : PySem.W.typeIn K (.ref C_BadWord) = some (.type "type"))
    (xd_BadWord : PySem.W.hasDictIn K C_BadWord = true)
    (xx_BadWord : PySem.W.excIn K C_BadWord [.type "ValueError", .type "Exception", .type "BaseException", .type "object"] "ValueError.__new__" = true)
    (xk_BadWord : PySem.W.keepIn K (.ref C_BadWord) = true)
    (xa_BadWord : PySem.W.findIn K (.ref C_BadWord) "__getattribute__" = some (some (.builtin "BaseException.__getattribute__")))
    (xh_BadWord : PySem.W.findIn K (.ref C_BadWord) "__getattr__" = some none)
    (xc_BadWord : PySem.W.findIn K (.ref C_BadWord) "__class__" = some (some (.builtin "object.__class__")))
    (xm_BadWord : PySem.W.mroIn K C_BadWord (.type "object") = some true)
    (xs_BadWord : PySem.W.subIn K (.ref C_BadWord) (.ref C_GroupError) = some true)
    (gk1 : PySem.W.specialIn K (.builtin "object.__class__") "__get__" = some (some (.builtin "getset_descriptor.__get__")))
    (gk2 : PySem.W.takesIn K (.builtin "object.__class__") = some true)
    (og_Group : PySem.W.nsIn K mainGlobals "Group" = some (some (.ref C_Group)))
    (op_Group : PySem.W.plainGet K C_Group Str.empty = true)
    (od_Group : PySem.W.hasDictIn K C_Group = true)
    (oo_Group : PySem.W.plainOver K C_Group = true)
    (os_Group : PySem.W.findIn K (.ref C_Group) "__setattr__" = some (some (.builtin "object.__setattr__")))
    (om_Group : PySem.W.makesIn K C_Group = true)
    (ok_Group : PySem.W.keepIn K (.ref C_Group) = true)
    (oi_Group : PySem.W.isClsIn K C_Group = true)
    (ot_Group : PySem.W.typeIn K (.ref C_Group) = some (.type "type"))
    (oc_Group : PySem.W.findIn K (.ref C_Group) "__class__" = some (some (.builtin "object.__class__")))
    (ob_Group : PySem.W.mroIn K C_Group (.type "object") = some true)
    (on_Group : PySem.W.findIn K (.ref C_Group) "__ne__" = some (some (.builtin "object.__ne__")))
    (ouNoneType_Group : PySem.W.subIn K (.type "NoneType") (.ref C_Group) = some false)
    (oubool_Group : PySem.W.subIn K (.type "bool") (.ref C_Group) = some false)
    (ouint_Group : PySem.W.subIn K (.type "int") (.ref C_Group) = some false)
    (oustr_Group : PySem.W.subIn K (.type "str") (.ref C_Group) = some false)
    (oulist_Group : PySem.W.subIn K (.type "list") (.ref C_Group) = some false)
    (outuple_Group : PySem.W.subIn K (.type "tuple") (.ref C_Group) = some false)
    (oudict_Group : PySem.W.subIn K (.type "dict") (.ref C_Group) = some false)
    (ofback_Group : PySem.W.findIn K (.ref C_Group) "back" = some none)
    (ofrules_Group : PySem.W.findIn K (.ref C_Group) "rules" = some none)
    (ma_Groupinit : PySem.W.findIn K (.ref C_Group) "__init__" = some (some (.ref g_Groupinit)))
    (mi_Groupinit : PySem.W.isFn K (.ref g_Groupinit) = true)
    (ml_Groupinit : K.lookup g_Groupinit = some ⟨oc_Groupinit, od_Groupinit, .func (PySem.W.fnOf "__init__" "Group.__init__" (defArgs s_Groupinit) (defBody s_Groupinit) (defScope s_Groupinit) .none kV_Groupinit dc_Groupinit pm_Groupinit an_Groupinit cd_Groupinit ct_Groupinit), sl_Groupinit⟩)
    (mc_Groupinit : PySem.W.codeIn K cd_Groupinit "Group.__init__" = true)
    (mk_Groupinit : PySem.W.keepIn K (.ref g_Groupinit) = true)
    (ma_Groupeq : PySem.W.findIn K (.ref C_Group) "__eq__" = some (some (.ref g_Groupeq)))
    (mi_Groupeq : PySem.W.isFn K (.ref g_Groupeq) = true)
    (ml_Groupeq : K.lookup g_Groupeq = some ⟨oc_Groupeq, od_Groupeq, .func (PySem.W.fnOf "__eq__" "Group.__eq__" (defArgs s_Groupeq) (defBody s_Groupeq) (defScope s_Groupeq) .none kV_Groupeq dc_Groupeq pm_Groupeq an_Groupeq cd_Groupeq ct_Groupeq), sl_Groupeq⟩)
    (mc_Groupeq : PySem.W.codeIn K cd_Groupeq "Group.__eq__" = true)
    (mk_Groupeq : PySem.W.keepIn K (.ref g_Groupeq) = true)
    (og_Machine : PySem.W.nsIn K mainGlobals "Machine" = some (some (.ref C_Machine)))
    (op_Machine : PySem.W.plainGet K C_Machine Str.empty = true)
    (od_Machine : PySem.W.hasDictIn K C_Machine = true)
    (oo_Machine : PySem.W.plainOver K C_Machine = true)
    (os_Machine : PySem.W.findIn K (.ref C_Machine) "__setattr__" = some (some (.builtin "object.__setattr__")))
    (om_Machine : PySem.W.makesIn K C_Machine = true)
    (ok_Machine : PySem.W.keepIn K (.ref C_Machine) = true)
    (oi_Machine : PySem.W.isClsIn K C_Machine = true)
    (ot_Machine : PySem.W.typeIn K (.ref C_Machine) = some (.type "type"))
    (oc_Machine : PySem.W.findIn K (.ref C_Machine) "__class__" = some (some (.builtin "object.__class__")))
    (ob_Machine : PySem.W.mroIn K C_Machine (.type "object") = some true)
    (on_Machine : PySem.W.findIn K (.ref C_Machine) "__ne__" = some (some (.builtin "object.__ne__")))
    (ouNoneType_Machine : PySem.W.subIn K (.type "NoneType") (.ref C_Machine) = some false)
    (oubool_Machine : PySem.W.subIn K (.type "bool") (.ref C_Machine) = some false)
    (ouint_Machine : PySem.W.subIn K (.type "int") (.ref C_Machine) = some false)
    (oustr_Machine : PySem.W.subIn K (.type "str") (.ref C_Machine) = some false)
    (oulist_Machine : PySem.W.subIn K (.type "list") (.ref C_Machine) = some false)
    (outuple_Machine : PySem.W.subIn K (.type "tuple") (.ref C_Machine) = some false)
    (oudict_Machine : PySem.W.subIn K (.type "dict") (.ref C_Machine) = some false)
    (ofletters_Machine : PySem.W.findIn K (.ref C_Machine) "letters" = some none)
    (ofways_Machine : PySem.W.findIn K (.ref C_Machine) "ways" = some none)
    (ofends_Machine : PySem.W.findIn K (.ref C_Machine) "ends" = some none)
    (ma_Machineinit : PySem.W.findIn K (.ref C_Machine) "__init__" = some (some (.ref g_Machineinit)))
    (mi_Machineinit : PySem.W.isFn K (.ref g_Machineinit) = true)
    (ml_Machineinit : K.lookup g_Machineinit = some ⟨oc_Machineinit, od_Machineinit, .func (PySem.W.fnOf "__init__" "Machine.__init__" (defArgs s_Machineinit) (defBody s_Machineinit) (defScope s_Machineinit) .none kV_Machineinit dc_Machineinit pm_Machineinit an_Machineinit cd_Machineinit ct_Machineinit), sl_Machineinit⟩)
    (mc_Machineinit : PySem.W.codeIn K cd_Machineinit "Machine.__init__" = true)
    (mk_Machineinit : PySem.W.keepIn K (.ref g_Machineinit) = true)
    (ma_Machineeq : PySem.W.findIn K (.ref C_Machine) "__eq__" = some (some (.ref g_Machineeq)))
    (mi_Machineeq : PySem.W.isFn K (.ref g_Machineeq) = true)
    (ml_Machineeq : K.lookup g_Machineeq = some ⟨oc_Machineeq, od_Machineeq, .func (PySem.W.fnOf "__eq__" "Machine.__eq__" (defArgs s_Machineeq) (defBody s_Machineeq) (defScope s_Machineeq) .none kV_Machineeq dc_Machineeq pm_Machineeq an_Machineeq cd_Machineeq ct_Machineeq), sl_Machineeq⟩)
    (mc_Machineeq : PySem.W.codeIn K cd_Machineeq "Machine.__eq__" = true)
    (mk_Machineeq : PySem.W.keepIn K (.ref g_Machineeq) = true)
    (og_Claim : PySem.W.nsIn K mainGlobals "Claim" = some (some (.ref C_Claim)))
    (op_Claim : PySem.W.plainGet K C_Claim Str.empty = true)
    (od_Claim : PySem.W.hasDictIn K C_Claim = true)
    (oo_Claim : PySem.W.plainOver K C_Claim = true)
    (os_Claim : PySem.W.findIn K (.ref C_Claim) "__setattr__" = some (some (.builtin "object.__setattr__")))
    (om_Claim : PySem.W.makesIn K C_Claim = true)
    (ok_Claim : PySem.W.keepIn K (.ref C_Claim) = true)
    (oi_Claim : PySem.W.isClsIn K C_Claim = true)
    (ot_Claim : PySem.W.typeIn K (.ref C_Claim) = some (.type "type"))
    (oc_Claim : PySem.W.findIn K (.ref C_Claim) "__class__" = some (some (.builtin "object.__class__")))
    (ob_Claim : PySem.W.mroIn K C_Claim (.type "object") = some true)
    (on_Claim : PySem.W.findIn K (.ref C_Claim) "__ne__" = some (some (.builtin "object.__ne__")))
    (ouNoneType_Claim : PySem.W.subIn K (.type "NoneType") (.ref C_Claim) = some false)
    (oubool_Claim : PySem.W.subIn K (.type "bool") (.ref C_Claim) = some false)
    (ouint_Claim : PySem.W.subIn K (.type "int") (.ref C_Claim) = some false)
    (oustr_Claim : PySem.W.subIn K (.type "str") (.ref C_Claim) = some false)
    (oulist_Claim : PySem.W.subIn K (.type "list") (.ref C_Claim) = some false)
    (outuple_Claim : PySem.W.subIn K (.type "tuple") (.ref C_Claim) = some false)
    (oudict_Claim : PySem.W.subIn K (.type "dict") (.ref C_Claim) = some false)
    (ofgroup_Claim : PySem.W.findIn K (.ref C_Claim) "group" = some none)
    (ofwords_Claim : PySem.W.findIn K (.ref C_Claim) "words" = some none)
    (ofnears_Claim : PySem.W.findIn K (.ref C_Claim) "nears" = some none)
    (ma_Claiminit : PySem.W.findIn K (.ref C_Claim) "__init__" = some (some (.ref g_Claiminit)))
    (mi_Claiminit : PySem.W.isFn K (.ref g_Claiminit) = true)
    (ml_Claiminit : K.lookup g_Claiminit = some ⟨oc_Claiminit, od_Claiminit, .func (PySem.W.fnOf "__init__" "Claim.__init__" (defArgs s_Claiminit) (defBody s_Claiminit) (defScope s_Claiminit) .none kV_Claiminit dc_Claiminit pm_Claiminit an_Claiminit cd_Claiminit ct_Claiminit), sl_Claiminit⟩)
    (mc_Claiminit : PySem.W.codeIn K cd_Claiminit "Claim.__init__" = true)
    (mk_Claiminit : PySem.W.keepIn K (.ref g_Claiminit) = true)
    (ma_Claimeq : PySem.W.findIn K (.ref C_Claim) "__eq__" = some (some (.ref g_Claimeq)))
    (mi_Claimeq : PySem.W.isFn K (.ref g_Claimeq) = true)
    (ml_Claimeq : K.lookup g_Claimeq = some ⟨oc_Claimeq, od_Claimeq, .func (PySem.W.fnOf "__eq__" "Claim.__eq__" (defArgs s_Claimeq) (defBody s_Claimeq) (defScope s_Claimeq) .none kV_Claimeq dc_Claimeq pm_Claimeq an_Claimeq cd_Claimeq ct_Claimeq), sl_Claimeq⟩)
    (mc_Claimeq : PySem.W.codeIn K cd_Claimeq "Claim.__eq__" = true)
    (mk_Claimeq : PySem.W.keepIn K (.ref g_Claimeq) = true)
    (apMachine_Group : PySem.W.kitOne K (.ref C_Machine) (.ref C_Group) = some false)
    (apGroup_Machine : PySem.W.kitOne K (.ref C_Group) (.ref C_Machine) = some false)
    : ∃ c P, P ∈ ts ∧ LawT l.prog w K mg "law" s_law N_law 12 fa c P := by
  have e := hfa.symm.trans (PySem.W.mg_of X G a30)
  cases e
  have T : Bt mg := ⟨PySem.W.mg_none_of X G z_len, PySem.W.mg_none_of X G z_int, PySem.W.mg_none_of X G z_bool, PySem.W.mg_none_of X G z_str, PySem.W.mg_none_of X G z_list, PySem.W.mg_none_of X G z_tuple, PySem.W.mg_none_of X G z_dict, PySem.W.mg_none_of X G z_isinstance, PySem.W.mg_none_of X G z_all, PySem.W.mg_none_of X G z_any, PySem.W.mg_none_of X G z_abs, PySem.W.mg_none_of X G z_min, PySem.W.mg_none_of X G z_max, PySem.W.mg_none_of X G z_range, PySem.W.mg_none_of X G z_enumerate, PySem.W.mg_none_of X G z_repr, PySem.W.mg_none_of X G z_sorted⟩
  have c_MOST_BACK := PySem.W.mg_of X G g_MOST_BACK
  have c_MOST_RULES := PySem.W.mg_of X G g_MOST_RULES
  have c_MOST_SIDE := PySem.W.mg_of X G g_MOST_SIDE
  have c_MOST_READ := PySem.W.mg_of X G g_MOST_READ
  have c_MOST_STATES := PySem.W.mg_of X G g_MOST_STATES
  have t_BadClaim : PySem.SupX.SupTxt l.prog K mg "BadClaim" "part" C_BadClaim fI_BadClaim :=
    { gC := PySem.W.mg_of X G xg_BadClaim, cls := ⟨nm_BadClaim, q_BadClaim, N_BadClaim, bs_BadClaim, _, sn_BadClaim, sub_BadClaim, ab_BadClaim, col_BadClaim, dd_BadClaim, m0_BadClaim, m1_BadClaim, m2_BadClaim, m3_BadClaim, m5_BadClaim, xx_BadClaim, rfl⟩, sa := xsa_BadClaim, ga := xa_BadClaim, gg := xh_BadClaim, noN := xn_BadClaim, iC := xi_BadClaim, tC := xf_BadClaim, kC := xk_BadClaim, exC := xb_BadClaim, veC := xv_BadClaim, tyC := xt_BadClaim, hdC := xd_BadClaim, mC := xo_BadClaim, sup := xw_BadClaim, op := z_op, noS := PySem.W.mg_none_of X G z_super, top := h_top, nf := PySem.SupX.fld_part,
      fn := ⟨_, _, _, _, _, cda_BadClaim, _, _, cc_BadClaim, _, _, _, _, _, _, _, _, _, _, _, _, _, _, _, _, _, _, _, _, _, file_BadClaim, _, rfl, xl_BadClaim, xq_BadClaim, xcd_BadClaim, xfl_BadClaim, xfe_BadClaim, xcc_BadClaim⟩ }
  have E_BadClaim : ExcC K C_BadClaim := ⟨xa_BadClaim, xh_BadClaim, xb_BadClaim, xd_BadClaim, xc_BadClaim, gk1, gk2, xm_BadClaim⟩
  have x_BadClaim : PySem.W.exmOne K (.ref C_BadClaim) (.ref C_GroupError) = some true := PySem.W.exm_ref xb_GroupError xd_GroupError xt_GroupError xs_BadClaim
  have y_BadClaim : PySem.W.kitOne K (.ref C_BadClaim) (.ref C_BadClaim) = some true := if_pos (beq_self_eq_true _)
  have t_BadGroup : PySem.SupX.SupTxt l.prog K mg "BadGroup" "part" C_BadGroup fI_BadGroup :=
    { gC := PySem.W.mg_of X G xg_BadGroup, cls := ⟨nm_BadGroup, q_BadGroup, N_BadGroup, bs_BadGroup, _, sn_BadGroup, sub_BadGroup, ab_BadGroup, col_BadGroup, dd_BadGroup, m0_BadGroup, m1_BadGroup, m2_BadGroup, m3_BadGroup, m5_BadGroup, xx_BadGroup, rfl⟩, sa := xsa_BadGroup, ga := xa_BadGroup, gg := xh_BadGroup, noN := xn_BadGroup, iC := xi_BadGroup, tC := xf_BadGroup, kC := xk_BadGroup, exC := xb_BadGroup, veC := xv_BadGroup, tyC := xt_BadGroup, hdC := xd_BadGroup, mC := xo_BadGroup, sup := xw_BadGroup, op := z_op, noS := PySem.W.mg_none_of X G z_super, top := h_top, nf := PySem.SupX.fld_part,
      fn := ⟨_, _, _, _, _, cda_BadGroup, _, _, cc_BadGroup, _, _, _, _, _, _, _, _, _, _, _, _, _, _, _, _, _, _, _, _, _, file_BadGroup, _, rfl, xl_BadGroup, xq_BadGroup, xcd_BadGroup, xfl_BadGroup, xfe_BadGroup, xcc_BadGroup⟩ }
  have E_BadGroup : ExcC K C_BadGroup := ⟨xa_BadGroup, xh_BadGroup, xb_BadGroup, xd_BadGroup, xc_BadGroup, gk1, gk2, xm_BadGroup⟩
  have x_BadGroup : PySem.W.exmOne K (.ref C_BadGroup) (.ref C_GroupError) = some true := PySem.W.exm_ref xb_GroupError xd_GroupError xt_GroupError xs_BadGroup
  have y_BadGroup : PySem.W.kitOne K (.ref C_BadGroup) (.ref C_BadGroup) = some true := if_pos (beq_self_eq_true _)
  have t_BadMachine : PySem.SupX.SupTxt l.prog K mg "BadMachine" "part" C_BadMachine fI_BadMachine :=
    { gC := PySem.W.mg_of X G xg_BadMachine, cls := ⟨nm_BadMachine, q_BadMachine, N_BadMachine, bs_BadMachine, _, sn_BadMachine, sub_BadMachine, ab_BadMachine, col_BadMachine, dd_BadMachine, m0_BadMachine, m1_BadMachine, m2_BadMachine, m3_BadMachine, m5_BadMachine, xx_BadMachine, rfl⟩, sa := xsa_BadMachine, ga := xa_BadMachine, gg := xh_BadMachine, noN := xn_BadMachine, iC := xi_BadMachine, tC := xf_BadMachine, kC := xk_BadMachine, exC := xb_BadMachine, veC := xv_BadMachine, tyC := xt_BadMachine, hdC := xd_BadMachine, mC := xo_BadMachine, sup := xw_BadMachine, op := z_op, noS := PySem.W.mg_none_of X G z_super, top := h_top, nf := PySem.SupX.fld_part,
      fn := ⟨_, _, _, _, _, cda_BadMachine, _, _, cc_BadMachine, _, _, _, _, _, _, _, _, _, _, _, _, _, _, _, _, _, _, _, _, _, file_BadMachine, _, rfl, xl_BadMachine, xq_BadMachine, xcd_BadMachine, xfl_BadMachine, xfe_BadMachine, xcc_BadMachine⟩ }
  have E_BadMachine : ExcC K C_BadMachine := ⟨xa_BadMachine, xh_BadMachine, xb_BadMachine, xd_BadMachine, xc_BadMachine, gk1, gk2, xm_BadMachine⟩
  have x_BadMachine : PySem.W.exmOne K (.ref C_BadMachine) (.ref C_GroupError) = some true := PySem.W.exm_ref xb_GroupError xd_GroupError xt_GroupError xs_BadMachine
  have y_BadMachine : PySem.W.kitOne K (.ref C_BadMachine) (.ref C_BadMachine) = some true := if_pos (beq_self_eq_true _)
  have t_BadNumber : PySem.SupX.SupTxt l.prog K mg "BadNumber" "part" C_BadNumber fI_BadNumber :=
    { gC := PySem.W.mg_of X G xg_BadNumber, cls := ⟨nm_BadNumber, q_BadNumber, N_BadNumber, bs_BadNumber, _, sn_BadNumber, sub_BadNumber, ab_BadNumber, col_BadNumber, dd_BadNumber, m0_BadNumber, m1_BadNumber, m2_BadNumber, m3_BadNumber, m5_BadNumber, xx_BadNumber, rfl⟩, sa := xsa_BadNumber, ga := xa_BadNumber, gg := xh_BadNumber, noN := xn_BadNumber, iC := xi_BadNumber, tC := xf_BadNumber, kC := xk_BadNumber, exC := xb_BadNumber, veC := xv_BadNumber, tyC := xt_BadNumber, hdC := xd_BadNumber, mC := xo_BadNumber, sup := xw_BadNumber, op := z_op, noS := PySem.W.mg_none_of X G z_super, top := h_top, nf := PySem.SupX.fld_part,
      fn := ⟨_, _, _, _, _, cda_BadNumber, _, _, cc_BadNumber, _, _, _, _, _, _, _, _, _, _, _, _, _, _, _, _, _, _, _, _, _, file_BadNumber, _, rfl, xl_BadNumber, xq_BadNumber, xcd_BadNumber, xfl_BadNumber, xfe_BadNumber, xcc_BadNumber⟩ }
  have E_BadNumber : ExcC K C_BadNumber := ⟨xa_BadNumber, xh_BadNumber, xb_BadNumber, xd_BadNumber, xc_BadNumber, gk1, gk2, xm_BadNumber⟩
  have x_BadNumber : PySem.W.exmOne K (.ref C_BadNumber) (.ref C_GroupError) = some true := PySem.W.exm_ref xb_GroupError xd_GroupError xt_GroupError xs_BadNumber
  have y_BadNumber : PySem.W.kitOne K (.ref C_BadNumber) (.ref C_BadNumber) = some true := if_pos (beq_self_eq_true _)
  have e_BadWord : Err K mg "BadWord" C_BadWord := ⟨PySem.W.mg_of X G xg_BadWord, xx_BadWord, xk_BadWord, xb_BadWord, xt_BadWord⟩
  have E_BadWord : ExcC K C_BadWord := ⟨xa_BadWord, xh_BadWord, xb_BadWord, xd_BadWord, xc_BadWord, gk1, gk2, xm_BadWord⟩
  have x_BadWord : PySem.W.exmOne K (.ref C_BadWord) (.ref C_GroupError) = some true := PySem.W.exm_ref xb_GroupError xd_GroupError xt_GroupError xs_BadWord
  have y_BadWord : PySem.W.kitOne K (.ref C_BadWord) (.ref C_BadWord) = some true := if_pos (beq_self_eq_true _)
  have gG := PySem.W.mg_of X G xg_GroupError
  have F0 := fun_mk (st := s_is_number) l0 c0 k0
  have b0 := F0.binds (ps := P_is_number) fun _ _ _ _ _ _ us hl => match us, hl with | [_], _ => rfl
  have D0 : DefAt K mg "is_number" s_is_number P_is_number f0 _ := ⟨F0, PySem.W.mg_of X G a0, b0⟩
  have F1 := fun_mk (st := s_is_number_in) l1 c1 k1
  have b1 := F1.binds (ps := P_is_number_in) fun _ _ _ _ _ _ us hl => match us, hl with | [_, _, _], _ => rfl
  have D1 : DefAt K mg "is_number_in" s_is_number_in P_is_number_in f1 _ := ⟨F1, PySem.W.mg_of X G a1, b1⟩
  have F2 := fun_mk (st := s_is_list) l2 c2 k2
  have b2 := F2.binds (ps := P_is_list) fun _ _ _ _ _ _ us hl => match us, hl with | [_], _ => rfl
  have D2 : DefAt K mg "is_list" s_is_list P_is_list f2 _ := ⟨F2, PySem.W.mg_of X G a2, b2⟩
  have F3 := fun_mk (st := s_is_pair) l3 c3 k3
  have b3 := F3.binds (ps := P_is_pair) fun _ _ _ _ _ _ us hl => match us, hl with | [_], _ => rfl
  have D3 : DefAt K mg "is_pair" s_is_pair P_is_pair f3 _ := ⟨F3, PySem.W.mg_of X G a3, b3⟩
  have F4 := fun_mk (st := s_is_row) l4 c4 k4
  have b4 := F4.binds (ps := P_is_row) fun _ _ _ _ _ _ us hl => match us, hl with | [_, _], _ => rfl
  have D4 : DefAt K mg "is_row" s_is_row P_is_row f4 _ := ⟨F4, PySem.W.mg_of X G a4, b4⟩
  have F5 := fun_mk (st := s_is_short_row) l5 c5 k5
  have b5 := F5.binds (ps := P_is_short_row) fun _ _ _ _ _ _ us hl => match us, hl with | [_, _, _], _ => rfl
  have D5 : DefAt K mg "is_short_row" s_is_short_row P_is_short_row f5 _ := ⟨F5, PySem.W.mg_of X G a5, b5⟩
  have F6 := fun_mk (st := s_is_back) l6 c6 k6
  have b6 := F6.binds (ps := P_is_back) fun _ _ _ _ _ _ us hl => match us, hl with | [_], _ => rfl
  have D6 : DefAt K mg "is_back" s_is_back P_is_back f6 _ := ⟨F6, PySem.W.mg_of X G a6, b6⟩
  have F7 := fun_mk (st := s_want_letters) l7 c7 k7
  have b7 := F7.binds (ps := P_want_letters) fun _ _ _ _ _ _ us hl => match us, hl with | [_, _], _ => rfl
  have D7 : DefAt K mg "want_letters" s_want_letters P_want_letters f7 _ := ⟨F7, PySem.W.mg_of X G a7, b7⟩
  have F8 := fun_mk (st := s_is_rule) l8 c8 k8
  have b8 := F8.binds (ps := P_is_rule) fun _ _ _ _ _ _ us hl => match us, hl with | [_, _], _ => rfl
  have D8 : DefAt K mg "is_rule" s_is_rule P_is_rule f8 _ := ⟨F8, PySem.W.mg_of X G a8, b8⟩
  have F9 := fun_mk (st := s_are_rules) l9 c9 k9
  have b9 := F9.binds (ps := P_are_rules) fun _ _ _ _ _ _ us hl => match us, hl with | [_, _], _ => rfl
  have D9 : DefAt K mg "are_rules" s_are_rules P_are_rules f9 _ := ⟨F9, PySem.W.mg_of X G a9, b9⟩
  have F10 := fun_mk (st := s_is_way) l10 c10 k10
  have b10 := F10.binds (ps := P_is_way) fun _ _ _ _ _ _ us hl => match us, hl with | [_, _, _], _ => rfl
  have D10 : DefAt K mg "is_way" s_is_way P_is_way f10 _ := ⟨F10, PySem.W.mg_of X G a10, b10⟩
  have F11 := fun_mk (st := s_are_ways) l11 c11 k11
  have b11 := F11.binds (ps := P_are_ways) fun _ _ _ _ _ _ us hl => match us, hl with | [_, _], _ => rfl
  have D11 : DefAt K mg "are_ways" s_are_ways P_are_ways f11 _ := ⟨F11, PySem.W.mg_of X G a11, b11⟩
  have F12 := fun_mk (st := s_are_ends) l12 c12 k12
  have b12 := F12.binds (ps := P_are_ends) fun _ _ _ _ _ _ us hl => match us, hl with | [_, _], _ => rfl
  have D12 : DefAt K mg "are_ends" s_are_ends P_are_ends f12 _ := ⟨F12, PySem.W.mg_of X G a12, b12⟩
  have F13 := fun_mk (st := s_state_behind) l13 c13 k13
  have b13 := F13.binds (ps := P_state_behind) fun _ _ _ _ _ _ us hl => match us, hl with | [_, _, _], _ => rfl
  have D13 : DefAt K mg "state_behind" s_state_behind P_state_behind f13 _ := ⟨F13, PySem.W.mg_of X G a13, b13⟩
  have F14 := fun_mk (st := s_row_of_pair) l14 c14 k14
  have b14 := F14.binds (ps := P_row_of_pair) fun _ _ _ _ _ _ us hl => match us, hl with | [_, _, _], _ => rfl
  have D14 : DefAt K mg "row_of_pair" s_row_of_pair P_row_of_pair f14 _ := ⟨F14, PySem.W.mg_of X G a14, b14⟩
  have F15 := fun_mk (st := s_is_machine_of) l15 c15 k15
  have b15 := F15.binds (ps := P_is_machine_of) fun _ _ _ _ _ _ us hl => match us, hl with | [_, _], _ => rfl
  have D15 : DefAt K mg "is_machine_of" s_is_machine_of P_is_machine_of f15 _ := ⟨F15, PySem.W.mg_of X G a15, b15⟩
  have F16 := fun_mk (st := s_are_nears) l16 c16 k16
  have b16 := F16.binds (ps := P_are_nears) fun _ _ _ _ _ _ us hl => match us, hl with | [_, _], _ => rfl
  have D16 : DefAt K mg "are_nears" s_are_nears P_are_nears f16 _ := ⟨F16, PySem.W.mg_of X G a16, b16⟩
  have F17 := fun_mk (st := s_want_claim) l17 c17 k17
  have b17 := F17.binds (ps := P_want_claim) fun _ _ _ _ _ _ us hl => match us, hl with | [_], _ => rfl
  have D17 : DefAt K mg "want_claim" s_want_claim P_want_claim f17 _ := ⟨F17, PySem.W.mg_of X G a17, b17⟩
  have F18 := fun_mk (st := s_says) l18 c18 k18
  have b18 := F18.binds (ps := P_says) fun _ _ _ _ _ _ us hl => match us, hl with | [_, _, _, _], _ => rfl
  have D18 : DefAt K mg "says" s_says P_says f18 _ := ⟨F18, PySem.W.mg_of X G a18, b18⟩
  have F19 := fun_mk (st := s_law_begun) l19 c19 k19
  have b19 := F19.binds (ps := P_law_begun) fun _ _ _ _ _ _ us hl => match us, hl with | [_], _ => rfl
  have D19 : DefAt K mg "_law_begun" s_law_begun P_law_begun f19 _ := ⟨F19, PySem.W.mg_of X G a19, b19⟩
  have F20 := fun_mk (st := s_law_mixed) l20 c20 k20
  have b20 := F20.binds (ps := P_law_mixed) fun _ _ _ _ _ _ us hl => match us, hl with | [_], _ => rfl
  have D20 : DefAt K mg "_law_mixed" s_law_mixed P_law_mixed f20 _ := ⟨F20, PySem.W.mg_of X G a20, b20⟩
  have F21 := fun_mk (st := s_law_take) l21 c21 k21
  have b21 := F21.binds (ps := P_law_take) fun _ _ _ _ _ _ us hl => match us, hl with | [_, _], _ => rfl
  have D21 : DefAt K mg "_law_take" s_law_take P_law_take f21 _ := ⟨F21, PySem.W.mg_of X G a21, b21⟩
  have F22 := fun_mk (st := s_law_pick) l22 c22 k22
  have b22 := F22.binds (ps := P_law_pick) fun _ _ _ _ _ _ us hl => match us, hl with | [_, _], _ => rfl
  have D22 : DefAt K mg "_law_pick" s_law_pick P_law_pick f22 _ := ⟨F22, PySem.W.mg_of X G a22, b22⟩
  have F23 := fun_mk (st := s_law_is_truth) l23 c23 k23
  have b23 := F23.binds (ps := P_law_is_truth) fun _ _ _ _ _ _ us hl => match us, hl with | [_, _], _ => rfl
  have D23 : DefAt K mg "_law_is_truth" s_law_is_truth P_law_is_truth f23 _ := ⟨F23, PySem.W.mg_of X G a23, b23⟩
  have F24 := fun_mk (st := s_law_caught) l24 c24 k24
  have b24 := F24.binds (ps := P_law_caught) fun _ _ _ _ _ _ us hl => match us, hl with | [_], _ => rfl
  have D24 : DefAt K mg "_law_caught" s_law_caught P_law_caught f24 _ := ⟨F24, PySem.W.mg_of X G a24, b24⟩
  have F25 := fun_mk (st := s_law_word) l25 c25 k25
  have b25 := F25.binds (ps := P_law_word) fun _ _ _ _ _ _ us hl => match us, hl with | [_, _, _], _ => rfl
  have D25 : DefAt K mg "_law_word" s_law_word P_law_word f25 _ := ⟨F25, PySem.W.mg_of X G a25, b25⟩
  have F26 := fun_mk (st := s_law_pairs_read) l26 c26 k26
  have b26 := F26.binds (ps := P_law_pairs_read) fun _ _ _ _ _ _ us hl => match us, hl with | [_, _, _], _ => rfl
  have D26 : DefAt K mg "_law_pairs_read" s_law_pairs_read P_law_pairs_read f26 _ := ⟨F26, PySem.W.mg_of X G a26, b26⟩
  have F27 := fun_mk (st := s_law_went) l27 c27 k27
  have b27 := F27.binds (ps := P_law_went) fun _ _ _ _ _ _ us hl => match us, hl with | [_, _], _ => rfl
  have D27 : DefAt K mg "_law_went" s_law_went P_law_went f27 _ := ⟨F27, PySem.W.mg_of X G a27, b27⟩
  have F28 := fun_mk (st := s_law_machine_sketch) l28 c28 k28
  have b28 := F28.binds (ps := P_law_machine_sketch) fun _ _ _ _ _ _ us hl => match us, hl with | [_, _, _], _ => rfl
  have D28 : DefAt K mg "_law_machine_sketch" s_law_machine_sketch P_law_machine_sketch f28 _ := ⟨F28, PySem.W.mg_of X G a28, b28⟩
  have F29 := fun_mk (st := s_law_copied) l29 c29 k29
  have b29 := F29.binds (ps := P_law_copied) fun _ _ _ _ _ _ us hl => match us, hl with | [_, _], _ => rfl
  have D29 : DefAt K mg "_law_copied" s_law_copied P_law_copied f29 _ := ⟨F29, PySem.W.mg_of X G a29, b29⟩
  have F30 := fun_mk (st := s_law) l30 c30 k30
  have b30 := F30.binds (ps := P_law) fun _ _ _ _ _ _ us hl => match us, hl with | [_], _ => rfl
  have cl_Group : Cls K C_Group := ⟨op_Group, od_Group, oo_Group, os_Group⟩
  have OC_Group : OwnC K C_Group := ⟨cl_Group, oi_Group, ot_Group, oc_Group, gk1, gk2, ob_Group, ouNoneType_Group, oubool_Group, ouint_Group, oustr_Group, oulist_Group, outuple_Group, oudict_Group⟩
  have O_Group : OwnE K C_Group g_Groupeq := ⟨ma_Groupeq, on_Group, ob_Group, mi_Groupeq⟩
  have M_Group : Mk K C_Group g_Groupinit := ⟨om_Group, ma_Groupinit, mi_Groupinit, ok_Group⟩
  have g_Group := PySem.W.mg_of X G og_Group
  have F_Groupinit := fun_mk (st := s_Groupinit) ml_Groupinit mc_Groupinit mk_Groupinit
  have b_Groupinit := F_Groupinit.binds (ps := P_Groupinit) fun _ _ _ _ _ _ us hl => match us, hl with | [_, _, _], _ => rfl
  have F_Groupeq := fun_mk (st := s_Groupeq) ml_Groupeq mc_Groupeq mk_Groupeq
  have b_Groupeq := F_Groupeq.binds (ps := P_Groupeq) fun _ _ _ _ _ _ us hl => match us, hl with | [_, _], _ => rfl
  have cl_Machine : Cls K C_Machine := ⟨op_Machine, od_Machine, oo_Machine, os_Machine⟩
  have OC_Machine : OwnC K C_Machine := ⟨cl_Machine, oi_Machine, ot_Machine, oc_Machine, gk1, gk2, ob_Machine, ouNoneType_Machine, oubool_Machine, ouint_Machine, oustr_Machine, oulist_Machine, outuple_Machine, oudict_Machine⟩
  have O_Machine : OwnE K C_Machine g_Machineeq := ⟨ma_Machineeq, on_Machine, ob_Machine, mi_Machineeq⟩
  have M_Machine : Mk K C_Machine g_Machineinit := ⟨om_Machine, ma_Machineinit, mi_Machineinit, ok_Machine⟩
  have g_Machine := PySem.W.mg_of X G og_Machine
  have F_Machineinit := fun_mk (st := s_Machineinit) ml_Machineinit mc_Machineinit mk_Machineinit
  have b_Machineinit := F_Machineinit.binds (ps := P_Machineinit) fun _ _ _ _ _ _ us hl => match us, hl with | [_, _, _, _], _ => rfl
  have F_Machineeq := fun_mk (st := s_Machineeq) ml_Machineeq mc_Machineeq mk_Machineeq
  have b_Machineeq := F_Machineeq.binds (ps := P_Machineeq) fun _ _ _ _ _ _ us hl => match us, hl with | [_, _], _ => rfl
  have cl_Claim : Cls K C_Claim := ⟨op_Claim, od_Claim, oo_Claim, os_Claim⟩
  have OC_Claim : OwnC K C_Claim := ⟨cl_Claim, oi_Claim, ot_Claim, oc_Claim, gk1, gk2, ob_Claim, ouNoneType_Claim, oubool_Claim, ouint_Claim, oustr_Claim, oulist_Claim, outuple_Claim, oudict_Claim⟩
  have O_Claim : OwnE K C_Claim g_Claimeq := ⟨ma_Claimeq, on_Claim, ob_Claim, mi_Claimeq⟩
  have M_Claim : Mk K C_Claim g_Claiminit := ⟨om_Claim, ma_Claiminit, mi_Claiminit, ok_Claim⟩
  have g_Claim := PySem.W.mg_of X G og_Claim
  have F_Claiminit := fun_mk (st := s_Claiminit) ml_Claiminit mc_Claiminit mk_Claiminit
  have b_Claiminit := F_Claiminit.binds (ps := P_Claiminit) fun _ _ _ _ _ _ us hl => match us, hl with | [_, _, _, _], _ => rfl
  have F_Claimeq := fun_mk (st := s_Claimeq) ml_Claimeq mc_Claimeq mk_Claimeq
  have b_Claimeq := F_Claimeq.binds (ps := P_Claimeq) fun _ _ _ _ _ _ us hl => match us, hl with | [_, _], _ => rfl
  refine ⟨cL, Pt, mt0, ⟨sc_law, ⟨_, _, _, _, _, _, _, _, l30, b30⟩, c30, ch0, np0, fun base hK hNs TB s H a ns hr hS h63 hP => ?_⟩⟩
  have h_is_number := ok_is_number (P := l.prog) (w := w) (base := base) D0 T
  have h_is_number_in := ok_is_number_in (P := l.prog) (w := w) (base := base) D1 T h_is_number
  have h_is_list := ok_is_list (P := l.prog) (w := w) (base := base) D2 T
  have h_is_pair := ok_is_pair (P := l.prog) (w := w) (base := base) D3 T
  have h_is_row := ok_is_row (P := l.prog) (w := w) (base := base) D4 T h_is_number_in
  have h_is_short_row := ok_is_short_row (P := l.prog) (w := w) (base := base) D5 T h_is_row
  have h_is_back := ok_is_back (P := l.prog) (w := w) (base := base) D6 T c_MOST_BACK h_is_row
  have h_want_letters := ok_want_letters (P := l.prog) (w := w) (base := base) D7 T e_BadWord h_is_row
  have h_is_rule := ok_is_rule (P := l.prog) (w := w) (base := base) D8 T c_MOST_SIDE h_is_pair h_is_short_row
  have h_are_rules := ok_are_rules (P := l.prog) (w := w) (base := base) D9 T c_MOST_RULES h_is_list h_is_rule
  have h_is_way := ok_is_way (P := l.prog) (w := w) (base := base) D10 T h_is_number_in h_is_list
  have h_are_ways := ok_are_ways (P := l.prog) (w := w) (base := base) D11 T c_MOST_STATES h_is_list h_is_way
  have h_are_ends := ok_are_ends (P := l.prog) (w := w) (base := base) D12 T h_is_list h_is_number_in
  have h_state_behind := ok_state_behind (P := l.prog) (w := w) (base := base) D13 T
  have h_row_of_pair := ok_row_of_pair (P := l.prog) (w := w) (base := base) D14 T
  have h_is_machine_of := ok_is_machine_of (P := l.prog) (w := w) (base := base) D15 T g_Machine OC_Machine ofletters_Machine
  have h_are_nears := ok_are_nears (P := l.prog) (w := w) (base := base) D16 T (ok_is_listG (P := l.prog) (w := w) (base := base) D2 T) h_is_machine_of
  have h_want_claim := ok_want_claim (P := l.prog) (w := w) (base := base) D17 T t_BadClaim g_Claim OC_Claim
  have h_says := ok_says (P := l.prog) (w := w) (base := base) D18 T t_BadNumber OC_Claim ofgroup_Claim ofnears_Claim OC_Group ofback_Group OC_Machine ofways_Machine ofends_Machine h_want_claim h_is_number_in h_want_letters h_state_behind h_row_of_pair
  have h__law_begun := ok_law_begun (P := l.prog) (w := w) (base := base) D19 T
  have h__law_mixed := ok_law_mixed (P := l.prog) (w := w) (base := base) D20 T
  have h__law_take := ok_law_take (P := l.prog) (w := w) (base := base) D21 T h__law_mixed
  have h__law_pick := ok_law_pick (P := l.prog) (w := w) (base := base) D22 T h__law_take
  have h__law_is_truth := ok_law_is_truth (P := l.prog) (w := w) (base := base) D23 T
  have h__law_word := ok_law_word (P := l.prog) (w := w) (base := base) D25 T h__law_take
  have h__law_pairs_read := ok_law_pairs_read (P := l.prog) (w := w) (base := base) D26 T
  have h__law_went := ok_law_went (P := l.prog) (w := w) (base := base) D27 T
  have h__law_machine_sketch := ok_law_machine_sketch (P := l.prog) (w := w) (base := base) D28 T h__law_take h__law_pick
  have D_caught := D24
  have h_Group : MkX l.prog w K mg base "Group" P_Groupinit ["rules", "back"] 7 C_Group (spGI K C_Group C_BadGroup) gR gR := ⟨_, _, g_Group, M_Group, b_Groupinit, ⟨fun s us ws _ l1 l2 => match us, ws, l1, l2 with | [_], [_, _], _, _ => .of_eq rfl, fun r r' => gR_rel r r'⟩, ok_Groupinit (P := l.prog) (w := w) (base := base) F_Groupinit T t_BadGroup cl_Group ofback_Group ofrules_Group h_is_back h_are_rules⟩
  have h_Machine : MkM l.prog w K mg base "Machine" P_Machineinit 5 C_Machine (spMI K C_Machine) := ⟨_, _, g_Machine, M_Machine, b_Machineinit, ok_Machineinit (P := l.prog) (w := w) (base := base) F_Machineinit T t_BadMachine cl_Machine ofletters_Machine ofways_Machine ofends_Machine c_MOST_READ h_is_number_in h_are_ways h_are_ends⟩
  have h_Claim : MkX l.prog w K mg base "Claim" P_Claiminit ["nears", "words", "group"] 5 C_Claim (spCI K C_Claim C_Group C_Machine C_BadClaim) gR gR := ⟨_, _, g_Claim, M_Claim, b_Claiminit, ⟨fun s us ws _ l1 l2 => match us, ws, l1, l2 with | [_], [_, _, _], _, _ => .of_eq rfl, fun r r' => gR_rel r r'⟩, ok_Claiminit (P := l.prog) (w := w) (base := base) F_Claiminit T t_BadClaim cl_Claim ofgroup_Claim ofwords_Claim ofnears_Claim g_Group OC_Group ofback_Group h_is_machine_of h_are_nears⟩
  have F_Geq := ok_Groupeq (P := l.prog) (w := w) (base := base) F_Groupeq T g_Group OC_Group ofback_Group ofrules_Group
  have F_Meq := ok_Machineeq (P := l.prog) (w := w) (base := base) F_Machineeq T g_Machine OC_Machine ofletters_Machine ofways_Machine ofends_Machine
  have F_Ceq := ok_Claimeq (P := l.prog) (w := w) (base := base) F_Claimeq T g_Claim OC_Claim ofgroup_Claim ofwords_Claim ofnears_Claim OC_Group OC_Machine O_Group F_Geq b_Groupeq O_Machine F_Meq b_Machineeq
  have h__law_copied := ok_law_copied (P := l.prog) (w := w) (base := base) D29 T h_Machine
  have h__law_pickG := ok_law_pickG (P := l.prog) (w := w) (base := base) D22 T h__law_take
  exact ok_law T t_BadClaim t_BadNumber e_BadWord gG E_BadClaim E_BadNumber E_BadWord x_BadClaim x_BadNumber x_BadWord y_BadClaim y_BadNumber y_BadWord OC_Group OC_Machine OC_Claim ofback_Group ofrules_Group ofletters_Machine ofways_Machine ofends_Machine ofgroup_Claim ofwords_Claim ofnears_Claim apMachine_Group apGroup_Machine O_Group F_Geq b_Groupeq O_Machine F_Meq b_Machineeq O_Claim F_Ceq b_Claimeq h_Group h_Machine h_Claim h_says h__law_begun h__law_take h__law_pickG h__law_word h__law_pairs_read h__law_went h__law_machine_sketch h__law_copied h__law_is_truth D_caught TB hr hS h63 hP
end Gw

open PySem PySem.W PyProof.Rows in
set_option maxRecDepth 100000 in
set_option maxHeartbeats 0 in
theorem PySem.Challenge.cw_gatewords_k08_claims_judged_and_what_the_holds : PySem.Challenge.rw_gatewords_k08_claims_judged_and_what_the.Holds := by
  w_on; o_law; k_head; (case hw => w_witness2)
  k_fill
  refine Gw.walk_atT (l := PySem.Challenge.rw_gatewords_k08_claims_judged_and_what_the) (st := Gw.s_law) (N := Gw.N_law) (k := 12) (ts := _) rfl rfl ⟨rfl, by decide, by decide⟩ (fun w h Y => ⟨PySem.W.km_in_of Y, fun P hP => PySem.W.km_tabs_of Y P hP⟩) ?F
  case F =>
    intro w mg fa h KX G hmg
    refine' Gw.all_mk KX G hmg ?a0 ?l0 ?c0 ?k0 ?a1 ?l1 ?c1 ?k1 ?a2 ?l2 ?c2 ?k2 ?a3 ?l3 ?c3 ?k3 ?a4 ?l4 ?c4 ?k4 ?a5 ?l5 ?c5 ?k5 ?a6 ?l6 ?c6 ?k6 ?a7 ?l7 ?c7 ?k7 ?a8 ?l8 ?c8 ?k8 ?a9 ?l9 ?c9 ?k9 ?a10 ?l10 ?c10 ?k10 ?a11 ?l11 ?c11 ?k11 ?a12 ?l12 ?c12 ?k12 ?a13 ?l13 ?c13 ?k13 ?a14 ?l14 ?c14 ?k14 ?a15 ?l15 ?c15 ?k15 ?a16 ?l16 ?c16 ?k16 ?a17 ?l17 ?c17 ?k17 ?a18 ?l18 ?c18 ?k18 ?a19 ?l19 ?c19 ?k19 ?a20 ?l20 ?c20 ?k20 ?a21 ?l21 ?c21 ?k21 ?a22 ?l22 ?c22 ?k22 ?a23 ?l23 ?c23 ?k23 ?a24 ?l24 ?c24 ?k24 ?a25 ?l25 ?c25 ?k25 ?a26 ?l26 ?c26 ?k26 ?a27 ?l27 ?c27 ?k27 ?a28 ?l28 ?c28 ?k28 ?a29 ?l29 ?c29 ?k29 ?a30 ?l30 ?c30 ?k30 ?lc0 ?lt0 ?ch0 ?np0 ?mt0 ?g_MOST_BACK ?g_MOST_RULES ?g_MOST_SIDE ?g_MOST_READ ?g_MOST_STATES ?z_len ?z_int ?z_bool ?z_str ?z_list ?z_tuple ?z_dict ?z_isinstance ?z_all ?z_any ?z_abs ?z_min ?z_max ?z_range ?z_enumerate ?z_repr ?z_sorted ?z_super ?z_op ?h_top ?xg_GroupError ?xb_GroupError ?xt_GroupError ?xd_GroupError ?xg_BadClaim ?xb_BadClaim ?xt_BadClaim ?xd_BadClaim ?xx_BadClaim ?xk_BadClaim ?xsa_BadClaim ?xa_BadClaim ?xh_BadClaim ?xn_BadClaim ?xi_BadClaim ?xf_BadClaim ?xv_BadClaim ?xo_BadClaim ?xw_BadClaim ?xc_BadClaim ?xm_BadClaim ?xs_BadClaim ?xl_BadClaim ?xq_BadClaim ?xcd_BadClaim ?xfl_BadClaim ?xfe_BadClaim ?xcc_BadClaim ?xg_BadGroup ?xb_BadGroup ?xt_BadGroup ?xd_BadGroup ?xx_BadGroup ?xk_BadGroup ?xsa_BadGroup ?xa_BadGroup ?xh_BadGroup ?xn_BadGroup ?xi_BadGroup ?xf_BadGroup ?xv_BadGroup ?xo_BadGroup ?xw_BadGroup ?xc_BadGroup ?xm_BadGroup ?xs_BadGroup ?xl_BadGroup ?xq_BadGroup ?xcd_BadGroup ?xfl_BadGroup ?xfe_BadGroup ?xcc_BadGroup ?xg_BadMachine ?xb_BadMachine ?xt_BadMachine ?xd_BadMachine ?xx_BadMachine ?xk_BadMachine ?xsa_BadMachine ?xa_BadMachine ?xh_BadMachine ?xn_BadMachine ?xi_BadMachine ?xf_BadMachine ?xv_BadMachine ?xo_BadMachine ?xw_BadMachine ?xc_BadMachine ?xm_BadMachine ?xs_BadMachine ?xl_BadMachine ?xq_BadMachine ?xcd_BadMachine ?xfl_BadMachine ?xfe_BadMachine ?xcc_BadMachine ?xg_BadNumber ?xb_BadNumber ?xt_BadNumber ?xd_BadNumber ?xx_BadNumber ?xk_BadNumber ?xsa_BadNumber ?xa_BadNumber ?xh_BadNumber ?xn_BadNumber ?xi_BadNumber ?xf_BadNumber ?xv_BadNumber ?xo_BadNumber ?xw_BadNumber ?xc_BadNumber ?xm_BadNumber ?xs_BadNumber ?xl_BadNumber ?xq_BadNumber ?xcd_BadNumber ?xfl_BadNumber ?xfe_BadNumber ?xcc_BadNumber ?xg_BadWord ?xb_BadWord ?xt_BadWord ?xd_BadWord ?xx_BadWord ?xk_BadWord ?xa_BadWord ?xh_BadWord ?xc_BadWord ?xm_BadWord ?xs_BadWord ?gk1 ?gk2 ?og_Group ?op_Group ?od_Group ?oo_Group ?os_Group ?om_Group ?ok_Group ?oi_Group ?ot_Group ?oc_Group ?ob_Group ?on_Group ?ouNoneType_Group ?oubool_Group ?ouint_Group ?oustr_Group ?oulist_Group ?outuple_Group ?oudict_Group ?ofback_Group ?ofrules_Group ?ma_Groupinit ?mi_Groupinit ?ml_Groupinit ?mc_Groupinit ?mk_Groupinit ?ma_Groupeq ?mi_Groupeq ?ml_Groupeq ?mc_Groupeq ?mk_Groupeq ?og_Machine ?op_Machine ?od_Machine ?oo_Machine ?os_Machine ?om_Machine ?ok_Machine ?oi_Machine ?ot_Machine ?oc_Machine ?ob_Machine ?on_Machine ?ouNoneType_Machine ?oubool_Machine ?ouint_Machine ?oustr_Machine ?oulist_Machine ?outuple_Machine ?oudict_Machine ?ofletters_Machine ?ofways_Machine ?ofends_Machine ?ma_Machineinit ?mi_Machineinit ?ml_Machineinit ?mc_Machineinit ?mk_Machineinit ?ma_Machineeq ?mi_Machineeq ?ml_Machineeq ?mc_Machineeq ?mk_Machineeq ?og_Claim ?op_Claim ?od_Claim ?oo_Claim ?os_Claim ?om_Claim ?ok_Claim ?oi_Claim ?ot_Claim ?oc_Claim ?ob_Claim ?on_Claim ?ouNoneType_Claim ?oubool_Claim ?ouint_Claim ?oustr_Claim ?oulist_Claim ?outuple_Claim ?oudict_Claim ?ofgroup_Claim ?ofwords_Claim ?ofnears_Claim ?ma_Claiminit ?mi_Claiminit ?ml_Claiminit ?mc_Claiminit ?mk_Claiminit ?ma_Claimeq ?mi_Claimeq ?ml_Claimeq ?mc_Claimeq ?mk_Claimeq ?apMachine_Group ?apGroup_Machine
    (case a0 => k_is)
    (case l0 => k_is)
    (case c0 => k_is)
    (case k0 => k_is)
    (case a1 => k_is)
    (case l1 => k_is)
    (case c1 => k_is)
    (case k1 => k_is)
    (case a2 => k_is)
    (case l2 => k_is)
    (case c2 => k_is)
    (case k2 => k_is)
    (case a3 => k_is)
    (case l3 => k_is)
    (case c3 => k_is)
    (case k3 => k_is)
    (case a4 => k_is)
    (case l4 => k_is)
    (case c4 => k_is)
    (case k4 => k_is)
    (case a5 => k_is)
    (case l5 => k_is)
    (case c5 => k_is)
    (case k5 => k_is)
    (case a6 => k_is)
    (case l6 => k_is)
    (case c6 => k_is)
    (case k6 => k_is)
    (case a7 => k_is)
    (case l7 => k_is)
    (case c7 => k_is)
    (case k7 => k_is)
    (case a8 => k_is)
    (case l8 => k_is)
    (case c8 => k_is)
    (case k8 => k_is)
    (case a9 => k_is)
    (case l9 => k_is)
    (case c9 => k_is)
    (case k9 => k_is)
    (case a10 => k_is)
    (case l10 => k_is)
    (case c10 => k_is)
    (case k10 => k_is)
    (case a11 => k_is)
    (case l11 => k_is)
    (case c11 => k_is)
    (case k11 => k_is)
    (case a12 => k_is)
    (case l12 => k_is)
    (case c12 => k_is)
    (case k12 => k_is)
    (case a13 => k_is)
    (case l13 => k_is)
    (case c13 => k_is)
    (case k13 => k_is)
    (case a14 => k_is)
    (case l14 => k_is)
    (case c14 => k_is)
    (case k14 => k_is)
    (case a15 => k_is)
    (case l15 => k_is)
    (case c15 => k_is)
    (case k15 => k_is)
    (case a16 => k_is)
    (case l16 => k_is)
    (case c16 => k_is)
    (case k16 => k_is)
    (case a17 => k_is)
    (case l17 => k_is)
    (case c17 => k_is)
    (case k17 => k_is)
    (case a18 => k_is)
    (case l18 => k_is)
    (case c18 => k_is)
    (case k18 => k_is)
    (case a19 => k_is)
    (case l19 => k_is)
    (case c19 => k_is)
    (case k19 => k_is)
    (case a20 => k_is)
    (case l20 => k_is)
    (case c20 => k_is)
    (case k20 => k_is)
    (case a21 => k_is)
    (case l21 => k_is)
    (case c21 => k_is)
    (case k21 => k_is)
    (case a22 => k_is)
    (case l22 => k_is)
    (case c22 => k_is)
    (case k22 => k_is)
    (case a23 => k_is)
    (case l23 => k_is)
    (case c23 => k_is)
    (case k23 => k_is)
    (case a24 => k_is)
    (case l24 => k_is)
    (case c24 => k_is)
    (case k24 => k_is)
    (case a25 => k_is)
    (case l25 => k_is)
    (case c25 => k_is)
    (case k25 => k_is)
    (case a26 => k_is)
    (case l26 => k_is)
    (case c26 => k_is)
    (case k26 => k_is)
    (case a27 => k_is)
    (case l27 => k_is)
    (case c27 => k_is)
    (case k27 => k_is)
    (case a28 => k_is)
    (case l28 => k_is)
    (case c28 => k_is)
    (case k28 => k_is)
    (case a29 => k_is)
    (case l29 => k_is)
    (case c29 => k_is)
    (case k29 => k_is)
    (case a30 => k_is)
    (case l30 => k_is)
    (case c30 => k_is)
    (case k30 => k_is)
    (case lc0 => k_is)
    (case lt0 => first | rfl | k_is)
    (case ch0 => rfl)
    (case np0 => first | rfl | k_is)
    (case mt0 => first | exact List.mem_singleton_self _ | decide | simp)
    (case g_MOST_BACK => k_is)
    (case g_MOST_RULES => k_is)
    (case g_MOST_SIDE => k_is)
    (case g_MOST_READ => k_is)
    (case g_MOST_STATES => k_is)
    (case z_len => k_is)
    (case z_int => k_is)
    (case z_bool => k_is)
    (case z_str => k_is)
    (case z_list => k_is)
    (case z_tuple => k_is)
    (case z_dict => k_is)
    (case z_isinstance => k_is)
    (case z_all => k_is)
    (case z_any => k_is)
    (case z_abs => k_is)
    (case z_min => k_is)
    (case z_max => k_is)
    (case z_range => k_is)
    (case z_enumerate => k_is)
    (case z_repr => k_is)
    (case z_sorted => k_is)
    (case z_super => k_is)
    (case z_op => k_is)
    (case h_top => first | rfl | decide +kernel)
    (case xg_GroupError => k_is)
    (case xb_GroupError => k_is)
    (case xt_GroupError => k_is)
    (case xd_GroupError => k_is)
    (case xg_BadClaim => k_is)
    (case xb_BadClaim => k_is)
    (case xt_BadClaim => k_is)
    (case xd_BadClaim => k_is)
    (case xx_BadClaim => k_is)
    (case xk_BadClaim => k_is)
    (case xsa_BadClaim => k_is)
    (case xa_BadClaim => k_is)
    (case xh_BadClaim => k_is)
    (case xn_BadClaim => k_is)
    (case xi_BadClaim => k_is)
    (case xf_BadClaim => k_is)
    (case xv_BadClaim => k_is)
    (case xo_BadClaim => k_is)
    (case xw_BadClaim => ks_is)
    (case xc_BadClaim => k_is)
    (case xm_BadClaim => k_is)
    (case xs_BadClaim => k_is)
    (case xl_BadClaim => k_is)
    (case xq_BadClaim => k_is)
    (case xcd_BadClaim => k_is)
    (case xfl_BadClaim => first | rfl | k_is)
    (case xfe_BadClaim => first | rfl | decide +kernel)
    (case xcc_BadClaim => k_is)
    (case xg_BadGroup => k_is)
    (case xb_BadGroup => k_is)
    (case xt_BadGroup => k_is)
    (case xd_BadGroup => k_is)
    (case xx_BadGroup => k_is)
    (case xk_BadGroup => k_is)
    (case xsa_BadGroup => k_is)
    (case xa_BadGroup => k_is)
    (case xh_BadGroup => k_is)
    (case xn_BadGroup => k_is)
    (case xi_BadGroup => k_is)
    (case xf_BadGroup => k_is)
    (case xv_BadGroup => k_is)
    (case xo_BadGroup => k_is)
    (case xw_BadGroup => ks_is)
    (case xc_BadGroup => k_is)
    (case xm_BadGroup => k_is)
    (case xs_BadGroup => k_is)
    (case xl_BadGroup => k_is)
    (case xq_BadGroup => k_is)
    (case xcd_BadGroup => k_is)
    (case xfl_BadGroup => first | rfl | k_is)
    (case xfe_BadGroup => first | rfl | decide +kernel)
    (case xcc_BadGroup => k_is)
    (case xg_BadMachine => k_is)
    (case xb_BadMachine => k_is)
    (case xt_BadMachine => k_is)
    (case xd_BadMachine => k_is)
    (case xx_BadMachine => k_is)
    (case xk_BadMachine => k_is)
    (case xsa_BadMachine => k_is)
    (case xa_BadMachine => k_is)
    (case xh_BadMachine => k_is)
    (case xn_BadMachine => k_is)
    (case xi_BadMachine => k_is)
    (case xf_BadMachine => k_is)
    (case xv_BadMachine => k_is)
    (case xo_BadMachine => k_is)
    (case xw_BadMachine => ks_is)
    (case xc_BadMachine => k_is)
    (case xm_BadMachine => k_is)
    (case xs_BadMachine => k_is)
    (case xl_BadMachine => k_is)
    (case xq_BadMachine => k_is)
    (case xcd_BadMachine => k_is)
    (case xfl_BadMachine => first | rfl | k_is)
    (case xfe_BadMachine => first | rfl | decide +kernel)
    (case xcc_BadMachine => k_is)
    (case xg_BadNumber => k_is)
    (case xb_BadNumber => k_is)
    (case xt_BadNumber => k_is)
    (case xd_BadNumber => k_is)
    (case xx_BadNumber => k_is)
    (case xk_BadNumber => k_is)
    (case xsa_BadNumber => k_is)
    (case xa_BadNumber => k_is)
    (case xh_BadNumber => k_is)
    (case xn_BadNumber => k_is)
    (case xi_BadNumber => k_is)
    (case xf_BadNumber => k_is)
    (case xv_BadNumber => k_is)
    (case xo_BadNumber => k_is)
    (case xw_BadNumber => ks_is)
    (case xc_BadNumber => k_is)
    (case xm_BadNumber => k_is)
    (case xs_BadNumber => k_is)
    (case xl_BadNumber => k_is)
    (case xq_BadNumber => k_is)
    (case xcd_BadNumber => k_is)
    (case xfl_BadNumber => first | rfl | k_is)
    (case xfe_BadNumber => first | rfl | decide +kernel)
    (case xcc_BadNumber => k_is)
    (case xg_BadWord => k_is)
    (case xb_BadWord => k_is)
    (case xt_BadWord => k_is)
    (case xd_BadWord => k_is)
    (case xx_BadWord => k_exc)
    (case xk_BadWord => k_is)
    (case xa_BadWord => k_is)
    (case xh_BadWord => k_is)
    (case xc_BadWord => k_is)
    (case xm_BadWord => k_is)
    (case xs_BadWord => k_is)
    (case gk1 => k_is)
    (case gk2 => k_is)
    (case og_Group => k_is)
    (case op_Group => k_is)
    (case od_Group => k_is)
    (case oo_Group => k_is)
    (case os_Group => k_is)
    (case om_Group => k_is)
    (case ok_Group => k_is)
    (case oi_Group => k_is)
    (case ot_Group => k_is)
    (case oc_Group => k_is)
    (case ob_Group => k_is)
    (case on_Group => k_is)
    (case ouNoneType_Group => k_is)
    (case oubool_Group => k_is)
    (case ouint_Group => k_is)
    (case oustr_Group => k_is)
    (case oulist_Group => k_is)
    (case outuple_Group => k_is)
    (case oudict_Group => k_is)
    (case ofback_Group => k_is)
    (case ofrules_Group => k_is)
    (case ma_Groupinit => k_is)
    (case mi_Groupinit => k_is)
    (case ml_Groupinit => k_is)
    (case mc_Groupinit => k_is)
    (case mk_Groupinit => k_is)
    (case ma_Groupeq => k_is)
    (case mi_Groupeq => k_is)
    (case ml_Groupeq => k_is)
    (case mc_Groupeq => k_is)
    (case mk_Groupeq => k_is)
    (case og_Machine => k_is)
    (case op_Machine => k_is)
    (case od_Machine => k_is)
    (case oo_Machine => k_is)
    (case os_Machine => k_is)
    (case om_Machine => k_is)
    (case ok_Machine => k_is)
    (case oi_Machine => k_is)
    (case ot_Machine => k_is)
    (case oc_Machine => k_is)
    (case ob_Machine => k_is)
    (case on_Machine => k_is)
    (case ouNoneType_Machine => k_is)
    (case oubool_Machine => k_is)
    (case ouint_Machine => k_is)
    (case oustr_Machine => k_is)
    (case oulist_Machine => k_is)
    (case outuple_Machine => k_is)
    (case oudict_Machine => k_is)
    (case ofletters_Machine => k_is)
    (case ofways_Machine => k_is)
    (case ofends_Machine => k_is)
    (case ma_Machineinit => k_is)
    (case mi_Machineinit => k_is)
    (case ml_Machineinit => k_is)
    (case mc_Machineinit => k_is)
    (case mk_Machineinit => k_is)
    (case ma_Machineeq => k_is)
    (case mi_Machineeq => k_is)
    (case ml_Machineeq => k_is)
    (case mc_Machineeq => k_is)
    (case mk_Machineeq => k_is)
    (case og_Claim => k_is)
    (case op_Claim => k_is)
    (case od_Claim => k_is)
    (case oo_Claim => k_is)
    (case os_Claim => k_is)
    (case om_Claim => k_is)
    (case ok_Claim => k_is)
    (case oi_Claim => k_is)
    (case ot_Claim => k_is)
    (case oc_Claim => k_is)
    (case ob_Claim => k_is)
    (case on_Claim => k_is)
    (case ouNoneType_Claim => k_is)
    (case oubool_Claim => k_is)
    (case ouint_Claim => k_is)
    (case oustr_Claim => k_is)
    (case oulist_Claim => k_is)
    (case outuple_Claim => k_is)
    (case oudict_Claim => k_is)
    (case ofgroup_Claim => k_is)
    (case ofwords_Claim => k_is)
    (case ofnears_Claim => k_is)
    (case ma_Claiminit => k_is)
    (case mi_Claiminit => k_is)
    (case ml_Claiminit => k_is)
    (case mc_Claiminit => k_is)
    (case mk_Claiminit => k_is)
    (case ma_Claimeq => k_is)
    (case mi_Claimeq => k_is)
    (case ml_Claimeq => k_is)
    (case mc_Claimeq => k_is)
    (case mk_Claimeq => k_is)
    (case apMachine_Group => first | k_is | rfl | decide +kernel)
    (case apGroup_Machine => first | k_is | rfl | decide +kernel)
