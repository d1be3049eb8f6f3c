import PyProof.Rows.All
import Wide.All
import OpenK.AllK
import Wide.FinOn
import PySem.Challenge.RW_gatewords_k61_whole_changes_of_groups
import HandS.ForMost
import HandS.TupAny
import HandS.IsInst
import HandS.Conv
import PyProof.ReprReads
import HandS.Exc
import HandS.ExcOwn
import HandS.ExcValue
import HandS.Walk
import KE.GoesMore
import PyProof.EnumMake
import HandS.Style
import KE.KRevSl
import HandS.Lambda
import PyProof.ReprBulk
import PyProof.ReprRoads
import HandS.SortKw
import KE.DataMinKey
import KE.SortData
import HandS.WordsExc
import HandS.CallLocal
import HandS.ExcIs
import KE.KExcSuper
import KE.KExcIs
import HandS.ExcInit
import PyProof.InstEq
import HandS.TupMul
import HandS.EndOwn
import HandS.NestedK
import HandS.MakeKwOnly
import HandS.Strs
import HandS.Deep
set_option Elab.async false
set_option linter.all false
set_option maxRecDepth 100000
set_option maxHeartbeats 4000000
namespace Gw
open PySem PySem.Spec PyProof.Rows L2

/-! ### views: G is the part of the heap that never changes -/
structure Nx (G H G' H' : Hp) : Prop where
  gg : Same G G'
  gh : Same G' H'
  hh : Same H H'
  fr : ∀ a, H a ≠ none → G' a = G a
theorem ne_none {H : Hp} {a : Addr} {o : HO} (h : H a = some o) : H a ≠ none := by rw [h]; exact fun z => nomatch z
theorem same_none {H H' : Hp} (e : Same H H') {a : Addr} (h : H a ≠ none) : H' a ≠ none := by
  cases q : H a with
  | none => exact absurd q h
  | some o => exact ne_none (e a o q)
theorem Nx.refl {G H : Hp} (h : Same G H) : Nx G H G H := ⟨Same.refl G, h, Same.refl H, fun _ _ => rfl⟩
theorem Nx.trans {G H G1 H1 G2 H2 : Hp} (a : Nx G H G1 H1) (b : Nx G1 H1 G2 H2) : Nx G H G2 H2 :=
  ⟨a.gg.trans b.gg, b.gh, a.hh.trans b.hh, fun x h => (b.fr x (same_none a.hh h)).trans (a.fr x h)⟩
theorem Nx.new {G H : Hp} {p : Addr} {o : HO} (h : Same G H) (hp : H p = none) : Nx G H (upd G p o) (upd H p o) := by
  have gp : G p = none := h.free hp
  refine ⟨fun b u e => ?_, fun b u e => ?_, fun b u e => ?_, fun b hb => ?_⟩
  · rw [upd_ne (ne_of_none e gp)]; exact e
  · by_cases hb : b = p
    · subst hb; rw [upd_same] at e ⊢; exact e
    · rw [upd_ne hb] at e ⊢; exact h b u e
  · rw [upd_ne (ne_of_none e hp)]; exact e
  · by_cases hq : b = p
    · subst hq; exact absurd hp hb
    · rw [upd_ne hq]
/-- a new object that is not told to the view -/
theorem Nx.lay {G H : Hp} {p : Addr} {o : HO} (h : Same G H) (hp : H p = none) : Nx G H G (upd H p o) :=
  ⟨Same.refl G, fun b u e => by rw [upd_ne (ne_of_none (h b u e) hp)]; exact h b u e, fun b u e => by rw [upd_ne (ne_of_none e hp)]; exact e, fun _ _ => rfl⟩
theorem same_tup {K : PySem.W.Frag} {H H' : Hp} {a : Addr} {xs : List V} (e : Same H H') (h : SqT K H a xs) : SqT K H' a xs := by
  rcases h with (h | ⟨o, h⟩) | h
  · exact .inl (.inl (e _ _ h))
  · exact .inl (.inr ⟨o, e _ _ h⟩)
  · exact .inr h

/-! ### data in a view -/
mutual
theorem dp_mono {K : PySem.W.Frag} {H H' : Hp} (e : Same H H') : ∀ (d : PyData) {v : V}, Dp K H v d → Dp K H' v d
  | .none, _, .non => .non
  | .bool b, _, .bl _ => .bl b
  | .int i, _, .int _ => .int i
  | .str x, _, .str _ => .str x
  | .list ds, _, .lst hs ha => .lst (e.seq hs) (dpa_mono e ds ha)
  | .tuple ds, _, .tup hs ha => .tup (same_tup e hs) (dpa_mono e ds ha)
theorem dpa_mono {K : PySem.W.Frag} {H H' : Hp} (e : Same H H') : ∀ (ds : List PyData) {vs : List V}, DpAll K H vs ds → DpAll K H' vs ds
  | [], _, .nil => .nil
  | d :: ds, _, .cons h t => .cons (dp_mono e d h) (dpa_mono e ds t)
end
theorem dpa_length {K : PySem.W.Frag} {H : Hp} : ∀ {vs : List V} {ds : List PyData}, DpAll K H vs ds → vs.length = ds.length
  | _, _, .nil => rfl
  | _, _, .cons _ t => by rw [List.length_cons, List.length_cons, dpa_length t]
theorem dpa_get {K : PySem.W.Frag} {H : Hp} : ∀ {vs : List V} {ds : List PyData} {i : Nat} {v : V}, DpAll K H vs ds → vs[i]? = some v → ∃ d, ds[i]? = some d ∧ Dp K H v d
  | _, _, _, _, .nil, e => by simp at e
  | _, _, 0, _, .cons r _, e => by simp at e; subst e; exact ⟨_, rfl, r⟩
  | _, _, i + 1, _, .cons _ t, e => by
    obtain ⟨u, h1, h2⟩ := dpa_get (i := i) t (by simpa using e)
    exact ⟨u, by simpa using h1, h2⟩
theorem dpa_at {K : PySem.W.Frag} {H : Hp} : ∀ {vs : List V} {ds : List PyData} {i : Nat} {d : PyData}, DpAll K H vs ds → ds[i]? = some d → ∃ v, vs[i]? = some v ∧ Dp K H v d
  | _, _, _, _, .nil, e => by simp at e
  | _, _, 0, _, .cons r _, e => by simp at e; subst e; exact ⟨_, rfl, r⟩
  | _, _, i + 1, _, .cons _ t, e => by
    obtain ⟨u, h1, h2⟩ := dpa_at (i := i) t (by simpa using e)
    exact ⟨u, by simpa using h1, h2⟩
theorem dpa_append {K : PySem.W.Frag} {H : Hp} : ∀ {vs ws : List V} {ds es : List PyData}, DpAll K H vs ds → DpAll K H ws es → DpAll K H (vs ++ ws) (ds ++ es)
  | _, _, _, _, .nil, h => h
  | _, _, _, _, .cons r t, h => .cons r (dpa_append t h)
theorem dpa_take {K : PySem.W.Frag} {H : Hp} : ∀ {vs : List V} {ds : List PyData} (n : Nat), DpAll K H vs ds → DpAll K H (vs.take n) (ds.take n)
  | _, _, 0, _ => .nil
  | _, _, _ + 1, .nil => .nil
  | _, _, n + 1, .cons r t => .cons r (dpa_take n t)
theorem dpa_drop {K : PySem.W.Frag} {H : Hp} : ∀ {vs : List V} {ds : List PyData} (n : Nat), DpAll K H vs ds → DpAll K H (vs.drop n) (ds.drop n)
  | _, _, 0, r => r
  | _, _, _ + 1, .nil => .nil
  | _, _, n + 1, .cons _ t => dpa_drop n t
theorem dpa_reverse {K : PySem.W.Frag} {H : Hp} : ∀ {vs : List V} {ds : List PyData}, DpAll K H vs ds → DpAll K H vs.reverse ds.reverse
  | _, _, .nil => .nil
  | _, _, .cons r t => by rw [List.reverse_cons, List.reverse_cons]; exact dpa_append (dpa_reverse t) (.cons r .nil)
theorem dpa_ints {K : PySem.W.Frag} {H : Hp} : ∀ ns : List Int, DpAll K H (ns.map V.int) (ns.map PyData.int)
  | [] => .nil
  | n :: ns => .cons (.int n) (dpa_ints ns)
theorem dp_int {K : PySem.W.Frag} {H : Hp} {v : V} {i : Int} (h : Dp K H v (.int i)) : v = .int i := by cases h; rfl
theorem dp_bl {K : PySem.W.Frag} {H : Hp} {v : V} {i : Bool} (h : Dp K H v (.bool i)) : v = .bl i := by cases h; rfl
theorem dp_non {K : PySem.W.Frag} {H : Hp} {v : V} (h : Dp K H v .none) : v = .non := by cases h; rfl
theorem dp_str {K : PySem.W.Frag} {H : Hp} {v : V} {i : Str} (h : Dp K H v (.str i)) : v = .str i := by cases h; rfl
theorem dpa_ints_inv {K : PySem.W.Frag} {H : Hp} : ∀ {vs : List V} {ns : List Int}, DpAll K H vs (ns.map PyData.int) → vs = ns.map V.int
  | [], [], _ => rfl
  | [], _ :: _, h => nomatch h
  | _ :: _, [], h => nomatch h
  | v :: vs, n :: ns, .cons h t => by rw [dp_int h, dpa_ints_inv t]; rfl
theorem dp_ints_l {K : PySem.W.Frag} {H : Hp} {v : V} {ns : List Int} (h : Dp K H v (.list (ns.map .int))) : ∃ a, v = .ref a ∧ SqL K H a (ns.map V.int) := by
  cases h with
  | lst hs ha => rw [dpa_ints_inv ha] at hs; exact ⟨_, rfl, hs⟩
theorem dp_ints_t {K : PySem.W.Frag} {H : Hp} {v : V} {ns : List Int} (h : Dp K H v (.tuple (ns.map .int))) : ∃ a, v = .ref a ∧ SqT K H a (ns.map V.int) := by
  cases h with
  | tup hs ha => rw [dpa_ints_inv ha] at hs; exact ⟨_, rfl, hs⟩

/-! ### what an expression evaluates to, whatever else stands in the heap -/
def EvD (K : PySem.W.Frag) (te : TE) (σ : L2.St) (G : Hp) (d : PyData) : Prop := ∀ H, Same G H → ∀ Q : VK, (∀ v G' H', Nx G H G' H' → Dp K G' v d → Q v H') → te σ H Q
def EvA (K : PySem.W.Frag) (ta : TA) (σ : L2.St) (G : Hp) (ds : List PyData) : Prop := ∀ H, Same G H → ∀ Q : List V → Hp → Prop, (∀ vs G' H', Nx G H G' H' → DpAll K G' vs ds → Q vs H') → ta σ H Q
def EvB (K : PySem.W.Frag) (tt : TT) (σ : L2.St) (G : Hp) (b : Bool) : Prop := ∀ H, Same G H → ∀ Q : Bool → Hp → Prop, (∀ G' H', Nx G H G' H' → Q b H') → tt σ H Q
def RtD (K : PySem.W.Frag) (ts : TS) (σ : L2.St) (G : Hp) (d : PyData) : Prop := ∀ H, Same G H → ∀ D : Ends, (∀ v G' H', Nx G H G' H' → Dp K G' v d → D.rt v H') → ts D σ H
/-- a greater view over the same heap -/
theorem Nx.over {G G1 H G' H' : Hp} (g : Same G G1) (h : Same G1 H) (n : Nx G H G' H') : ∃ G2, Nx G1 H G2 H' ∧ Same G' G2 := by
  refine ⟨fun a => match H a with | none => G' a | some _ => G1 a, ⟨fun a o e => ?_, fun a o e => ?_, n.hh, fun a e => ?_⟩, fun a o e => ?_⟩
  · have : H a = some o := h a o e
    simp only [this]; exact e
  · cases q : H a with
    | none => simp only [q] at e; exact n.gh a o e
    | some u =>
      simp only [q] at e
      exact n.hh a o (h a o e)
  · cases q : H a with
    | none => exact absurd q e
    | some u => rfl
  · cases q : H a with
    | none => simp only [q]; exact e
    | some u =>
      simp only [q]
      rw [n.fr a (ne_none q)] at e
      exact g a o e
section
variable {K : PySem.W.Frag} {σ : L2.St} {G G1 : Hp} {te ta tb : TE} {tt tu : TT} {tA tR : TA} {d e x y z : PyData} {ds es : List PyData} {t u : TS}
theorem EvD.mono (h : EvD K te σ G d) (g : Same G G1) : EvD K te σ G1 d := fun H s Q q => h H (g.trans s) Q fun v G' H' n hd => by
  obtain ⟨G2, n2, s2⟩ := n.over g s
  exact q v G2 H' n2 (dp_mono s2 d hd)
theorem EvA.mono (h : EvA K tA σ G ds) (g : Same G G1) : EvA K tA σ G1 ds := fun H s Q q => h H (g.trans s) Q fun v G' H' n hd => by
  obtain ⟨G2, n2, s2⟩ := n.over g s
  exact q v G2 H' n2 (dpa_mono s2 ds hd)
theorem EvB.mono {b : Bool} (h : EvB K tt σ G b) (g : Same G G1) : EvB K tt σ G1 b := fun H s Q q => h H (g.trans s) Q fun G' H' n => by
  obtain ⟨G2, n2, s2⟩ := n.over g s
  exact q G2 H' n2
theorem RtD.mono (h : RtD K t σ G d) (g : Same G G1) : RtD K t σ G1 d := fun H s D q => h H (g.trans s) D fun v G' H' n hd => by
  obtain ⟨G2, n2, s2⟩ := n.over g s
  exact q v G2 H' n2 (dp_mono s2 d hd)
theorem EvD.cast (h : EvD K te σ G d) (e : d = z) : EvD K te σ G z := e ▸ h
theorem EvB.cast {b c : Bool} (h : EvB K tt σ G b) (e : b = c) : EvB K tt σ G c := e ▸ h
theorem RtD.cast (h : RtD K t σ G d) (e : d = z) : RtD K t σ G z := e ▸ h

theorem ed_var {i : Nat} {v : V} (h : σ[i]? = some (some v)) (hd : Dp K G v d) : EvD K (tVar i) σ G d := fun H s _ q => ⟨v, h, q v G H (Nx.refl s) hd⟩
theorem ed_c {v : V} (hd : Dp K G v d) : EvD K (tC v) σ G d := fun H s _ q => q v G H (Nx.refl s) hd
theorem ed_int {i : Int} : EvD K (tC (.int i)) σ G (.int i) := ed_c (.int i)
theorem ed_bl {i : Bool} : EvD K (tC (.bl i)) σ G (.bool i) := ed_c (.bl i)
theorem ed_str {i : Str} : EvD K (tC (.str i)) σ G (.str i) := ed_c (.str i)
theorem ed_non : EvD K (tC .non) σ G .none := ed_c .non

/-- an operation on two data -/
def ROp (K : PySem.W.Frag) (r : R2) (x y z : PyData) : Prop := ∀ G H, Same G H → ∀ vx vy, Dp K G vx x → Dp K G vy y → ∀ Q : VK, (∀ v G' H', Nx G H G' H' → Dp K G' v z → Q v H') → r vx vy H Q
theorem ed_op {r : R2} (ha : EvD K ta σ G x) (hb : EvD K tb σ G y) (hr : ROp K r x y z) : EvD K (tOp r ta tb) σ G z := fun H s Q q =>
  ha H s _ fun vx G1 H1 n1 hx => (hb.mono n1.gg) H1 n1.gh _ fun vy G2 H2 n2 hy => hr G2 H2 n2.gh vx vy (dp_mono n2.gg x hx) hy Q fun v G3 H3 n3 hd => q v G3 H3 ((n1.trans n2).trans n3) hd
theorem ro_I0 {g : Int → Int → V} {i j : Int} (hz : ∀ G, Dp K G (g i j) z) : ROp K (rI0 g) (.int i) (.int j) z := fun G H s vx vy hx hy Q q => by
  rw [dp_int hx, dp_int hy]
  exact ⟨i, j, rfl, rfl, q _ G H (Nx.refl s) (hz G)⟩
theorem ro_I {C : Int → Int → Prop} {g : Int → Int → V} {i j : Int} (hc : C i j) (hz : ∀ G, Dp K G (g i j) z) : ROp K (rI C g) (.int i) (.int j) z := fun G H s vx vy hx hy Q q => by
  rw [dp_int hx, dp_int hy]
  exact ⟨i, j, rfl, rfl, hc, q _ G H (Nx.refl s) (hz G)⟩
theorem ro_i {f : Int → Int → Int} {i j : Int} : ROp K (rI0 fun i j => .int (f i j)) (.int i) (.int j) (.int (f i j)) := ro_I0 fun _ => .int _
theorem ro_b {f : Int → Int → Bool} {i j : Int} : ROp K (rI0 fun i j => .bl (f i j)) (.int i) (.int j) (.bool (f i j)) := ro_I0 fun _ => .bl _
theorem ro_ic {C : Int → Int → Prop} {f : Int → Int → Int} {i j : Int} (hc : C i j) : ROp K (rI C fun i j => .int (f i j)) (.int i) (.int j) (.int (f i j)) := ro_I hc fun _ => .int _
theorem ro_eqI {i j : Int} : ROp K rEq (.int i) (.int j) (.bool (decide (i = j))) := fun G H s vx vy hx hy Q q => by
  rw [dp_int hx, dp_int hy]
  refine ⟨rfl, ?_⟩
  have e : decide (V.int i = V.int j) = decide (i = j) := by simp
  rw [e]
  exact q _ G H (Nx.refl s) (.bl _)
theorem ro_neI {i j : Int} : ROp K rNe (.int i) (.int j) (.bool (!decide (i = j))) := fun G H s vx vy hx hy Q q => by
  rw [dp_int hx, dp_int hy]
  refine ⟨rfl, ?_⟩
  have e : decide (V.int i = V.int j) = decide (i = j) := by simp
  rw [e]
  exact q _ G H (Nx.refl s) (.bl _)
theorem ro_eqD (hx : SeqAt.shaped x = true) (hy : SeqAt.shaped y = true) : ROp K (rEqD K) x y (.bool (PyData.eqv x y)) := fun G H s vx vy dx dy Q q =>
  ⟨x, y, dp_mono s x dx, dp_mono s y dy, hx, hy, q _ G H (Nx.refl s) (.bl _)⟩
theorem ro_neD (hx : SeqAt.shaped x = true) (hy : SeqAt.shaped y = true) : ROp K (rNeD K) x y (.bool (!PyData.eqv x y)) := fun G H s vx vy dx dy Q q =>
  ⟨x, y, dp_mono s x dx, dp_mono s y dy, hx, hy, q _ G H (Nx.refl s) (.bl _)⟩
/-- s[i] -/
theorem ro_ixL {i : Int} {k : Nat} (hi : i = (k : Int)) (hk : ds[k]? = some z) : ROp K (rIxL K) (.list ds) (.int i) z := fun G H s vx vy dx dy Q q => by
  cases dx with
  | lst hs ha =>
    obtain ⟨v, h1, h2⟩ := dpa_at ha hk
    rw [dp_int dy]
    exact ⟨_, _, i, v, rfl, rfl, s.seq hs, by rw [hi]; exact atI_nat h1, q v G H (Nx.refl s) h2⟩
theorem ro_ixT {i : Int} {k : Nat} (hi : i = (k : Int)) (hk : ds[k]? = some z) : ROp K (rIxT K) (.tuple ds) (.int i) z := fun G H s vx vy dx dy Q q => by
  cases dx with
  | tup hs ha =>
    obtain ⟨v, h1, h2⟩ := dpa_at ha hk
    rw [dp_int dy]
    exact ⟨_, _, i, v, rfl, rfl, same_tup s hs, by rw [hi]; exact atI_nat h1, q v G H (Nx.refl s) h2⟩
/-- t + u -/
theorem ro_cat (hz : ds.length + es.length ≤ sizeLine) : ROp K (rCatA K) (.tuple ds) (.tuple es) (.tuple (ds ++ es)) := fun G H s vx vy dx dy Q q => by
  cases dx with
  | @tup a xs _ hs ha =>
    cases dy with
    | @tup b ys _ hs' hb =>
      have l1 := dpa_length ha
      have l2 := dpa_length hb
      refine ⟨a, b, xs, ys, rfl, rfl, same_tup s hs, same_tup s hs', by omega, fun e => ?_, fun _ e => ?_, fun _ _ p hp => ?_⟩
      · subst e; cases ha; exact q _ G H (Nx.refl s) (.tup hs' hb)
      · subst e; cases hb; rw [List.append_nil] at q; exact q _ G H (Nx.refl s) (.tup hs ha)
      · have n := Nx.new (o := .tup (xs ++ ys)) s hp
        exact q _ _ _ n (.tup (SqT.of upd_same) (dpa_append (dpa_mono n.gg _ ha) (dpa_mono n.gg _ hb)))

/-! ### arguments, displays -/
theorem ea_nil : EvA K tNil σ G [] := fun H s _ q => q [] G H (Nx.refl s) .nil
theorem ea_cons (h : EvD K te σ G d) (hr : EvA K tR σ G ds) : EvA K (tCons te tR) σ G (d :: ds) := fun H s Q q =>
  h H s _ fun v G1 H1 n1 hv => (hr.mono n1.gg) H1 n1.gh _ fun vs G2 H2 n2 hvs => q (v :: vs) G2 H2 (n1.trans n2) (.cons (dp_mono n2.gg d hv) hvs)
theorem ed_tup (h : EvA K tA σ G ds) (hz : ds.length ≤ sizeLine) : EvD K (tTup tA) σ G (.tuple ds) := fun H s Q q =>
  h H s _ fun vs G1 H1 n1 hv => ⟨by rw [dpa_length hv]; exact hz, fun p hp => by
    have n := Nx.new (o := .tup vs) n1.gh hp
    exact q _ _ _ (n1.trans n) (.tup (SqT.of upd_same) (dpa_mono n.gg _ hv))⟩
theorem ed_lst (h : EvA K tA σ G ds) (hz : ds.length ≤ sizeLine) : EvD K (tLst tA) σ G (.list ds) := fun H s Q q =>
  h H s _ fun vs G1 H1 n1 hv => ⟨by rw [dpa_length hv]; exact hz, fun p hp => by
    have n := Nx.new (o := .lst vs) n1.gh hp
    exact q _ _ _ (n1.trans n) (.lst (SqL.of upd_same) (dpa_mono n.gg _ hv))⟩

/-! ### calls of built-ins and of defs -/
def RCl (K : PySem.W.Frag) (r : List V → Hp → VK → Prop) (ds : List PyData) (z : PyData) : Prop := ∀ G H, Same G H → ∀ vs, DpAll K G vs ds → ∀ Q : VK, (∀ v G' H', Nx G H G' H' → Dp K G' v z → Q v H') → r vs H Q
theorem ed_cb {r : List V → Hp → VK → Prop} (ha : EvA K tA σ G ds) (hr : RCl K r ds z) : EvD K (tCB r tA) σ G z := fun H s Q q =>
  ha H s _ fun vs G1 H1 n1 hv => hr G1 H1 n1.gh vs hv Q fun v G2 H2 n2 hd => q v G2 H2 (n1.trans n2) hd
/-- a def's promise by data: R says of which arguments it hands back what -/
def SpD (K : PySem.W.Frag) (R : List PyData → PyData → Prop) : Sp := fun vs H Q _ => ∃ G ds d, Same G H ∧ DpAll K G vs ds ∧ R ds d ∧ ∀ v G' H', Nx G H G' H' → Dp K G' v d → Q v H'
theorem ed_call {R : List PyData → PyData → Prop} {E : XK} (ha : EvA K tA σ G ds) (hr : R ds z) : EvD K (tCall (SpD K R) [] E tA) σ G z := fun H s Q q =>
  ha H s _ fun vs G1 H1 n1 hv => ⟨G1, ds, z, n1.gh, by rw [List.append_nil]; exact hv, hr, fun v G2 H2 n2 hd => q v G2 H2 (n1.trans n2) hd⟩
/-- by keywords: the values in the order of the call, put in that of the parameters -/
theorem ed_callK {R : List PyData → PyData → Prop} {E : XK} {tk : TA} {gV : List V → List V → List V} {gd : List PyData} (ha : EvA K tA σ G ds) (hk : EvA K tk σ G es)
    (hg : ∀ G' vs zs, DpAll K G' vs ds → DpAll K G' zs es → DpAll K G' (gV vs zs) gd) (hr : R gd z) : EvD K (tCallK (SpD K R) gV E tA tk) σ G z := fun H s Q q =>
  ha H s _ fun vs G1 H1 n1 hv => (hk.mono n1.gg) H1 n1.gh _ fun zs G2 H2 n2 hz => ⟨G2, gd, z, n2.gh, hg G2 vs zs (dpa_mono n2.gg _ hv) hz, hr, fun v G3 H3 n3 hd => q v G3 H3 ((n1.trans n2).trans n3) hd⟩

/-! ### tests -/
theorem eb_test {b : Bool} (h : EvD K te σ G (.bool b)) : EvB K (tTest te) σ G b := fun H s Q q => h H s _ fun v G1 H1 n1 hv => ⟨b, dp_bl hv, q G1 H1 n1⟩
theorem eb_B {b : Bool} (h : EvD K te σ G (.bool b)) : EvB K (tB te) σ G b := fun H s Q q => h H s _ fun v G1 H1 n1 hv => ⟨b, dp_bl hv, q G1 H1 n1⟩
theorem eb_not {b : Bool} (h : EvB K tt σ G b) : EvB K (tNot tt) σ G (!b) := fun H s Q q => h H s _ fun G1 H1 n1 => q G1 H1 n1
theorem eb_and {a b : Bool} (h1 : EvB K tt σ G a) (h2 : a = true → EvB K tu σ G b) : EvB K (tAnd tt tu) σ G (a && b) := fun H s Q q => h1 H s _ fun G1 H1 n1 => by
  cases a with
  | true => exact (show tu σ H1 Q from ((h2 rfl).mono n1.gg) H1 n1.gh Q fun G2 H2 n2 => q G2 H2 (n1.trans n2))
  | false => exact (show Q false H1 from q G1 H1 n1)
theorem eb_or {a b : Bool} (h1 : EvB K tt σ G a) (h2 : a = false → EvB K tu σ G b) : EvB K (tOr tt tu) σ G (a || b) := fun H s Q q => h1 H s _ fun G1 H1 n1 => by
  cases a with
  | true => exact (show Q true H1 from q G1 H1 n1)
  | false => exact (show tu σ H1 Q from ((h2 rfl).mono n1.gg) H1 n1.gh Q fun G2 H2 n2 => q G2 H2 (n1.trans n2))
theorem ed_and {a b : Bool} (h1 : EvD K ta σ G (.bool a)) (h2 : a = true → EvD K tb σ G (.bool b)) : EvD K (tAndV ta tb) σ G (.bool (a && b)) := fun H s Q q => h1 H s _ fun v G1 H1 n1 hv => ⟨a, dp_bl hv, by
  cases a with
  | true => exact (show tb σ H1 Q from ((h2 rfl).mono n1.gg) H1 n1.gh Q fun v2 G2 H2 n2 hd => q v2 G2 H2 (n1.trans n2) hd)
  | false => exact (show Q (.bl false) H1 from q _ G1 H1 n1 (.bl _))⟩
theorem ed_or {a b : Bool} (h1 : EvD K ta σ G (.bool a)) (h2 : a = false → EvD K tb σ G (.bool b)) : EvD K (tOrV ta tb) σ G (.bool (a || b)) := fun H s Q q => h1 H s _ fun v G1 H1 n1 hv => ⟨a, dp_bl hv, by
  cases a with
  | true => exact (show Q (.bl true) H1 from q _ G1 H1 n1 (.bl _))
  | false => exact (show tb σ H1 Q from ((h2 rfl).mono n1.gg) H1 n1.gh Q fun v2 G2 H2 n2 hd => q v2 G2 H2 (n1.trans n2) hd)⟩
theorem ed_not {a : Bool} (h1 : EvD K ta σ G (.bool a)) : EvD K (tNotV ta) σ G (.bool (!a)) := fun H s Q q => h1 H s _ fun v G1 H1 n1 hv => ⟨a, dp_bl hv, q _ G1 H1 n1 (.bl _)⟩
theorem ed_if {b : Bool} (h : EvB K tt σ G b) (h1 : b = true → EvD K ta σ G d) (h2 : b = false → EvD K tb σ G d) : EvD K (tIf tt ta tb) σ G d := fun H s Q q => h H s _ fun G1 H1 n1 => by
  cases b with
  | true => exact (show ta σ H1 Q from ((h1 rfl).mono n1.gg) H1 n1.gh Q fun v2 G2 H2 n2 hd => q v2 G2 H2 (n1.trans n2) hd)
  | false => exact (show tb σ H1 Q from ((h2 rfl).mono n1.gg) H1 n1.gh Q fun v2 G2 H2 n2 hd => q v2 G2 H2 (n1.trans n2) hd)
/-- a < b < c, of ints -/
theorem ed_chain {r r' : R2} {tc : TE} {b c : Bool} (ha : EvD K ta σ G x) (hb : EvD K tb σ G y) (hr : ROp K r x y (.bool b)) (hc : b = true → EvD K tc σ G z) (hr' : b = true → ROp K r' y z (.bool c)) : EvD K (tChain r r' ta tb tc) σ G (.bool (b && c)) := fun H s Q q =>
  ha H s _ fun vx G1 H1 n1 hx => (hb.mono n1.gg) H1 n1.gh _ fun vy G2 H2 n2 hy => hr G2 H2 n2.gh vx vy (dp_mono n2.gg x hx) hy _ fun v G3 H3 n3 hd => ⟨b, dp_bl hd, by
    have n13 := (n1.trans n2).trans n3
    cases b with
    | true => exact (show tc σ H3 _ from ((hc rfl).mono n13.gg) H3 n13.gh _ fun vz G4 H4 n4 hz => (hr' rfl) G4 H4 n4.gh vy vz (dp_mono (n3.gg.trans n4.gg) y hy) hz Q fun v5 G5 H5 n5 hd5 => q v5 G5 H5 ((n13.trans n4).trans n5) hd5)
    | false => exact (show Q (.bl false) H3 from q _ G3 H3 n13 (.bl _))⟩

/-! ### statements that hand back -/
theorem rd_ret (h : EvD K te σ G d) : RtD K (tRet te) σ G d := fun H s D q => h H s _ fun v G1 H1 n hd => q v G1 H1 n hd
theorem rd_if {b : Bool} (h : EvB K tt σ G b) (h1 : b = true → RtD K t σ G d) (h2 : b = false → RtD K u σ G d) : RtD K (tIfS tt t u) σ G d := fun H s D q => h H s _ fun G1 H1 n1 => by
  cases b with
  | true => exact (show t D σ H1 from ((h1 rfl).mono n1.gg) H1 n1.gh D fun v2 G2 H2 n2 hd => q v2 G2 H2 (n1.trans n2) hd)
  | false => exact (show u D σ H1 from ((h2 rfl).mono n1.gg) H1 n1.gh D fun v2 G2 H2 n2 hd => q v2 G2 H2 (n1.trans n2) hd)
theorem rd_seqIf {b : Bool} (h : EvB K tt σ G b) (h1 : b = true → RtD K t σ G d) (h2 : b = false → RtD K u σ G d) : RtD K (tSeq (tIfS tt t tNext) u) σ G d := fun H s D q => h H s _ fun G1 H1 n1 => by
  cases b with
  | true => exact (show t { D with nx := u D } σ H1 from ((h1 rfl).mono n1.gg) H1 n1.gh { D with nx := u D } fun v2 G2 H2 n2 hd => q v2 G2 H2 (n1.trans n2) hd)
  | false => exact (show u D σ H1 from ((h2 rfl).mono n1.gg) H1 n1.gh D fun v2 G2 H2 n2 hd => q v2 G2 H2 (n1.trans n2) hd)
theorem rd_set {i : Nat} (h : EvD K te σ G e) (h1 : ∀ v G', Same G G' → Dp K G' v e → RtD K u (σ.set i (some v)) G' d) : RtD K (tSeq (tAsg te (gName i)) u) σ G d := fun H s D q => h H s _ fun v G1 H1 n1 hv =>
  h1 v G1 n1.gg hv H1 n1.gh D fun v2 G2 H2 n2 hd => q v2 G2 H2 (n1.trans n2) hd
theorem rd_drop (h : EvD K te σ G e) (h1 : RtD K u σ G d) : RtD K (tSeq (tDrop te) u) σ G d := fun H s D q => h H s _ fun v G1 H1 n1 hv =>
  (h1.mono n1.gg) H1 n1.gh D fun v2 G2 H2 n2 hd => q v2 G2 H2 (n1.trans n2) hd
/-- nothing behind the last statement: None -/
theorem rd_never (h : False) : RtD K t σ G d := h.elim
end
/-- a def whose body hands back by data -/
theorem okD {P : Program} {w : World} {K : PySem.W.Frag} {mg : Str → Option Value} {base : Heap} {x qual : Str} {st : Stmt} {f : Addr} {fd : FuncData} {N ps : List Str} {k : Nat} {R : List PyData → PyData → Prop}
    (F : Fun K x qual st f fd) (S : FnScope N ps (defScope st)) (len : ∀ ds d, R ds d → ds.length = ps.length)
    (hbody : ∀ (cdv : Value) (A : Around) (outer : List Env) (s : Shared) (H : Hp), Room k (A.deeper (envOfC qual (defScope st) s.heap.objs.size f cdv)) →
      ∃ t, PSs (cxOf CX0 P w K mg base N qual (defScope st) f cdv A outer s H E0).nox (defBody st) t ∧ ∀ G ds d vs, R ds d → DpAll K G vs ds → ∀ H, Same G H → ∀ D : Ends, (∀ v G' H', Nx G H G' H' → Dp K G' v d → D.rt v H') → (∀ σ G' H', Nx G H G' H' → d = .none → D.nx σ H') → t D (start N vs) H) : FnOk P w K mg base CX0 (k + 1) f fd ps (SpD K R) := by
  refine F.ok S (fun vs H Q E h => ?_) (fun cdv A outer s H vs Q E hr h => ?_)
  · obtain ⟨G, ds, d, _, ha, hr, _⟩ := h
    rw [dpa_length ha]; exact len ds d hr
  · obtain ⟨G, ds, d, hs, ha, hR, q⟩ := h
    obtain ⟨t, ht, hq⟩ := hbody cdv A outer s H hr
    exact ⟨t, ht, hq G ds d vs hR ha H hs _ (fun v G' H' n hd => q v G' H' n hd) (fun _ G' H' n e => q .non G' H' n (by rw [e]; exact .non))⟩
end Gw
namespace Gw
open PySem PySem.Spec PyProof.Rows L2

/-! ### kinds -/
def tyOf : PyData → String
  | .none => "NoneType" | .bool _ => "bool" | .int _ => "int" | .str _ => "str" | .list _ => "list" | .tuple _ => "tuple" | .dict _ => "dict"
theorem dp_ty {K : PySem.W.Frag} {G H : Hp} (s : Same G H) : ∀ {d : PyData} {v : V}, Dp K G v d → TyX K H v (.type (tyOf d))
  | _, _, .non => .base .non
  | _, _, .bl b => .base (.bl b)
  | _, _, .int i => .base (.int i)
  | _, _, .str x => .base (.str x)
  | _, _, .lst hs _ => by
    rcases hs with (h | ⟨o, h⟩) | ⟨o, its, n, h, c, _⟩
    · exact .base (.lst (s _ _ h))
    · exact .base (.frz (s _ _ h))
    · exact .kList h c
  | _, _, .tup hs _ => by
    rcases hs with (h | ⟨o, h⟩) | ⟨o, its, n, h, c, _⟩
    · exact .base (.tup (s _ _ h))
    · exact .fTuple (s _ _ h)
    · exact .kTuple h c
section
variable {K : PySem.W.Frag} {σ : L2.St} {G G1 : Hp} {te ta tb tl : TE} {tt tu : TT} {tA tR : TA} {d e x y z : PyData} {ds es : List PyData} {t u : TS}
theorem ed_isi {n : String} {b : Bool} (h : EvD K te σ G d) (hk : kitB (tyOf d) n = some b) : EvD K (tCB (rIsi K) (tCons te (tCons (tC (.ty n)) tNil))) σ G (.bool b) := fun H s Q q =>
  h H s _ fun v G1 H1 n1 hv => ⟨v, .ty n, .type (tyOf d), .type n, b, rfl, .ty n, dp_ty n1.gh hv, kit_ty hk, q _ G1 H1 n1 (.bl b)⟩
theorem rcl_len {K : PySem.W.Frag} {ds : List PyData} : RCl K (fun xs H Q => ∃ p ys, xs = [.ref p] ∧ (SqL K H p ys ∨ SqT K H p ys) ∧ Q (.int ys.length) H) [.tuple ds] (.int ds.length) := fun G H s vs hv Q q => by
  cases hv with
  | cons h t =>
    cases t
    cases h with
    | tup hs ha =>
      refine ⟨_, _, rfl, .inr (same_tup s hs), ?_⟩
      rw [dpa_length ha]
      exact q _ G H (Nx.refl s) (.int _)
theorem rcl_lenL {K : PySem.W.Frag} {ds : List PyData} : RCl K (fun xs H Q => ∃ p ys, xs = [.ref p] ∧ (SqL K H p ys ∨ SqT K H p ys) ∧ Q (.int ys.length) H) [.list ds] (.int ds.length) := fun G H s vs hv Q q => by
  cases hv with
  | cons h t =>
    cases t
    cases h with
    | lst hs ha =>
      refine ⟨_, _, rfl, .inl (s.seq hs), ?_⟩
      rw [dpa_length ha]
      exact q _ G H (Nx.refl s) (.int _)
theorem dpa_bools {K : PySem.W.Frag} {H : Hp} : ∀ {vs : List V} {bs : List Bool}, DpAll K H vs (bs.map PyData.bool) → vs = bs.map V.bl
  | [], [], _ => rfl
  | [], _ :: _, h => nomatch h
  | _ :: _, [], h => nomatch h
  | v :: vs, n :: ns, .cons h t => by rw [dp_bl h, dpa_bools t]; rfl
theorem rcl_all {bs : List Bool} : RCl K (rAll K) [.list (bs.map .bool)] (.bool (bs.all id)) := fun G H s vs hv Q q => by
  cases hv with
  | cons h t =>
    cases t
    cases h with
    | lst hs ha =>
      rw [dpa_bools ha] at hs
      exact ⟨_, bs, rfl, s.seq hs, q _ G H (Nx.refl s) (.bl _)⟩
theorem rcl_tupleL : RCl K (fun xs H Q => ∃ p ys, xs = [.ref p] ∧ ((SqL K H p ys ∧ ∀ l, H l = none → Q (.ref l) (upd H l (.tup ys))) ∨ (SqT K H p ys ∧ Q (.ref p) H))) [.list ds] (.tuple ds) := fun G H s vs hv Q q => by
  cases hv with
  | cons h t =>
    cases t
    cases h with
    | @lst a xs _ hs ha =>
      refine ⟨_, _, rfl, .inl ⟨s.seq hs, fun l hl => ?_⟩⟩
      have n := Nx.new (o := .tup xs) s hl
      exact q _ _ _ n (.tup (SqT.of upd_same) (dpa_mono n.gg _ ha))
theorem rcl_listL : RCl K (fun xs H Q => ∃ p ys, xs = [.ref p] ∧ (SqL K H p ys ∨ SqT K H p ys) ∧ ∀ l, H l = none → Q (.ref l) (upd H l (.lst ys))) [.list ds] (.list ds) := fun G H s vs hv Q q => by
  cases hv with
  | cons h t =>
    cases t
    cases h with
    | @lst a xs _ hs ha =>
      refine ⟨_, _, rfl, .inl (s.seq hs), fun l hl => ?_⟩
      have n := Nx.new (o := .lst xs) s hl
      exact q _ _ _ n (.lst (SqL.of upd_same) (dpa_mono n.gg _ ha))

/-! ### slices -/
def EvO (K : PySem.W.Frag) (to : TO) (σ : L2.St) (G : Hp) (o : Option Int) : Prop := ∀ H, Same G H → ∀ Q : Option Int → Hp → Prop, (∀ G' H', Nx G H G' H' → Q o H') → to σ H Q
theorem eo_none : EvO K tNoPart σ G none := fun H s _ q => q G H (Nx.refl s)
theorem eo_some {i : Int} (h : EvD K te σ G (.int i)) : EvO K (tPart te) σ G (some i) := fun H s _ q => h H s _ fun v G1 H1 n hv => ⟨i, dp_int hv, q G1 H1 n⟩
theorem EvO.mono {to : TO} {o : Option Int} (h : EvO K to σ G o) (g : Same G G1) : EvO K to σ G1 o := fun H s Q q => h H (g.trans s) Q fun G' H' n => by
  obtain ⟨G2, n2, s2⟩ := n.over g s
  exact q G2 H' n2
def cutD (xs : List PyData) (lo hi : Option Int) : List PyData := (xs.drop (HT.sIx xs.length 0 lo)).take (HT.sIx xs.length xs.length hi - HT.sIx xs.length 0 lo)
theorem dpa_cut {H : Hp} {vs : List V} (lo hi : Option Int) (h : DpAll K H vs ds) : DpAll K H (cutV vs lo hi) (cutD ds lo hi) := by
  unfold cutV cutD
  rw [dpa_length h]
  exact dpa_take _ (dpa_drop _ h)
theorem cutD_whole {lo hi : Option Int} (h : HT.sIx ds.length 0 lo = 0 ∧ HT.sIx ds.length ds.length hi = ds.length) : cutD ds lo hi = ds := by
  unfold cutD
  rw [h.1, h.2, List.drop_zero, Nat.sub_zero, List.take_length]
theorem cutD_to {k : Nat} : cutD ds none (some (k : Int)) = ds.take k := by
  unfold cutD
  rw [HT.sIx_none, HT.sIx_nat, List.drop_zero, Nat.sub_zero]
  by_cases h : k ≤ ds.length
  · rw [Nat.min_eq_left h]
  · rw [Nat.min_eq_right (by omega), List.take_length, List.take_of_length_le (by omega)]
theorem cutD_from {k : Nat} : cutD ds (some (k : Int)) none = ds.drop k := by
  unfold cutD
  rw [HT.sIx_none, HT.sIx_nat]
  by_cases h : k ≤ ds.length
  · rw [Nat.min_eq_left h, List.take_of_length_le (by rw [List.length_drop]; omega)]
  · rw [Nat.min_eq_right (by omega), Nat.sub_self, List.take_zero, List.drop_eq_nil_of_le (by omega)]
theorem cutD_mid {k j : Nat} (hkj : k ≤ j) (hj : j ≤ ds.length) : cutD ds (some (k : Int)) (some (j : Int)) = (ds.take j).drop k := by
  unfold cutD
  have hk : min k ds.length = k := Nat.min_eq_left (by omega)
  have hj' : min j ds.length = j := Nat.min_eq_left hj
  rw [HT.sIx_nat, HT.sIx_nat, hk, hj', List.drop_take]
theorem ed_slT {tl th : TO} {lo hi : Option Int} (h : EvD K te σ G (.tuple ds)) (h1 : EvO K tl σ G lo) (h2 : EvO K th σ G hi) : EvD K (tSl (rSlA K) te tl th) σ G (.tuple (cutD ds lo hi)) := fun H s Q q =>
  h H s _ fun v G1 H1 n1 hv => (h1.mono n1.gg) H1 n1.gh _ fun G2 H2 n2 => (h2.mono (n1.gg.trans n2.gg)) H2 n2.gh _ fun G3 H3 n3 => by
    have n := (n1.trans n2).trans n3
    cases hv with
    | @tup a xs _ hs ha =>
      have g3 := n2.gg.trans n3.gg
      refine ⟨_, _, rfl, same_tup (g3.trans n3.gh) hs, fun hw => ?_, fun _ p hp => ?_⟩
      · rw [dpa_length ha] at hw
        rw [cutD_whole hw] at q
        exact q _ G3 H3 n (.tup (same_tup g3 hs) (dpa_mono g3 _ ha))
      · have m := Nx.new (o := .tup (cutV xs lo hi)) n3.gh hp
        exact q _ _ _ (n.trans m) (.tup (SqT.of upd_same) (dpa_mono (g3.trans m.gg) _ (dpa_cut lo hi ha)))
theorem ed_slL {tl th : TO} {lo hi : Option Int} (h : EvD K te σ G (.list ds)) (h1 : EvO K tl σ G lo) (h2 : EvO K th σ G hi) : EvD K (tSl (rSlL K) te tl th) σ G (.list (cutD ds lo hi)) := fun H s Q q =>
  h H s _ fun v G1 H1 n1 hv => (h1.mono n1.gg) H1 n1.gh _ fun G2 H2 n2 => (h2.mono (n1.gg.trans n2.gg)) H2 n2.gh _ fun G3 H3 n3 => by
    have n := (n1.trans n2).trans n3
    cases hv with
    | @lst a xs _ hs ha =>
      have g3 := n2.gg.trans n3.gg
      refine ⟨_, _, rfl, (g3.trans n3.gh).seq hs, fun p hp => ?_⟩
      have m := Nx.new (o := .lst (cutV xs lo hi)) n3.gh hp
      exact q _ _ _ (n.trans m) (.lst (SqL.of upd_same) (dpa_mono (g3.trans m.gg) _ (dpa_cut lo hi ha)))

/-! ### comprehensions: the list stands at D, apart from the view -/
structure LcI (K : PySem.W.Frag) (G1 H1 : Hp) (D : Addr) (ds : List PyData) (Hc : Hp) : Prop where
  ex : ∃ Gi acc, Nx G1 H1 Gi Hc ∧ Gi D = none ∧ Hc D = some (.lst acc) ∧ DpAll K Gi acc ds
theorem LcI.start {H1 : Hp} {D : Addr} (s : Same G1 H1) (hD : H1 D = none) : LcI K G1 H1 D [] (upd H1 D (.lst [])) :=
  ⟨G1, [], Nx.lay s hD, s.free hD, upd_same, .nil⟩
theorem LcI.fin {H1 Hc : Hp} {D : Addr} (hD : H1 D = none) (h : LcI K G1 H1 D ds Hc) : ∃ G', Nx G1 H1 G' Hc ∧ Dp K G' (.ref D) (.list ds) := by
  obtain ⟨Gi, acc, n, g, e, ha⟩ := h.ex
  have gi : Same Gi (upd Gi D (.lst acc)) := fun b u q => by rw [upd_ne (ne_of_none q g)]; exact q
  refine ⟨upd Gi D (.lst acc), ⟨n.gg.trans gi, fun b u q => ?_, n.hh, fun b hb => ?_⟩, .lst (SqL.of upd_same) (dpa_mono gi _ ha)⟩
  · by_cases hq : b = D
    · subst hq; rw [upd_same] at q; rw [e]; exact q
    · rw [upd_ne hq] at q; exact n.gh b u q
  · by_cases hq : b = D
    · subst hq; exact absurd hD hb
    · rw [upd_ne hq]; exact n.fr b hb
/-- a new list, apart from the view -/
def EvN (K : PySem.W.Frag) (te : TE) (σ : L2.St) (G : Hp) (ds : List PyData) : Prop := ∀ H, Same G H → ∀ Q : VK, (∀ p vs G' H', Nx G H G' H' → H p = none → G' p = none → H' p = some (.lst vs) → DpAll K G' vs ds → Q (.ref p) H') → te σ H Q
theorem Nx.tell {H G' H' : Hp} {p : Addr} {o : HO} (n : Nx G H G' H') (hp : H p = none) (gp : G' p = none) (e : H' p = some o) : Nx G H (upd G' p o) H' ∧ Same G' (upd G' p o) := by
  have gi : Same G' (upd G' p o) := fun b u q => by rw [upd_ne (ne_of_none q gp)]; exact q
  refine ⟨⟨n.gg.trans gi, fun b u q => ?_, n.hh, fun b hb => ?_⟩, gi⟩
  · by_cases hq : b = p
    · subst hq; rw [upd_same] at q; rw [e]; exact q
    · rw [upd_ne hq] at q; exact n.gh b u q
  · by_cases hq : b = p
    · subst hq; exact absurd hp hb
    · rw [upd_ne hq]; exact n.fr b hb
theorem EvN.toD (h : EvN K te σ G ds) : EvD K te σ G (.list ds) := fun H s Q q => h H s Q fun p vs G' H' n hp gp e ha => by
  obtain ⟨m, gi⟩ := n.tell hp gp e
  exact q _ _ _ m (.lst (SqL.of upd_same) (dpa_mono gi _ ha))
theorem EvN.mono (h : EvN K te σ G ds) (g : Same G G1) : EvN K te σ G1 ds := fun H s Q q => h H (g.trans s) Q fun p vs G' H' n hp gp e ha => by
  have hG1 : G1 p = none := s.free hp
  refine q p vs (fun a => match H a with | none => G' a | some _ => G1 a) H' ⟨fun a o ea => ?_, fun a o ea => ?_, n.hh, fun a ea => ?_⟩ hp (by simp only [hp]; exact gp) e (dpa_mono (fun a o ea => ?_) _ ha)
  · have := s a o ea
    simp only [this]; exact ea
  · cases q2 : H a with
    | none => simp only [q2] at ea; exact n.gh a o ea
    | some u =>
      simp only [q2] at ea
      exact n.hh a o (s a o ea)
  · cases q2 : H a with
    | none => exact absurd q2 ea
    | some u => rfl
  · cases q2 : H a with
    | none => simp only [q2]; exact ea
    | some u =>
      simp only [q2]
      rw [n.fr a (ne_none q2)] at ea
      exact g a o ea
theorem EvN.cast (h : EvN K te σ G ds) (e : ds = es) : EvN K te σ G es := e ▸ h
theorem en_lst (h : EvA K tA σ G ds) (hz : ds.length ≤ sizeLine) : EvN K (tLst tA) σ G ds := fun H s Q q =>
  h H s _ fun vs G1 H1 n1 hv => ⟨by rw [dpa_length hv]; exact hz, fun p hp => by
    have hp0 : H p = none := n1.hh.free hp
    refine q p vs G1 _ (n1.trans (Nx.lay n1.gh hp)) hp0 (n1.gh.free hp) upd_same hv⟩
theorem LcI.finN {H H1 Hc : Hp} {D : Addr} {Q : VK} (n1 : Nx G H G1 H1) (hD : H1 D = none) (h : LcI K G1 H1 D ds Hc) (q : ∀ p vs G' H', Nx G H G' H' → H p = none → G' p = none → H' p = some (.lst vs) → DpAll K G' vs ds → Q (.ref p) H') : Q (.ref D) Hc := by
  obtain ⟨Gi, acc, n, g, e, ha⟩ := h.ex
  exact q D acc Gi Hc (n1.trans n) (n1.hh.free hD) g e ha
/-- one turn: b the test's answer, then the element -/
theorem LcI.turn {H1 Hc : Hp} {D : Addr} {σ2 : L2.St} {b : Bool} {e : PyData} {Nxt : Hp → Prop} (hD : H1 D = none) (h : LcI K G1 H1 D ds Hc) (hz : ds.length < sizeLine)
    (ht : ∀ Gi, Same G1 Gi → EvB K tt σ2 Gi b) (he : b = true → ∀ Gi, Same G1 Gi → EvD K te σ2 Gi e)
    (hn : ∀ H', LcI K G1 H1 D (if b = true then ds ++ [e] else ds) H' → Nxt H') :
    tt σ2 Hc fun b H3 => if b = true then te σ2 H3 fun y H4 => ∃ acc, H4 D = some (.lst acc) ∧ acc.length < sizeLine ∧ Nxt (upd H4 D (.lst (acc ++ [y]))) else Nxt H3 := by
  obtain ⟨Gi, acc, n, g, e0, ha⟩ := h.ex
  refine ht Gi n.gg Hc n.gh _ fun G3 H3 n3 => ?_
  have hDc : Hc D ≠ none := ne_none e0
  have g3 : G3 D = none := (n3.fr D hDc).trans g
  have e3 : H3 D = some (.lst acc) := n3.hh D _ e0
  cases b with
  | false =>
    refine (show Nxt H3 from hn H3 ?_)
    exact ⟨G3, acc, n.trans n3, g3, e3, dpa_mono n3.gg _ ha⟩
  | true =>
    refine (show te σ2 H3 _ from he rfl G3 (n.gg.trans n3.gg) H3 n3.gh _ fun y G4 H4 n4 hy => ?_)
    have g4 : G4 D = none := (n4.fr D (ne_none e3)).trans g3
    refine ⟨acc, n4.hh D _ e3, by rw [dpa_length ha]; exact hz, hn _ ?_⟩
    have n14 := (n.trans n3).trans n4
    refine ⟨G4, acc ++ [y], ⟨n14.gg, fun b u q => ?_, fun b u q => ?_, n14.fr⟩, g4, upd_same, dpa_append (dpa_mono (n3.gg.trans n4.gg) _ ha) (.cons hy .nil)⟩
    · rw [upd_ne (ne_of_none q g4)]; exact n4.gh b u q
    · rw [upd_ne (ne_of_none q hD)]; exact n14.hh b u q
theorem fm_take {α β : Type} (f : α → Option β) (l : List α) (i : Nat) (a : α) (h : l[i]? = some a) : (l.take (i + 1)).filterMap f = (l.take i).filterMap f ++ (f a).toList := by
  have hi := (List.getElem?_eq_some_iff.mp h)
  obtain ⟨h1, h2⟩ := hi
  rw [List.take_succ, h, List.filterMap_append]
  cases hf : f a <;> simp [List.filterMap_cons, hf]
theorem en_lcT {i : Nat} {vs : List Nat} (f : PyData → Option PyData) (h : EvD K tl σ G (.tuple ds)) (hw : ∀ v, wipe ((wipe σ vs).set i (some v)) vs = wipe σ vs) (hz : ds.length ≤ sizeLine)
    (ht : ∀ d v Gi, d ∈ ds → Same G Gi → Dp K Gi v d → EvB K tt ((wipe σ vs).set i (some v)) Gi (f d).isSome)
    (he : ∀ d v e Gi, d ∈ ds → f d = some e → Same G Gi → Dp K Gi v d → EvD K te ((wipe σ vs).set i (some v)) Gi e) : EvN K (tLc (iTup K tl) (gName i) tt te vs) σ G (ds.filterMap f) := fun H s Q q =>
  h H s _ fun v G1 H1 n1 hv => by
    cases hv with
    | @tup a xs _ hs ha =>
      refine ⟨a, rfl, ⟨xs, same_tup n1.gh hs⟩, fun D hD => ?_⟩
      refine lc_tup (K := K) (a := a) (xs := xs) (fun k Hc => LcI K G1 H1 D ((ds.take k).filterMap f) Hc) (LcI.start n1.gh hD) (fun k Hc _ p => ?_) (fun k x Hc hk p => ?_) fun Hc p => ?_
      · obtain ⟨Gi, acc, n, _⟩ := p.ex
        exact same_tup (n1.gh.trans n.hh) hs
      · obtain ⟨dk, hdk, hdx⟩ := dpa_get ha hk
        have hm : dk ∈ ds := List.mem_of_getElem? hdk
        refine ⟨hw x, ?_⟩
        refine LcI.turn (b := (f dk).isSome) (e := (f dk).getD .none) hD p (Nat.lt_of_le_of_lt (List.length_filterMap_le _ _) ?_) (fun Gi g => ht dk x Gi hm (n1.gg.trans g) (dp_mono g _ hdx)) (fun hb Gi g => ?_) fun H' p' => ?_
        · have := (List.getElem?_eq_some_iff.mp hdk).1
          rw [List.length_take]; omega
        · obtain ⟨e, hee⟩ := Option.isSome_iff_exists.mp hb
          rw [hee]
          exact he dk x e Gi hm hee (n1.gg.trans g) (dp_mono g _ hdx)
        · rw [fm_take f ds k dk hdk]
          cases hf : f dk with
          | none => rw [hf] at p'; simpa using p'
          | some e => rw [hf] at p'; simpa using p'
      · rw [dpa_length ha, List.take_length] at p
        exact p.finN n1 hD q
theorem en_lcL {i : Nat} {vs : List Nat} (f : PyData → Option PyData) (h : EvD K tl σ G (.list ds)) (hw : ∀ v, wipe ((wipe σ vs).set i (some v)) vs = wipe σ vs) (hz : ds.length ≤ sizeLine)
    (ht : ∀ d v Gi, d ∈ ds → Same G Gi → Dp K Gi v d → EvB K tt ((wipe σ vs).set i (some v)) Gi (f d).isSome)
    (he : ∀ d v e Gi, d ∈ ds → f d = some e → Same G Gi → Dp K Gi v d → EvD K te ((wipe σ vs).set i (some v)) Gi e) : EvN K (tLc (iList K tl) (gName i) tt te vs) σ G (ds.filterMap f) := fun H s Q q =>
  h H s _ fun v G1 H1 n1 hv => by
    cases hv with
    | @lst a xs _ hs ha =>
      refine ⟨a, rfl, ⟨xs, n1.gh.seq hs⟩, fun D hD => ?_⟩
      refine lc_list (K := K) (a := a) (xs := xs) (fun k Hc => LcI K G1 H1 D ((ds.take k).filterMap f) Hc) (LcI.start n1.gh hD) (fun k Hc _ p => ?_) (fun k x Hc hk p => ?_) fun Hc p => ?_
      · obtain ⟨Gi, acc, n, _⟩ := p.ex
        exact (n1.gh.trans n.hh).seq hs
      · obtain ⟨dk, hdk, hdx⟩ := dpa_get ha hk
        have hm : dk ∈ ds := List.mem_of_getElem? hdk
        refine ⟨hw x, ?_⟩
        refine LcI.turn (b := (f dk).isSome) (e := (f dk).getD .none) hD p (Nat.lt_of_le_of_lt (List.length_filterMap_le _ _) ?_) (fun Gi g => ht dk x Gi hm (n1.gg.trans g) (dp_mono g _ hdx)) (fun hb Gi g => ?_) fun H' p' => ?_
        · have := (List.getElem?_eq_some_iff.mp hdk).1
          rw [List.length_take]; omega
        · obtain ⟨e, hee⟩ := Option.isSome_iff_exists.mp hb
          rw [hee]
          exact he dk x e Gi hm hee (n1.gg.trans g) (dp_mono g _ hdx)
        · rw [fm_take f ds k dk hdk]
          cases hf : f dk with
          | none => rw [hf] at p'; simpa using p'
          | some e => rw [hf] at p'; simpa using p'
      · rw [dpa_length ha, List.take_length] at p
        exact p.finN n1 hD q
theorem en_lcR {i : Nat} {vs : List Nat} {m : Int} (f : Nat → Option PyData) (h : EvD K tl σ G (.int m)) (hw : ∀ v, wipe ((wipe σ vs).set i (some v)) vs = wipe σ vs) (hm0 : -(2 ^ 62) ≤ m) (hz : m.toNat ≤ sizeLine)
    (ht : ∀ k Gi, k < m.toNat → Same G Gi → EvB K tt ((wipe σ vs).set i (some (.int k))) Gi (f k).isSome)
    (he : ∀ k e Gi, k < m.toNat → f k = some e → Same G Gi → EvD K te ((wipe σ vs).set i (some (.int k))) Gi e) : EvN K (tLc (iRng1 (tCons tl tNil)) (gName i) tt te vs) σ G ((List.range m.toNat).filterMap f) := fun H s Q q =>
  h H s _ fun v G1 H1 n1 hv => by
    rw [dp_int hv]
    refine ⟨m, rfl, hm0, ?_, fun D hD => ?_⟩
    · have : sizeLine ≤ 2 ^ 61 := by decide
      omega
    refine lc_range (lo := 0) (n := m.toNat) (fun k Hc => LcI K G1 H1 D ((List.range k).filterMap f) Hc) (LcI.start n1.gh hD) (fun k Hc hk p => ?_) fun Hc p => ?_
    · have e0 : (0 : Int) + (k : Int) = (k : Int) := by omega
      rw [e0]
      refine ⟨hw _, ?_⟩
      refine LcI.turn (b := (f k).isSome) (e := (f k).getD .none) hD p (Nat.lt_of_le_of_lt (List.length_filterMap_le _ _) (by rw [List.length_range]; omega)) (fun Gi g => ht k Gi hk (n1.gg.trans g)) (fun hb Gi g => ?_) fun H' p' => ?_
      · obtain ⟨e, hee⟩ := Option.isSome_iff_exists.mp hb
        rw [hee]
        exact he k e Gi hk hee (n1.gg.trans g)
      · rw [List.range_succ, List.filterMap_append]
        cases hf : f k with
        | none => rw [hf] at p'; simpa [List.filterMap_cons, hf] using p'
        | some e => rw [hf] at p'; simpa [List.filterMap_cons, hf] using p'
    · exact p.finN n1 hD q
theorem eb_yes : EvB K tYes σ G true := fun H s _ q => q G H (Nx.refl s)
/-- no test -/
theorem en_lcT1 {i : Nat} {vs : List Nat} (f : PyData → PyData) (h : EvD K tl σ G (.tuple ds)) (hw : ∀ v, wipe ((wipe σ vs).set i (some v)) vs = wipe σ vs) (hz : ds.length ≤ sizeLine)
    (he : ∀ d v Gi, d ∈ ds → Same G Gi → Dp K Gi v d → EvD K te ((wipe σ vs).set i (some v)) Gi (f d)) : EvN K (tLc (iTup K tl) (gName i) tYes te vs) σ G (ds.map f) :=
  (en_lcT (fun d => some (f d)) h hw hz (fun d v Gi _ _ _ => eb_yes) (fun d v e Gi hm e1 g hd => by cases e1; exact he d v Gi hm g hd)).cast (by rw [List.filterMap_eq_map'])
theorem en_lcL1 {i : Nat} {vs : List Nat} (f : PyData → PyData) (h : EvD K tl σ G (.list ds)) (hw : ∀ v, wipe ((wipe σ vs).set i (some v)) vs = wipe σ vs) (hz : ds.length ≤ sizeLine)
    (he : ∀ d v Gi, d ∈ ds → Same G Gi → Dp K Gi v d → EvD K te ((wipe σ vs).set i (some v)) Gi (f d)) : EvN K (tLc (iList K tl) (gName i) tYes te vs) σ G (ds.map f) :=
  (en_lcL (fun d => some (f d)) h hw hz (fun d v Gi _ _ _ => eb_yes) (fun d v e Gi hm e1 g hd => by cases e1; exact he d v Gi hm g hd)).cast (by rw [List.filterMap_eq_map'])
theorem en_lcR1 {i : Nat} {vs : List Nat} {m : Int} (f : Nat → PyData) (h : EvD K tl σ G (.int m)) (hw : ∀ v, wipe ((wipe σ vs).set i (some v)) vs = wipe σ vs) (hm0 : -(2 ^ 62) ≤ m) (hz : m.toNat ≤ sizeLine)
    (he : ∀ k Gi, k < m.toNat → Same G Gi → EvD K te ((wipe σ vs).set i (some (.int k))) Gi (f k)) : EvN K (tLc (iRng1 (tCons tl tNil)) (gName i) tYes te vs) σ G ((List.range m.toNat).map f) :=
  (en_lcR (fun d => some (f d)) h hw hm0 hz (fun k Gi _ _ => eb_yes) (fun k e Gi hk e1 g => by cases e1; exact he k Gi hk g)).cast (by rw [List.filterMap_eq_map'])
end
end Gw
namespace Gw
open PySem PySem.Spec PyProof.Rows L2

/-! ### a def as it stands, and its promise -/
structure DefAt (K : PySem.W.Frag) (mg : Str → Option Value) (x : Str) (st : Stmt) (ps : List Str) (f : Addr) (fd : FuncData) : Prop where
  F : Fun K x x st f fd
  m : mg x = some (.ref f)
  b : Binds K fd ps []
def Ok (P : Program) (w : World) (K : PySem.W.Frag) (mg : Str → Option Value) (base : Heap) (x : Str) (ps : List Str) (k : Nat) (sp : Sp) : Prop :=
  ∃ (f : Addr) (fd : FuncData), mg x = some (.ref f) ∧ PySem.W.keepIn K (.ref f) = true ∧ Binds K fd ps [] ∧ FnOk P w K mg base CX0 k f fd ps sp
theorem DefAt.ok {P : Program} {w : World} {K : PySem.W.Frag} {mg : Str → Option Value} {base : Heap} {x : Str} {st : Stmt} {ps : List Str} {f : Addr} {fd : FuncData} {k : Nat} {sp : Sp}
    (D : DefAt K mg x st ps f fd) (h : FnOk P w K mg base CX0 k f fd ps sp) : Ok P w K mg base x ps k sp := ⟨f, fd, D.m, D.F.kp, D.b, h⟩
theorem Ok.imp {P : Program} {w : World} {K : PySem.W.Frag} {mg : Str → Option Value} {base : Heap} {x : Str} {ps : List Str} {k : Nat} {sp sp' : Sp} (h : Ok P w K mg base x ps k sp)
    (i : ∀ vs H Q E, sp' vs H Q E → sp vs H Q E) : Ok P w K mg base x ps k sp' := by
  obtain ⟨f, fd, a, b, c, d⟩ := h
  exact ⟨f, fd, a, b, c, d.imp i⟩
/-- names of built-ins that the text leaves alone -/
structure Bt (mg : Str → Option Value) : Prop where
  len : mg "len" = none
  int : mg "int" = none
  bool : mg "bool" = none
  str : mg "str" = none
  list : mg "list" = none
  tuple : mg "tuple" = none
  dict : mg "dict" = none
  isinstance : mg "isinstance" = none
  all : mg "all" = none
  any : mg "any" = none
  abs : mg "abs" = none
  min : mg "min" = none
  max : mg "max" = none
  range : mg "range" = none
  enumerate : mg "enumerate" = none
  repr : mg "repr" = none
  sorted : mg "sorted" = none
section
variable {X : Cx} {x : Str} {ps ks : List Str} {k : Nat} {sp : Sp} {p pos : Pos} {e : Expr} {es : List Expr} {kws : List Keyword} {t tk : TA}
theorem pe_ok (h : Ok X.prog X.w X.K X.mg X.base x ps k sp) (hr : Room k X.A) (hg : Gl X x) (ha : PA X (e :: es) t) (hdb : (x == ("__debug__" : Str)) = false := by decide)
    (he : starEach (e :: es) X.env = (false, eval e X.env) :: starEach es X.env := by rfl) (hpl : (backTo pos (starEach es X.env)).any (·.1) = false := by rfl) :
    PE X (.Call (.Name x p) (e :: es) [] pos) (tCall sp [] E0 t) := by
  obtain ⟨f, fd, hm, hk, hb, F⟩ := h
  exact pe_call F hr hg hm hk hb .nil pass0 ha hdb he hpl
theorem pe_ok0 (h : Ok X.prog X.w X.K X.mg X.base x ps k sp) (hr : Room k X.A) (hg : Gl X x) (hdb : (x == ("__debug__" : Str)) = false := by decide) :
    PE X (.Call (.Name x p) [] [] pos) (tCall sp [] E0 tNil) := by
  obtain ⟨f, fd, hm, hk, hb, F⟩ := h
  exact pe_call0 F hr hg hm hk hb .nil pass0 hdb
end
end Gw
namespace Gw
open PySem PySem.Spec PyProof.Rows L2
/-! ### an error that a clause catches and keeps -/
/-- an error of the class cls, with its own dict d, stands at a -/
def ErrAt (cls : Value) (d : Option Addr) (a : Addr) (h : Heap) : Prop := ∃ (oe : Obj) (vs : Array Value), h.get? a = some oe ∧ Zc cls d oe ∧ oe.data = .fields vs
def ErrO (cls : Value) (d : Option Addr) (a : Addr) : HO := .ext (ErrAt cls d a)
theorem err_new {P : Program} {w : World} {H : Hp} {h : Heap} {a : Addr} {cls : Value} {d : Option Addr} (e : ErrAt cls d a h) : ObjOk P w H h a (ErrO cls d a) := by
  obtain ⟨oe, vs, q, r⟩ := e
  exact ⟨⟨oe, vs, q, r⟩, ⟨oe, q⟩, fun h1 h2 ⟨o, v, q1, r1⟩ k => ⟨o, v, k o q1, r1⟩⟩
section
variable {X : Cx} {pins : List (Addr × Obj)} {σ : L2.St} {H : Hp} {s : Shared}
/-- what is pinned, and new since the beginning, is told of from now on -/
theorem Inv_track {a : Addr} {oe : Obj} {u : HO} (J : Inv X ((a, oe) :: pins) σ H s) (h0 : X.s_0.heap.get? a = none) (np : ∀ p ∈ X.pn ++ pins, p.1 ≠ a) (new : ObjOk X.prog X.w (upd H a u) s.heap a u) : Inv X pins σ (upd H a u) s := by
  have mine := J.pin (a, oe) (List.mem_append_right _ List.mem_cons_self)
  have hn : H a = none := mine.2.1
  have old : ∀ b o, X.s_0.heap.get? b = some o → b ≠ a := fun b o e z => by rw [z, h0] at e; cases e
  refine ⟨J.ok, J.os, J.bare, ⟨J.base.keep, J.base.slot, fun b o e n hx => ?_, J.base.there, fun b xs e => ?_, fun b o v e => ?_, fun b ps e => ?_⟩, J.loc, J.cell, ?_, fun x c e => ?_, fun p hp => ?_, J.hok.laidN (fun _ _ z => z) hn new, J.len⟩
  · exact (upd_ne (old b o e)).trans (J.base.free b o e n hx)
  · have := J.base.tups b xs e
    exact (upd_ne (ne_of_none this hn)).trans this
  · have := J.base.frzs b o v e
    exact (upd_ne (ne_of_none this hn)).trans this
  · obtain ⟨more, this⟩ := J.base.tbls b ps e
    exact ⟨more, (upd_ne (ne_of_none this hn)).trans this⟩
  · exact (upd_ne (Ne.symm mine.2.2.1)).trans J.free
  · refine (upd_ne fun z => ?_).trans (J.freeC x c e)
    obtain ⟨v, o, ho, hd⟩ := J.cell x c e
    rw [z, mine.1] at ho
    cases ho
    exact mine.2.2.2.2 _ hd
  · have hp' : p ∈ X.pn ++ ((a, oe) :: pins) := by
      rcases List.mem_append.mp hp with z | z
      · exact List.mem_append_left _ z
      · exact List.mem_append_right _ (List.mem_cons_of_mem _ z)
    obtain ⟨q1, q2, q3⟩ := J.pin p hp'
    exact ⟨q1, (upd_ne (np p hp)).trans q2, q3⟩
end
/-- what «except x as n: y = n» wishes of an error of the body; slots i of n, j of y -/
def wKeep (K : PySem.W.Frag) (c : Value) (i j : Nat) (Wout : WX) (D : Ends) : WX := fun cls d σ H =>
  ∃ b, PySem.W.exmOne K cls c = some b ∧ (b = true → ∀ a, H a = none → D.nx (((σ.set i (some (.ref a))).set j (some (.ref a))).set i none) (upd H a (ErrO cls d a))) ∧ (b = false → Wout cls d σ H)
section
variable {X : Cx} {x n y : Str} {c : Value} {i j : Nat} {body : List Stmt} {np yp ep ap pos pos' : Pos} {tb : WX → TS} {Wout : WX}
theorem ps_keep (hs : X.stack = X.env :: X.outer) (hf : X.env.frame = some X.env.locals) (hex : X.ex = []) (hN : X.N.Nodup) (hi : X.N[i]? = some n) (hln : X.env.kindOf n = some .local) (hj : X.N[j]? = some y) (hjl : X.env.scope.names.lookup y = some .local)
    (hvn : Vis X.env.scope n) (hdn : (n == ("__debug__" : Str)) = false) (hcn : (n == ("__classdict__" : Str)) = false) (hsw : ∀ Y : Cx, Y.env = X.env → swapsWith (.Name n ep) (some (.Name y yp)) ap.line Y.env = pure false) (hlen : i < X.N.length) (hc : Names X x c) (tk : Takes X Wout)
    (hb : ∀ (W : WX) (pn : List (Addr × Obj)) (xe : Value → Shared → Prop), Takes (X.tr pn xe) W → PassesOwn (model X.prog X.w) X.A X.env xe → PSs (X.tr pn xe) body (tb W)) :
    PS X (.Try body [.ExceptHandler (some (.Name x np)) (some n) [.Assign [.Name y yp] (.Name n ep) ap] pos'] [] [] pos) (fun D σ H => tb (wKeep X.K c i j Wout D) D σ H) := by
  refine ⟨fun pins s σ H D I h => ?_⟩
  have okX := I.ok
  have frames : X.A.frames = some (X.env :: X.outer) := okX.frames.trans (congrArg some hs)
  refine wpAny_Try_except ?_
  have run := (hb (wKeep X.K c i j Wout D) (X.pn ++ pins) (fun e s₁ => wpAny (model X.prog X.w) X.A (noteFrame e X.env) (fun _ s₂ => wpAny (model X.prog X.w) X.A (setFlight e none) (fun _ s₃ =>
    wpAny (model X.prog X.w) X.A (handleBy e X.env [.ExceptHandler (some (.Name x np)) (some n) [.Assign [.Name y yp] (.Name n ep) ap] pos']) (SP X pins D) X.xe s₃) X.xe s₂) X.xe s₁) ?caught PassesOwn.looking).run [] s σ H D (I.toTry _) h
  case caught =>
    rintro u s' ⟨a, B, sI, pins', σ', H', cls, d, rfl, Jt, ground, up, sky, na, os, ag, b, hmatch, hyes, hno⟩
    have J : Inv X pins σ' H' sI := Jt.ofTry okX
    rw [show X.tr (X.pn ++ pins) _ = X.tr (X.pn ++ pins) _ from rfl] at sky
    have sky1 : Sky B (X.env :: X.outer) a (Zc cls d) X.env.locals s'.heap := by rw [← hs]; exact sky
    show wpAny (model X.prog X.w) X.A (noteFrame (.ref a) X.env) _ _ _
    refine Sky.land Zc.steady frames hf sky1 fun g fly upg => ?_
    have Jg : Inv X pins σ' H' { s' with heap := g } := J.landed ground fly.1 (up.trans upg) os ag
    obtain ⟨oe, vs, at1, z1, dat⟩ := fly.there
    have aFr : a ∉ frs (X.env :: X.outer) := fun hm => by
      obtain ⟨_, o1, q1, notF⟩ := fly.2.2.1.mem hm
      rw [at1] at q1
      cases q1
      exact notF _ dat
    have aL : a ≠ X.env.locals := fun z => aFr (List.mem_filterMap.mpr ⟨X.env, List.mem_cons_self, hf.trans (congrArg some z.symm)⟩)
    have aF : a ∉ X.fs := fun hm => by
      obtain ⟨e, he, q⟩ := List.mem_filterMap.mp hm
      exact aFr (List.mem_filterMap.mpr ⟨e, List.mem_cons_of_mem _ he, q⟩)
    have none_I : sI.heap.get? a = none := by
      cases q : sI.heap.get? a with
      | none => rfl
      | some o =>
        have := ground a o q (by rw [hs]; exact aFr)
        rw [fly.2.1] at this
        cases this
    have none_0 : X.s_0.heap.get? a = none := by
      cases q : X.s_0.heap.get? a with
      | none => rfl
      | some o =>
        obtain ⟨o', q'⟩ := J.base.there a o q (by rw [hex]; exact List.not_mem_nil)
        rw [none_I] at q'
        cases q'
    have pinsOff : ∀ p ∈ X.pn ++ pins, p.1 ≠ a := fun p hp z => by
      have := (J.pin p hp).1
      rw [z, none_I] at this
      cases this
    have Sg := Jg.suite at1 dat na aL aF
    refine wpAny_handleBy_cons (codeAny_handlers_test ?_) (fun q => nomatch q)
    have clsOf : PySem.W.Looks (model X.prog X.w) g (typeOf (.ref a)) cls := fun A Q E s k q => wpAny_typeOf_ref (k _ _ at1) (by rw [z1.1]; exact q)
    have asks := PySem.W.exm_one (M := model X.prog X.w) Jg.kIn clsOf hmatch
    have name : ∀ {Q : Value → Shared → Prop} {E : Value → Shared → Prop}, Q c { s' with heap := g } → wpAny (model X.prog X.w) (X.A.mark (some (.ref a))) (eval (.Name x np) X.env) Q E { s' with heap := g } := fun {Q E} q => by
      rcases hc with ⟨hg, hdbg, hm | ⟨hm, hv, hnn⟩⟩
      · exact ld_glob (X := X.suite a ((a, oe) :: (X.pn ++ pins))) Sg hg hm q hdbg
      · exact ld_blt (X := X.suite a ((a, oe) :: (X.pn ++ pins))) Sg hg hm hv q hnn hdbg
    refine name (asks.here ?_)
    cases b with
    | true =>
      refine codeAny_handlers_suite_as ?_
      refine HandSPX.lands_againZ fly fun g2 fly2 up2 => ?_
      have J2 : Inv X pins σ' H' { s' with heap := g2 } := J.landed ground fly2.1 ((up.trans upg).trans up2) os ag
      obtain ⟨oe2, vs2, at2, z2, dat2⟩ := fly2.there
      refine store_ok (X := X.suite a ((a, oe2) :: (X.pn ++ pins))) (v := .ref a) (J2.suite at2 dat2 na aL aF) hN hi (.inl hln) rfl (fun s5 S5 => ?_) (.inr hln)
      have one := (pss_one (ps_set (X := X.suite a ((a, oe2) :: (X.pn ++ pins))) (pos := ap) (pos' := yp) (i := j) hN hj (.inl hjl) (pe_var (pos := ep) (i := i) hi hvn hdn hcn) (hsw _ rfl) (.inr hjl))).run [] s5 _ H' { nx := fun σ6 H6 => σ6 = (σ'.set i (some (.ref a))).set j (some (.ref a)) ∧ H6 = H', rt := fun _ _ => False } S5
        ⟨.ref a, by rw [List.getElem?_set_self (by rw [J.len]; exact hlen)], rfl, rfl⟩
      refine wpAny_mono one (fun f s6 sp => ?_) (fun _ _ z => False.elim z)
      cases f with
      | next =>
        obtain ⟨σ6, H6, S6, rfl, rfl⟩ := sp
        have pinned := S6.pin (a, oe2) (List.mem_append_left _ List.mem_cons_self)
        have Jp : Inv X ((a, oe2) :: pins) ((σ'.set i (some (.ref a))).set j (some (.ref a))) H6 s6 := (S6.unsuite okX).pins_of fun p hp => by
          rcases List.mem_cons.mp hp with e | hp
          · rw [e]; exact pinned
          · exact (S6.unsuite okX).pin p (List.mem_append_right _ hp)
        exact gone_ok Jp hN hi hln fun s7 J7 => ⟨_, _, Inv_track J7 none_0 pinsOff (err_new ⟨oe2, vs2, (J7.pin (a, oe2) (List.mem_append_right _ List.mem_cons_self)).1, z2, dat2⟩), hyes rfl a na⟩
      | brk => obtain ⟨_, _, _, z⟩ := sp; exact False.elim z
      | cont => obtain ⟨_, _, _, z⟩ := sp; exact False.elim z
      | ret u => obtain ⟨_, _, _, _, _, z⟩ := sp; exact False.elim z
    | false =>
      show wpAny _ X.A (handleBy (.ref a) X.env []) _ _ _
      refine wpAny_handleBy_nil ?_
      have fly0 := fly
      obtain ⟨_, _, _, oe', vs', T, oT, ts', at', zz, dat', f1, _⟩ := fly
      unfold PySem.passOn
      refine wpAny_bind (wpAny_field at' dat' f1 ?_)
      rw [if_neg (by simp : ¬ ((Value.ref T == Value.none) = true))]
      have out : wpAny (model X.prog X.w) X.A (setFlight (.ref a) X.env.frame) (fun _ s4 => wpAny (model X.prog X.w) X.A (throw (.ref a) : Sem Flow) (SP X pins D) X.xe s4) X.xe { s' with heap := g } := by
        rw [hf]
        refine HandSPX.setFlight_upZ fly0 fun g2 held up2 => wpAny_throw (tk _ _ ?_)
        exact ⟨a, B, sI, pins, σ', H', cls, d, rfl, J, ground, (up.trans upg).trans up2, .inr (.inr (by rw [hs]; exact held)), na, os, ag, hno rfl⟩
      first
        | exact wpAny_bind (wpAny_pure (wpAny_bind out))
        | exact wpAny_bind out
  refine wpAny_mono run (fun f s1 sp => ?_) fun _ _ z => z
  cases f with
  | next => obtain ⟨σ', H', J', q⟩ := sp; exact wpAny_execs_nil ⟨σ', H', J'.ofTry okX, q⟩
  | brk => obtain ⟨σ', H', J', q⟩ := sp; exact ⟨σ', H', J'.ofTry okX, q⟩
  | cont => obtain ⟨σ', H', J', q⟩ := sp; exact ⟨σ', H', J'.ofTry okX, q⟩
  | ret u => obtain ⟨v, σ', H', J', r, q⟩ := sp; exact ⟨v, σ', H', J'.ofTry okX, r, q⟩
end
end Gw
namespace Gw
open PySem PySem.Spec PyProof.Rows L2
open PySem.AutoSeq1 (wpAny_loadPart')
/-! ### enumerate(a tuple) -/
abbrev tupItO (l : Addr) : Obj := { cls := .type "tuple_iterator", data := .fields #[.ref l, .int 0 0] }
abbrev enO (i : Addr) : Obj := { cls := .type "enumerate", data := .fields #[.none, .bool false, .ref i, rawInt 0, .none, .none] }
set_option maxHeartbeats 1000000 in
theorem en_meets (l : Addr) (its : Array Value) (n : Nat) (dd : Option Addr) (sl : Array (Option Value)) :
    Meets (Builtin.«enumerate.__new__» ⟨[.type "enumerate", .ref l], []⟩)
      (fun _ R s => s.heap.get? l = some { cls := .type "tuple", dict := dd, data := .seq its n, slots := sl } ∧ R (.ok (.ret (.ref (s.heap.push (tupItO l)).objs.size))) { s with heap := (s.heap.push (tupItO l)).push (enO s.heap.objs.size) }) :=
  .of_wp fun pr w A R s hyp => by
    obtain ⟨hp, g, d, tk, os⟩ := s; obtain ⟨hl, hq⟩ := hyp
    have hsub := PySem.sub_enumerate
    have hT : Heap.IsTuple (Shared.heap ⟨hp, g, d, tk, os⟩) l its := ⟨_, hl, rfl, n, rfl⟩
    wp_walk using wpAny_loadPart' hl
    refine wpAny_stack_any fun st => wpAny_pure ?_
    split
    · rename_i c _ _ _ _ _
      cases (c == Value.type "enumerate") <;> (wp_walk using wpAny_loadPart' hl, wpAny_pyIter_tuple hT; exact ⟨_, rfl, hq⟩)
    · wp_walk using wpAny_loadPart' hl, wpAny_pyIter_tuple hT
      exact ⟨_, rfl, hq⟩
theorem call_enT {prog : Program} {w : World} {A : Around} {E : Value → Shared → Prop} {s : Shared} {l : Addr} {its : Array Value} {Q : Value → Shared → Prop} (hT : s.heap.IsTuple l its)
    (h : ∀ h', IsEnum h' (s.heap.objs.size + 1) s.heap.objs.size 0 .none → h'.IsTupleIter s.heap.objs.size l 0 → (∀ b o, s.heap.get? b = some o → h'.get? b = some o) → Q (.ref (s.heap.objs.size + 1)) { s with heap := h' }) :
    wpAny (model prog w) A (call (.type "enumerate") [.ref l]) Q E s := by
  obtain ⟨⟨c, dd, dt, sl⟩, hl, hc, n, hd⟩ := hT
  have hc : c = .type "tuple" := hc
  have hd : dt = .seq its n := hd
  subst hc hd
  refine callType_new F.called_enumerate (by decide) (F.typeCall_enumerate_1 _) (F.newCall_enumerate_1 _) (fun obj => F.args_object_init_2 obj _) F.entry_enumerate_new (en_meets l its n dd sl) ⟨hl, ?_⟩
  have hz : (s.heap.push (tupItO l)).objs.size = s.heap.objs.size + 1 := Heap.size_push ..
  show _ ∧ _
  rw [hz]
  have he : IsEnum ((s.heap.push (tupItO l)).push (enO s.heap.objs.size)) (s.heap.objs.size + 1) s.heap.objs.size 0 .none := by
    have q := Heap.get?_push_size (s.heap.push (tupItO l)) (o := enO s.heap.objs.size) rfl
    rw [hz] at q
    exact q
  exact ⟨⟨_, he, rfl⟩, h _ he ⟨_, Heap.get?_push_of_some _ (Heap.get?_push_size _ rfl), rfl, rfl⟩ fun b o z => Heap.get?_push_of_some _ (Heap.get?_push_of_some _ z)⟩
def IteT (K : PySem.W.Frag) (a : Addr) : It :=
  ⟨fun i H => ∃ (xs : List V) (x : V), SqT K H a xs ∧ xs[i]? = some x,
   fun i H v H' => ∃ T x, v = .ref T ∧ H T = none ∧ H' = upd H T (.tup [.int (i : Nat), x]) ∧ ∀ xs, SqT K H a xs → xs[i]? = some x,
   fun i H => ∃ xs : List V, SqT K H a xs ∧ xs.length = i⟩
theorem turn_enT {P : Program} {w : World} {K : PySem.W.Frag} {elts : List Expr} {kk : Nat} {tpos : Pos} (a e it : Addr) :
    Turn P w K (.Tuple elts kk tpos) (IteT K a) [e, it] e (fun i h => (∃ old, IsEnum h e it ((i : Nat) : Int) old) ∧ h.IsTupleIter it a i ∧ e ≠ it) where
  mem := List.mem_cons_self
  obj := fun i h st b hb => by
    obtain ⟨⟨old, he⟩, ⟨o, ho, hc, hd⟩, _⟩ := st
    rcases List.mem_cons.mp hb with z | hb
    · rw [z]; exact ⟨_, he, fun v q => by cases q⟩
    · rw [List.mem_singleton.mp hb]
      exact ⟨o, ho, fun v q => by rw [hd] at q; cases q⟩
  keep := fun i h h' st k => let ⟨⟨old, he⟩, hi, hne⟩ := st; ⟨⟨old, k e List.mem_cons_self _ he⟩, hi.at fun o q => k it (by simp) o q, hne⟩
  item := by
    intro X hP hw hK hc i pn s τ H Ex I hf st hg
    subst hP hw hK
    obtain ⟨⟨old, he⟩, hit, hne⟩ := st
    obtain ⟨xs, x, hq, hx⟩ := hg
    obtain ⟨its, rv, p, hz⟩ := I.tuple hq
    obtain ⟨u, hu, ru⟩ := rv.get hx
    have hT : s.heap.IsTuple a its.toArray := p
    have hel : e < s.heap.objs.size := Heap.lt_size he
    have hil : it < s.heap.objs.size := by obtain ⟨_, q, _⟩ := hit; exact Heap.lt_size q
    have hta : a ≠ it := fun z => by
      obtain ⟨o1, h1, h2, _⟩ := p
      obtain ⟨o2, h3, h4, _⟩ := hit
      rw [z, h3] at h1
      cases h1
      rw [h4] at h2
      exact absurd (Value.type.inj h2) (by decide)
    have hea : e ≠ a := fun z => by
      obtain ⟨o1, h1, h2, _⟩ := p
      rw [← z, show s.heap.get? e = _ from he] at h1
      cases h1
      exact absurd (Value.type.inj h2) (by decide)
    have hlt : i < its.toArray.size := by
      have := (List.getElem?_eq_some_iff.mp hu).1
      rw [List.size_toArray]; exact this
    refine wpAny_pyNext_enum_itemD (Draws.tuple (A := X.A.in1) (I.ok.hd hc) it a hta its.toArray) he ⟨hit, hT⟩ hlt hne (by simp; exact ⟨hne, hea⟩) fun y h' tk hy ho hst' hTn hsz hk => ?_
    have ey : y = u := by
      have : its.toArray[i]? = some u := by simpa using hu
      rw [this] at hy
      exact (Option.some.inj hy).symm
    subst ey
    refine ⟨_, rfl, wpAny_letOwnedTupleGo_enum (s := { s with heap := h', toks := tk + 1 }) ho fun h'' he' sb => ?_⟩
    have hT2 : h''.get? s.heap.objs.size = some { cls := .type "tuple", data := .seq #[.int i tk, y] } := (sb.2 _ (Nat.ne_of_gt hel)).trans hTn
    have fresh : ObjOk X.prog X.w (upd H s.heap.objs.size (.tup [.int (i : Nat), x])) h'' s.heap.objs.size (.tup [.int (i : Nat), x]) :=
      ⟨by show 2 ≤ sizeLine; decide, [.int i tk, y], .cons ⟨_, rfl⟩ (.cons ru .nil), ⟨_, hT2, rfl, _, rfl⟩⟩
    have I1 : Inv X pn τ (upd H s.heap.objs.size (.tup [.int (i : Nat), x])) { s with heap := h'', toks := tk + 1 } :=
      I.turnedNew (ch := [e, it]) (fun b ob hb q => (sb.2 b (fun z => hb (z ▸ List.mem_cons_self))).trans (hk b ob (fun z => hb (z ▸ List.mem_cons_self)) (fun z => hb (by simp [z])) q)) hf (Nat.le_refl _) fresh
    refine ⟨.ref s.heap.objs.size, _, I1, rfl, ⟨_, x, rfl, I.hok.fresh (Nat.le_refl _), rfl, fun ys hy => by rw [I.tuple_inj hy hq]; exact hx⟩, ⟨⟨y, ?_⟩, hst'.1.at fun o q => (sb.2 it (Ne.symm hne)).trans q, hne⟩, fun b hb => ?_⟩
    · have e1 : ((i + 1 : Nat) : Int) = (i : Int) + 1 := by omega
      rw [e1]
      exact he'
    · have hb' : b < s.heap.objs.size := by
        rcases List.mem_cons.mp hb with z | hb
        · exact z ▸ hel
        · exact (List.mem_singleton.mp hb) ▸ hil
      rw [upd_ne (Nat.ne_of_lt hb')]
      exact (hf b hb).1
  done := by
    intro X hP hw hK hc i pn s τ H Ex I hf st hg
    subst hP hw hK
    obtain ⟨⟨old, he⟩, hit, hne⟩ := st
    obtain ⟨xs, hq, hx⟩ := hg
    obtain ⟨its, rv, p, hz⟩ := I.tuple hq
    have hl := rv.length
    have hta : a ≠ it := fun z => by
      obtain ⟨o1, h1, h2, _⟩ := p
      obtain ⟨o2, h3, h4, _⟩ := hit
      rw [z, h3] at h1
      cases h1
      rw [h4] at h2
      exact absurd (Value.type.inj h2) (by decide)
    have hn : its.toArray.size = i := by rw [List.size_toArray]; omega
    obtain ⟨f0, f1, f2, f3, f4, f5⟩ := hf it (by simp)
    exact wpAny_pyNext_enum_endD (Draws.tuple (A := X.A.in1) (I.ok.hd hc) it a hta its.toArray) he ⟨by rw [hn]; exact hit, p⟩ fun h' eb => ⟨rfl, I.turned (t' := s.toks) (fun b o hb q => eb b o hb q) f0 f1 f3 f4 f5⟩
  self := fun A i s Q E st h => let ⟨⟨_, he⟩, _⟩ := st; wpAny_pyIter_enum he h
def iEnT (K : PySem.W.Frag) (ta : TA) : TI := fun σ H R => ta σ H fun vs H1 => ∃ a xs, vs = [.ref a] ∧ SqT K H1 a xs ∧ R (IteT K a) H1
theorem pi_enumT {X : Cx} {e : Expr} {ta : TA} {p pos tpos : Pos} {elts : List Expr} {kk : Nat} (hg : Gl X "enumerate") (hm : X.mg "enumerate" = none) (ha : PA X [e] ta) (hs : starEach [e] X.env = [(false, eval e X.env)] := by rfl) :
    PI X (.Tuple elts kk tpos) (.Call (.Name "enumerate" p) [e] [] pos) (iEnT X.K ta) := by
  refine ⟨fun pn s τ H R I hyp => ?_⟩
  refine Call_ (ld_blt I hg hm boot_enumerate (PyProof.Rows.callWith_type1 (thn (ha.run pos pn s τ H _ I hyp) fun us s1 ⟨vs, H1, I1, r1, q1⟩ => ?_) hs rfl))
  obtain ⟨a, xs, ex, hq, q⟩ := q1
  subst ex
  obtain _ | ⟨r, _ | _⟩ := r1
  cases r
  obtain ⟨its, rv, p', hz⟩ := I1.tuple hq
  refine call_enT (its := its.toArray) p' fun h' he hit hk => wpAny_pyIter_enum he ?_
  have I2 : Inv X pn τ H1 { s1 with heap := h' } := I1.kept (t' := s1.toks) hk
  refine ⟨s1.heap.objs.size + 1, [s1.heap.objs.size + 1, s1.heap.objs.size], _, _, H1, rfl, I2, turn_enT a (s1.heap.objs.size + 1) s1.heap.objs.size, ⟨⟨.none, he⟩, hit, Nat.succ_ne_self _⟩, fun b hb => ?_, q⟩
  have hle : s1.heap.objs.size ≤ b := by
    rcases List.mem_cons.mp hb with z | hb
    · exact z ▸ Nat.le_add_right _ _
    · exact (List.mem_singleton.mp hb) ▸ Nat.le_refl _
  exact I1.fpOk hle (I1.hok.fresh hle)
theorem walk_enT {K : PySem.W.Frag} {a : Addr} {xs : List V} : Walk (IteT K a) xs.length (fun H => SqT K H a xs) (YPair (fun i => some (.int (i : Nat))) (fun i => xs[i]?)) := by
  refine ⟨fun i _ hi q => ⟨xs, xs[i], q, by simp [hi]⟩, fun _ q => ⟨xs, q, rfl⟩, fun i H v H' _ q y => ?_⟩
  obtain ⟨T, x, h1, h2, h3, h4⟩ := y
  exact ⟨T, .int (i : Nat), x, h1, h2, h3, rfl, h4 xs q⟩
end Gw
namespace Gw
open PySem PySem.Spec PyProof.Rows L2
/-! ### t[::-1] of a tuple -/
section
variable {prog : Program} {w : World} {A : Around} {E : Value → Shared → Prop} {s : Shared}
theorem adj_rev (n : Nat) : Builtin.Slice.sliceAdjust none none (-1) (n : Int) = ((n : Int) - 1, -1) := by
  unfold Builtin.Slice.sliceAdjust
  have h1 : ((-1 : Int) < 0) := by omega
  simp only [h1, if_true]
theorem places_rev (n : Nat) : Builtin.Slice.slicePlaces ((n : Int) - 1) (-1) (-1) = n := by
  unfold Builtin.Slice.slicePlaces
  have h1 : ¬ ((-1 : Int) > 0) := by omega
  simp only [h1, if_false]
  have h2 : ∀ z : Int, z / (- -1) = z := fun z => by rw [show (- -1 : Int) = 1 from rfl, Int.ediv_one]
  split
  · rw [h2]; omega
  · omega
theorem fm_congr {α β : Type} {f g : α → Option β} : ∀ (l : List α), (∀ a ∈ l, f a = g a) → l.filterMap f = l.filterMap g
  | [], _ => rfl
  | a :: l, h => by
    rw [List.filterMap_cons, List.filterMap_cons, h a List.mem_cons_self, fm_congr l fun b hb => h b (List.mem_cons_of_mem _ hb)]
theorem applied_rev {sl : Addr} {t : Tok} {n : Nat} {Q : Int × Int × Nat → Shared → Prop} (hs : s.heap.IsSliceOf sl .none .none (.int (-1) t)) (h : Q ((n : Int) - 1, -1, n) s) :
    wpAny (model prog w) A (Builtin.Slice.sliceApplied (.ref sl) (pure (n : Int))) Q E s := by
  obtain ⟨os, ho, hc, hd⟩ := id hs
  unfold Builtin.Slice.sliceApplied Builtin.Slice.sliceFields
  refine wpAny_bind (wpAny_bind (wpAny_field ho hd (x := .none) rfl (wpAny_bind (wpAny_field ho hd (x := .none) rfl (wpAny_bind (wpAny_field ho hd (x := .int (-1) t) rfl (wpAny_pure ?_)))))))
  refine wpAny_bind (HT.slicePart_ (.int (-1) t) ?_)
  show wpAny _ _ (if ((-1 : Int) == 0) = true then _ else _) _ _ s
  rw [if_neg (by decide)]
  refine wpAny_bind (HT.slicePart_ .none (wpAny_bind (HT.slicePart_ .none (wpAny_bind (wpAny_pure ?_)))))
  show wpAny _ _ (match Builtin.Slice.sliceAdjust none none (-1) (n : Int) with | (lo, hi) => pure (lo, (-1 : Int), Builtin.Slice.slicePlaces lo hi (-1))) _ _ s
  rw [adj_rev n]
  show wpAny _ _ (pure ((n : Int) - 1, (-1 : Int), Builtin.Slice.slicePlaces ((n : Int) - 1) (-1) (-1))) _ _ s
  rw [places_rev]
  exact wpAny_pure h
theorem pick_rev (xs : Array Value) : ((List.range xs.size).filterMap fun (k : Nat) => xs[(((xs.size : Nat) : Int) - 1 + (k : Int) * (-1)).toNat]?).toArray = xs.toList.reverse.toArray := by
  congr 1
  apply List.ext_getElem?
  intro i
  have e : (List.range xs.size).filterMap (fun (k : Nat) => xs[(((xs.size : Nat) : Int) - 1 + (k : Int) * (-1)).toNat]?) = (List.range xs.size).map (fun k => xs.getD (xs.size - 1 - k) .none) := by
    rw [← List.filterMap_eq_map']
    refine fm_congr _ fun k hk => ?_
    have hk := List.mem_range.mp hk
    have e2 : (((xs.size : Nat) : Int) - 1 + (k : Int) * (-1)).toNat = xs.size - 1 - k := by omega
    rw [e2]
    have h3 : xs.size - 1 - k < xs.size := by omega
    rw [Array.getElem?_eq_getElem h3]
    simp [Array.getD, h3]
  rw [e]
  by_cases hi : i < xs.size
  · have h3 : xs.size - 1 - i < xs.size := by omega
    rw [List.getElem?_map, List.getElem?_range hi, List.getElem?_reverse (by simpa using hi)]
    simp [Array.getD, h3]
  · rw [List.getElem?_eq_none (by simp; omega), List.getElem?_eq_none (by simp; omega)]
theorem getItem_tup_rev {t sl : Addr} {items : Array Value} {u : Tok} {Q : Value → Shared → Prop} (ht : IsTup s.heap t items) (hs : s.heap.IsSliceOf sl .none .none (.int (-1) u))
    (h : Q (.ref s.heap.objs.size) { s with heap := s.heap.push { cls := .type "tuple", data := .seq items.toList.reverse.toArray } }) (hsz : items.size ≤ sizeLine) :
    wpAny (model prog w) A (getItem (.ref t) (.ref sl)) Q E s := by
  have hz : sizeOk (.seq items.toList.reverse.toArray) := by
    show items.toList.reverse.toArray.size ≤ sizeLine
    rw [List.size_toArray, List.length_reverse, Array.length_toList]
    exact hsz
  obtain ⟨os, ho, hc, hd⟩ := id hs
  have hTs : s.TypeIs (.ref sl) "slice" := ⟨os, ho, hc⟩
  unfold getItem
  try with_reducible refine wpAny_holding ?_
  first | refine wpAny_bind (wpAny_pure ?_) | skip
  refine wpAny_bind (wpAny_sequenceKey ht.typeIs (by decide) ?_)
  refine wpAny_bind (wpAny_callSpecial?_slot (name := Str.ofString "__getitem__") ht.typeIs PyProof.Rows.slot_tuple_getitem (wpAny_call_entry PyProof.Rows.slot_tuple_getitem ht.typeIs entry_tuple_getitem ?_ (args_tuple_getitem _ _)))
  show wpAny _ _ (Builtin.Tuple.tupleItemsOf (.ref t) >>= _) _ _ s
  refine wpAny_bind (tupleItemsOf_ ht ?_)
  refine wpAny_bind (wpAny_typeOf hTs ?_)
  rw [if_pos (by decide)]
  refine wpAny_bind (applied_rev hs ?_)
  have hno : ¬ ((((items.size : Nat) : Int) - 1 == 0 && (-1 : Int) == 1 && items.size == items.size) = true) := by
    intro q
    rw [Bool.and_eq_true, Bool.and_eq_true] at q
    exact absurd q.1.2 (by decide)
  show wpAny _ _ (if (((items.size : Nat) : Int) - 1 == 0 && (-1 : Int) == 1 && items.size == items.size) = true then _ else _) _ _ s
  rw [if_neg hno, pick_rev]
  first
    | exact wpAny_bind (m := Builtin.Tuple.tupleExact _) (wpAny_newObj_type (wpAny_pure ⟨_, rfl, wpAny_pure h⟩) hz)
    | exact wpAny_bind (m := Builtin.Tuple.tupleExact _) (wpAny_newObj_type (wpAny_bind (wpAny_pure (wpAny_pure ⟨_, rfl, wpAny_pure h⟩))) hz)
    | exact wpAny_bind (wpAny_bind (m := Builtin.Tuple.tupleExact _) (wpAny_newObj_type (wpAny_pure (wpAny_pure ⟨_, rfl, wpAny_pure h⟩)) hz))
    | exact wpAny_bind (wpAny_bind (m := Builtin.Tuple.tupleExact _) (wpAny_newObj_type (wpAny_pure ⟨_, rfl, wpAny_pure h⟩) hz))
end
def tRevT (K : PySem.W.Frag) (te : TE) : TE := fun σ H Q => te σ H fun x H1 => ∃ a xs, x = .ref a ∧ SqT K H1 a xs ∧ ∀ p, H1 p = none → Q (.ref p) (upd H1 p (.tup xs.reverse))
theorem vals_rev : ∀ {xs : List V} {us : List Value}, Vals xs us → Vals xs.reverse us.reverse
  | _, _, .nil => .nil
  | _, _, .cons r t => by rw [List.reverse_cons, List.reverse_cons]; exact (vals_rev t).append (.cons r .nil)
theorem pe_revT {X : Cx} {e : Expr} {te : TE} {k : Nat} {p1 p2 p3 pos : Pos} (he : PE X e te) : PE X (.Subscript e (.Slice none none (some (.UnaryOp .USub (.Constant (.int 1) k p1) p2)) p3) pos) (tRevT X.K te) := by
  refine ⟨fun pn s τ H Q I hyp => ?_⟩
  refine Subscript_ (thn (he.run pn s τ H _ I hyp) fun v s1 ⟨x, H1, I1, r1, q1⟩ => ?_)
  obtain ⟨a, xs, ex, hx, q⟩ := q1
  subst ex
  cases r1
  have hst : PO X (some (.UnaryOp .USub (.Constant (.int 1) k p1) p2)) (tPart (tUn (rU fun i => .int (-i)) (tC (.int 1)))) := po_some (pe_un un_neg pe_int)
  refine wpAny_Slice (thn (po_none.run pn s1 τ H1 (fun o H2 => o = none ∧ H2 = H1) I1 ⟨rfl, rfl⟩) fun vl s2 ⟨l, H2, I2, pl, el, e2⟩ => ?_)
  subst el e2
  refine thn (po_none.run pn s2 τ H2 (fun o H3 => o = none ∧ H3 = H2) I2 ⟨rfl, rfl⟩) fun vu s3 ⟨u, H3, I3, pu, eu, e3⟩ => ?_
  subst eu e3
  refine thn (hst.run pn s3 τ H3 (fun o H4 => o = some (-1) ∧ H4 = H3) I3 ⟨1, rfl, -1, rfl, rfl, rfl⟩) fun vs s4 ⟨o, H4, I4, ps, eo, e4⟩ => ?_
  subst eo e4
  cases pl
  cases pu
  obtain _ | ⟨_, tk⟩ := ps
  have I5 : Inv X pn τ H4 { s4 with heap := s4.heap.push { cls := .type "slice", data := .fields #[.none, .none, .int (-1) tk] } } := I4.kept (t' := s4.toks) fun b ob z => Heap.get?_push_of_some _ z
  obtain ⟨its, r, ht, hz⟩ := I5.tuple hx
  have hlen := r.length
  show wpAny (model X.prog X.w) X.A (subscriptTail e (.Slice none none (some (.UnaryOp .USub (.Constant (.int 1) k p1) p2)) p3) (.ref a) (.ref s4.heap.objs.size)) (EP X pn τ Q) X.xe { s4 with heap := s4.heap.push { cls := .type "slice", data := .fields #[.none, .none, .int (-1) tk] } }
  refine tail_any (ops := [.ref a, .ref s4.heap.objs.size]) ht.typeIs PyProof.Rows.slot_tuple_getitem.lookup ?_ (by with_unfolding_all rfl)
  refine getItem_tup_rev ht (Heap.IsSliceOf.new _ .none .none (.int (-1) tk)) ?_ (by rw [List.size_toArray]; omega)
  have er : its.toArray.toList.reverse.toArray = its.reverse.toArray := by simp
  rw [er]
  refine ⟨.ref _, _, I5.laid (t' := s4.toks) (o := .tup xs.reverse) (fun b ob z => Heap.get?_push_of_some _ z) (Nat.le_refl _) ?_, rfl, q _ (I5.hok.fresh (Nat.le_refl _))⟩
  exact ⟨by rw [List.length_reverse]; exact hz, its.reverse, vals_rev r, ⟨_, Heap.get?_push_size _ rfl, rfl, _, rfl⟩⟩
section
variable {K : PySem.W.Frag} {σ : L2.St} {G : Hp} {te : TE} {ds : List PyData}
theorem ed_revT (h : EvD K te σ G (.tuple ds)) : EvD K (tRevT K te) σ G (.tuple ds.reverse) := fun H s Q q => h H s _ fun v G1 H1 n1 hv => by
  cases hv with
  | @tup a xs _ hs ha =>
    refine ⟨a, xs, rfl, same_tup n1.gh hs, fun p hp => ?_⟩
    have m := Nx.new (o := .tup xs.reverse) n1.gh hp
    exact q _ _ _ (n1.trans m) (.tup (SqT.of upd_same) (dpa_mono m.gg _ (dpa_reverse ha)))
end
/-! ### [.. for i, x in enumerate(t)] -/
section
variable {K : PySem.W.Frag} {σ : L2.St} {G G1 : Hp} {te tl : TE} {ds es : List PyData}
theorem LcI.lay {H1 Hc : Hp} {D T : Addr} {o : HO} (h : LcI K G1 H1 D ds Hc) (hT : Hc T = none) : LcI K G1 H1 D ds (upd Hc T o) := by
  obtain ⟨Gi, acc, n, g, e0, ha⟩ := h.ex
  have hne : D ≠ T := ne_of_none e0 hT
  exact ⟨Gi, acc, n.trans (Nx.lay n.gh hT), g, by rw [upd_ne hne]; exact e0, ha⟩
theorem en_lcEn {i j : Nat} {vs : List Nat} (f : Nat → PyData → PyData) (h : EvD K tl σ G (.tuple ds)) (hw : ∀ v u, wipe (((wipe σ vs).set i (some v)).set j (some u)) vs = wipe σ vs) (hz : ds.length ≤ sizeLine)
    (he : ∀ k d v Gi, ds[k]? = some d → Same G Gi → Dp K Gi v d → EvD K te (((wipe σ vs).set i (some (.int (k : Nat)))).set j (some v)) Gi (f k d)) :
    EvN K (tLc (iEnT K (tCons tl tNil)) (gTup K 2 (gCons (gName i) (gCons (gName j) gNil))) tYes te vs) σ G (ds.mapIdx f) := fun H s Q q =>
  h H s _ fun v G1 H1 n1 hv => by
    cases hv with
    | @tup a xs _ hs ha =>
      refine ⟨a, xs, rfl, same_tup n1.gh hs, fun D hD => ?_⟩
      refine lc_it (walk_enT (K := K) (a := a) (xs := xs)) (fun k Hc => LcI K G1 H1 D ((ds.mapIdx f).take k) Hc) (LcI.start n1.gh hD) (fun k Hc _ p => ?_) (fun k x Hc H' hk p hy => ?_) fun Hc p => ?_
      · obtain ⟨Gi, acc, n, _⟩ := p.ex
        exact same_tup (n1.gh.trans n.hh) hs
      · obtain ⟨T, x1, x2, rfl, hT, rfl, e1, e2⟩ := hy
        cases e1
        obtain ⟨dk, hdk, hdx⟩ := dpa_get ha e2
        have p' := p.lay (o := .tup [.int (k : Nat), x2]) hT
        refine ⟨T, _, rfl, SqT.of upd_same, rfl, _, _, rfl, _, _, rfl, rfl, ?_⟩
        refine ⟨hw _ _, ?_⟩
        have hlt := (List.getElem?_eq_some_iff.mp hdk).1
        refine LcI.turn (b := true) (e := f k dk) hD p' (by rw [List.length_take, List.length_mapIdx]; omega) (fun Gi g => eb_yes) (fun _ Gi g => he k dk x2 Gi hdk (n1.gg.trans g) (dp_mono g _ hdx)) fun H' pq => ?_
        have e3 : (ds.mapIdx f)[k]? = some (f k dk) := by rw [List.getElem?_mapIdx, hdk]; rfl
        rw [List.take_succ, e3]
        exact pq
      · rw [dpa_length ha, List.take_of_length_le (by rw [List.length_mapIdx]; exact Nat.le_refl _)] at p
        exact p.finN n1 hD q
end
end Gw
namespace Gw
open PySem PySem.Spec PyProof.Rows L2
/-! ### repr of data, where no repr is under way -/
def rRepr (K : PySem.W.Frag) : List V → Hp → VK → Prop := fun xs H Q => ∃ v d, xs = [v] ∧ Dp K H v d ∧ d.showable = true ∧ d.hasDict = false ∧ d.shown.length ≤ sizeLine ∧ d.depth ≤ 60 ∧ Q (.str d.shown) H
theorem cr_repr {X : Cx} (hG : X.A.guards = some []) (hu : X.A.units + 64 < cLine) : CallR X (.builtin "repr") (rRepr X.K) := by
  intro pn s τ H xs us Q I r hyp
  obtain ⟨v, d, rfl, hd, h1, h2, h3, h4, q⟩ := hyp
  obtain ⟨u, rfl, rv⟩ : ∃ u, us = [u] ∧ RelV v u := by obtain _ | ⟨r1, _ | _⟩ := r; exact ⟨_, rfl, r1⟩
  have hr := Dp.reads I d v u hd rv
  have go : ∀ (h' : Heap) (t tk : Tok), (∀ b o, s.heap.get? b = some o → h'.get? b = some o) → EP X pn τ Q (.str d.shown t) { s with heap := h', toks := tk } := fun h' t tk k => ⟨.str d.shown, H, I.kept (t' := tk) k, ⟨_, rfl⟩, q⟩
  cases hd with
  | non => cases rv; exact PySem.P.repr_of_none (go s.heap _ _ fun _ _ e => e)
  | bl b => cases rv; exact PySem.P.repr_of_bool (go s.heap _ _ fun _ _ e => e)
  | int i =>
    obtain ⟨t, rfl⟩ := rv
    exact PySem.P.repr_of_int (of_decide_eq_true h1) (go s.heap _ _ fun _ _ e => e)
  | str x =>
    obtain ⟨t, rfl⟩ := rv
    exact PySem.P.repr_of_str (go s.heap _ _ fun _ _ e => e) h3
  | lst hs ha =>
    cases rv
    obtain ⟨as, hr⟩ := hr
    exact PySem.repr_of_reads' hr h1 (fun e => by rw [h2] at e; cases e) hG (by omega) (fun _ _ e => e) (fun h' t tk k => go h' t tk k) h3
  | tup hs ha =>
    cases rv
    obtain ⟨as, hr⟩ := hr
    exact PySem.repr_of_reads' hr h1 (fun e => by rw [h2] at e; cases e) hG (by omega) (fun _ _ e => e) (fun h' t tk k => go h' t tk k) h3
/-- data that may be shown -/
structure Showy (d : PyData) : Prop where
  s : d.showable = true
  n : d.hasDict = false
  z : d.shown.length ≤ sizeLine
  p : d.depth ≤ 60
section
variable {K : PySem.W.Frag} {σ : L2.St} {G : Hp} {te : TE} {d : PyData}
theorem ed_repr (h : EvD K te σ G d) (hd : Showy d) : EvD K (tCB (rRepr K) (tCons te tNil)) σ G (.str d.shown) := fun H s Q q => h H s _ fun v G1 H1 n1 hv =>
  ⟨v, d, rfl, dp_mono n1.gh _ hv, hd.s, hd.n, hd.z, hd.p, q _ G1 H1 n1 (.str _)⟩
end
theorem ro_eqS {K : PySem.W.Frag} {i j : Str} : ROp K rEq (.str i) (.str j) (.bool (decide (i = j))) := fun G H s vx vy hx hy Q q => by
  rw [dp_str hx, dp_str hy]
  refine ⟨rfl, ?_⟩
  have e : decide (V.str i = V.str j) = decide (i = j) := by simp
  rw [e]
  exact q _ G H (Nx.refl s) (.bl _)
theorem ro_neS {K : PySem.W.Frag} {i j : Str} : ROp K rNe (.str i) (.str j) (.bool (!decide (i = j))) := fun G H s vx vy hx hy Q q => by
  rw [dp_str hx, dp_str hy]
  refine ⟨rfl, ?_⟩
  have e : decide (V.str i = V.str j) = decide (i = j) := by simp
  rw [e]
  exact q _ G H (Nx.refl s) (.bl _)

/-! ### the law's own call: told where it is made, so that what runs around is known -/
/-- the law's def, at the place where it is called: its body's reading, the script at a -/
def LawAt (P : Program) (w : World) (K : PySem.W.Frag) (mg : Str → Option Value) (x : Str) (st : Stmt) (N : List Str) (k : Nat) (f : Addr) (fd : FuncData) : Prop :=
  ∃ (S : FnScope N ["script"] (defScope st)), Fun K x x st f fd ∧ Binds K fd ["script"] [] ∧
    ∀ (base : Heap), K.In base → base.Ns mainGlobals mg → ∀ (cdv : Value) (s : Shared) (H : Hp) (a : Addr) (ns : List Int), Room k (callerA.deeper (envOfC x (defScope st) s.heap.objs.size f cdv)) → Only H → SqL K H a (ns.map V.int) → ns.length ≤ 63 →
      ∃ t, PSs (cxOf CX0 P w K mg base N x (defScope st) f cdv callerA [] s H E0).nox (defBody st) t ∧ t { nx := fun _ _ => V.non = V.bl true, rt := fun v _ => v = .bl true } (start N [.ref a]) H
/-- only the script's address may be told of in H -/
def ScriptHp (H : Hp) (a : Addr) (o : Obj) (ns : List Int) : Prop := ∀ b u, H b = some u → b = a ∧ u = .frz o (.lst (ns.map V.int))
theorem law_at {P : Program} {w : World} {K : PySem.W.Frag} {mg mb : Str → Option Value} {x : Str} {st : Stmt} {N : List Str} {k : Nat} {f a : Addr} {fd : FuncData} {s1 : Shared} {vs : List Value} {ns : List Int}
    (KX : K.In s1.heap) (hns : s1.heap.Ns mainGlobals mg) (hb : s1.heap.Ns builtinsNs mb) (hbb : ∀ y : Str, y ≠ "__name__" → mb y = bootBuiltins y) (hlim : s1.heap.NoLimit) (hgen : s1.gens = #[])
    (ha : s1.heap.get? a = some { cls := .type "list", data := .seq vs.toArray }) (hi : IntsAre vs ns) (h63 : ns.length ≤ 63) (hr : Room (k + 1) callerA) (L : LawAt P w K mg x st N k f fd) :
    codeAny (model P w) callerA (.call (.ref f) ⟨[.ref a], []⟩) (fun r s' => r = .ok (.ret (.bool true)) ∧ OldK s1.heap s'.heap ∧ s'.os = s1.os ∧ AllBare s'.gens) s1 := by
  obtain ⟨S, F, B, body⟩ := L
  have rv := vals_ints hi
  have lv := hi.length
  have hz : (ns.map V.int).length ≤ sizeLine := by rw [List.length_map]; exact Nat.le_trans h63 (by decide)
  have main : ∀ H : Hp, ScriptHp H a { cls := .type "list", data := .seq vs.toArray } ns → SqL K H a (ns.map V.int) → (H a ≠ none → K.lookup a = none) →
      codeAny (model P w) callerA (.call (.ref f) ⟨[.ref a], []⟩) (fun r s' => r = .ok (.ret (.bool true)) ∧ OldK s1.heap s'.heap ∧ s'.os = s1.os ∧ AllBare s'.gens) s1 := by
    intro H hH hS hK
    have only : Only H := fun b => by
      cases q : H b with
      | none => exact .inl rfl
      | some u => obtain ⟨_, rfl⟩ := hH b u q; exact .inr ⟨_, _, rfl⟩
    have ok : HOk P w H s1.heap := fun b u q => by
      obtain ⟨rfl, rfl⟩ := hH b u q
      exact ⟨ha, hz, vs, 0, rv, ha⟩
    have out : ∀ {b : Addr} {o : Obj}, s1.heap.get? b = some o → (b = a → H a = none) → (hidT s1.heap H).get? b = some o := fun {b o} e n => hidT_get e (by
      cases q : H b with
      | none => rfl
      | some u =>
        have e2 := (hH b u q).1
        rw [e2, n e2] at q
        cases q)
    have kin : K.In (hidT s1.heap H) := fun b o e => out (KX b o e) fun z => by
      cases q : H a with
      | none => rfl
      | some u =>
        have z2 := hK (by rw [q]; exact fun z => nomatch z)
        rw [z, z2] at e
        cases e
    have nsp : ∀ {b : Addr} {m : Str → Option Value}, s1.heap.Ns b m → (hidT s1.heap H).Ns b m := fun {b m} ⟨o, es, ep, e, d, r⟩ => ⟨o, es, ep, out e (fun z => by
      rw [z, ha] at e
      cases e
      cases d), d, r⟩
    have mod : Mod K mg (hidT s1.heap H) := ⟨kin, nsp hns, ⟨mb, nsp hb, hbb⟩, let ⟨mc, h1, h2⟩ := hlim; ⟨mc, nsp h1, h2⟩⟩
    have e0 : Env0 P w K mg (hidT s1.heap H) callerA [] s1 H := ⟨rfl, mod, fun _ _ e => of_hidT e, Nat.le_of_eq (hidT_size _ _), trivial, fun b z => absurd (show b ∈ ([] : List Addr) from z) List.not_mem_nil, ok, .of_eq hgen⟩
    obtain ⟨oc, od, kV, doc, pm, an, cdv, ct, osl, rfl, lk, hcd⟩ := F.ex
    have bt := B s1 [.ref a] KX rfl
    refine codeAny_mono (LamX.run_ofS (CX := CX0) (Q := fun v _ => v = .bl true) (E := E0) lk hcd S hr e0 bt (.cons rfl .nil : Vals [.ref a] [.ref a]) rfl fun hr2 => ?_) fun r s' hq => ?_
    · obtain ⟨t, h1, h2⟩ := body _ kin (nsp hns) cdv s1 H a ns hr2 only hS h63
      exact ⟨t, h1.nox, h2⟩
    · cases r with
      | error e => exact (show False from hq).elim
      | ok fl =>
        cases fl with
        | next => exact (show False from hq).elim
        | brk => exact (show False from hq).elim
        | cont => exact (show False from hq).elim
        | ret u =>
          obtain ⟨v, H2, hos, bare, un, ok2, ru, e⟩ := hq
          have e : v = .bl true := e
          subst e
          cases ru
          refine ⟨rfl, OldK.of_keep fun b o eb => ?_, hos, bare⟩
          cases q : H b with
          | none => exact un.keep b o eb q (fun z => nomatch z) (fun z => nomatch z)
          | some u =>
            obtain ⟨rfl, rfl⟩ := hH b u q
            obtain ⟨g1, _⟩ := ok _ _ q
            obtain ⟨g2, _⟩ := ok2 _ _ (un.frzs _ _ _ q)
            rw [eb] at g1
            cases g1
            exact g2
  cases hk : K.lookup a with
  | some o =>
    have e := KX a o hk
    rw [ha] at e
    cases e
    exact main (fun _ => none) (fun _ _ z => nomatch z) (.inr ⟨_, vs.toArray, _, hk, rfl, rfl, rfl, by rw [List.size_toArray, lv]; exact Nat.le_trans h63 (by decide), by simpa using rv⟩) (fun z => absurd rfl z)
  | none =>
    refine main (fun b => if b = a then some (.frz { cls := .type "list", data := .seq vs.toArray } (.lst (ns.map V.int))) else none) (fun b u q => ?_) (.inl (.inr ⟨_, if_pos rfl⟩)) fun _ => hk
    have q : (if b = a then some (HO.frz { cls := .type "list", data := .seq vs.toArray } (.lst (ns.map V.int))) else none) = some u := q
    by_cases hba : b = a
    · rw [if_pos hba] at q
      cases q
      exact ⟨hba, rfl⟩
    · rw [if_neg hba] at q
      cases q
end Gw
namespace Gw
open PySem PySem.Spec PyProof.Rows L2
/-- the goal that the head leaves -/
theorem walk_at {l : PySem.W.OpenLaw} {k : Nat} {q : Program} {loose : List Str} {XP : (Str → Option Value) → Heap → Prop} {YP : World → Heap → Prop} {d : DefRec} {K : Params → PySem.W.Frag} {st : Stmt} {N : List Str} (hn : l.most = some 63) (hdf : d.params.defaults = []) (hr : Room (k + 1) callerA)
    (hY : ∀ (w : World) (h : Heap), YP w h → (K w.params).In h)
    (F : ∀ (w : World) (mg : Str → Option Value) (fa : Addr) (h : Heap), (K w.params).In h → h.Ns mainGlobals mg → mg d.name = some (.ref fa) → ∃ fd : FuncData, LawAt l.prog w (K w.params) mg d.name st N k fa fd) :
    PySem.W.WalkO q loose XP YP l.row.toRowW d [] (fun f vs => PySem.call f vs) := by
  refine Att.attach_call hn hdf fun w s0 s1 mg mb fa o pm cd doc a vs ns G Y ho hd hcd hmg hobj hints hlen hg => ?_
  have KX := hY w _ Y
  obtain ⟨fd, L⟩ := F w mg fa _ KX G.T.g hmg
  exact law_at KX G.T.g G.T.b G.T.builtins G.T.nolimit hg hobj hints hlen hr L
end Gw
namespace Gw
open PySem PySem.Spec PyProof.Rows L2
/-! ### the rules with the written part named, so that they stand within a comprehension -/
def rLenQ (K : PySem.W.Frag) : List V → Hp → VK → Prop := fun xs H Q => ∃ p ys, xs = [.ref p] ∧ (SqL K H p ys ∨ SqT K H p ys) ∧ Q (.int ys.length) H
def rListQ (K : PySem.W.Frag) : List V → Hp → VK → Prop := fun xs H Q => ∃ p ys, xs = [.ref p] ∧ (SqL K H p ys ∨ SqT K H p ys) ∧ ∀ l, H l = none → Q (.ref l) (upd H l (.lst ys))
def rTupQ (K : PySem.W.Frag) : List V → Hp → VK → Prop := fun xs H Q => ∃ p ys, xs = [.ref p] ∧ ((SqL K H p ys ∧ ∀ l, H l = none → Q (.ref l) (upd H l (.tup ys))) ∨ (SqT K H p ys ∧ Q (.ref p) H))
section
variable (K : PySem.W.Frag) {X : Cx}
theorem q_len (e : X.K = K) : CallR X (.builtin "len") (rLenQ K) := by subst e; exact call_len_seq
theorem q_list (e : X.K = K) : CallR X (.type "list") (rListQ K) := by subst e; exact call_list_of
theorem q_tuple (e : X.K = K) : CallR X (.type "tuple") (rTupQ K) := by subst e; exact call_tuple_of
theorem q_isi (e : X.K = K) : CallR X (.builtin "isinstance") (rIsi K) := by subst e; exact call_isi
theorem q_all (e : X.K = K) (hc : X.calm = true) : CallR X (.builtin "all") (rAll K) := by subst e; exact cr_all hc
theorem q_any (e : X.K = K) (hc : X.calm = true) : CallR X (.builtin "any") (rAny K) := by subst e; exact cr_any hc
theorem q_min (e : X.K = K) (hc : X.calm = true) : CallR X (.builtin "min") (rMin K) := by subst e; exact cr_min hc
theorem q_repr (e : X.K = K) (hG : X.A.guards = some []) (hu : X.A.units + 64 < cLine) : CallR X (.builtin "repr") (rRepr K) := by subst e; exact cr_repr hG hu
theorem q_ixT (e : X.K = K) : IxR X (rIxT K) := by subst e; exact ix_tup
theorem q_ixL (e : X.K = K) : IxR X (rIxL K) := by subst e; exact ix_list
theorem q_slT (e : X.K = K) : SlR X (rSlA K) := by subst e; exact sl_tupA
theorem q_slL (e : X.K = K) : SlR X (rSlL K) := by subst e; exact sl_list
theorem q_catT (e : X.K = K) : OpR X (binaryOp .Add) (rCatA K) := by subst e; exact op_catA
theorem q_eqD (e : X.K = K) (hu : X.A.units + 64 < cLine) : OpR X (compareOp .Eq) (rEqD K) := by subst e; exact op_eqD hu
theorem q_neD (e : X.K = K) (hu : X.A.units + 64 < cLine) : OpR X (compareOp .NotEq) (rNeD K) := by subst e; exact op_neD hu
theorem q_in (e : X.K = K) : OpR X (compareOp .In) (rIn K false) := by subst e; exact op_in_seq
theorem q_notin (e : X.K = K) : OpR X (compareOp .NotIn) (rIn K true) := by subst e; exact op_notIn_seq
theorem q_gT {es : List Expr} {k : Nat} {pos : Pos} {t : TGs} (n : Nat) (e : X.K = K) (hc : X.calm = true) (h : PGs X es t) (hn : (assignEach es X.env).length = n := by rfl) (hst : (assignEach es X.env).findIdx? (·.1) = none := by rfl) :
    PG X (.Tuple es k pos) (gTup K n t) := by subst e; exact pg_tup hc h hn hst
theorem q_iL {tg l : Expr} {tl : TE} (e : X.K = K) (h : PE X l tl) : PI X tg l (iList K tl) := by subst e; exact pi_list h
theorem q_iT {tg l : Expr} {tl : TE} (e : X.K = K) (h : PE X l tl) : PI X tg l (iTup K tl) := by subst e; exact pi_tup h
theorem q_revT {e : Expr} {te : TE} {k : Nat} {p1 p2 p3 pos : Pos} (ek : X.K = K) (he : PE X e te) : PE X (.Subscript e (.Slice none none (some (.UnaryOp .USub (.Constant (.int 1) k p1) p2)) p3) pos) (tRevT K te) := by subst ek; exact pe_revT he
theorem q_revL {e : Expr} {te : TE} {k : Nat} {p1 p2 p3 pos : Pos} (ek : X.K = K) (he : PE X e te) : PE X (.Subscript e (.Slice none none (some (.UnaryOp .USub (.Constant (.int 1) k p1) p2)) p3) pos) (tRevL K te) := by subst ek; exact pe_revL he
theorem q_iEnT {e : Expr} {ta : TA} {p pos tpos : Pos} {elts : List Expr} {kk : Nat} (ek : X.K = K) (hg : Gl X "enumerate") (hm : X.mg "enumerate" = none) (ha : PA X [e] ta) (hs : starEach [e] X.env = [(false, eval e X.env)] := by rfl) :
    PI X (.Tuple elts kk tpos) (.Call (.Name "enumerate" p) [e] [] pos) (iEnT K ta) := by subst ek; exact pi_enumT hg hm ha hs
theorem q_iEnL {e : Expr} {ta : TA} {p pos tpos : Pos} {elts : List Expr} {kk : Nat} (ek : X.K = K) (hg : Gl X "enumerate") (hm : X.mg "enumerate" = none) (ha : PA X [e] ta) (hs : starEach [e] X.env = [(false, eval e X.env)] := by rfl) :
    PI X (.Tuple elts kk tpos) (.Call (.Name "enumerate" p) [e] [] pos) (iEnum K ta) := by subst ek; exact pi_enum hg hm ha hs
end
end Gw
namespace Gw
open PySem PySem.Spec PyProof.Rows L2
/-! ### min by a key that is a def: its length and itself, of rows of ints -/
/-- the promise of the key -/
def spRank (K : PySem.W.Frag) : Sp := fun vs H Q _ => ∃ (a : Addr) (xs : List V), vs = [.ref a] ∧ SqT K H a xs ∧ ∀ p, H p = none → Q (.ref p) (upd H p (.tup [.int xs.length, .ref a]))
def keyD (r : List Int) : PyData := .tuple [.int r.length, .tuple (r.map .int)]
def btR (rows : Nat → List Int) (i j : Nat) : Bool := PySem.W.dataLt (keyD (rows i)) (keyD (rows j))
def only1 (H : Hp) (r : Addr) : Hp := fun b => if b = r then H b else none
theorem only1_ne {H : Hp} {r b : Addr} (h : b ≠ r) : only1 H r b = none := if_neg h
theorem only1_same {H : Hp} {r : Addr} : only1 H r r = H r := if_pos rfl
theorem only1_none {H : Hp} {r b : Addr} (h : H b = none) : only1 H r b = none := by
  unfold only1
  split
  · exact h
  · rfl
theorem only1_le {H : Hp} {r b : Addr} {o : HO} (h : only1 H r b = some o) : b = r ∧ H b = some o := by
  unfold only1 at h
  split at h
  · exact ⟨by assumption, h⟩
  · cases h
theorem only1_tup {K : PySem.W.Frag} {H : Hp} {r : Addr} {xs : List V} (h : SqT K H r xs) : SqT K (only1 H r) r xs := by
  unfold SqT Rd at h ⊢
  rw [only1_same]
  exact h
section
variable {X : Cx} {pins : List (Addr × Obj)} {σ : L2.St} {H : Hp} {s : Shared} {f : Addr} {fd : FuncData} {ps : List Str} {k : Nat}
theorem tup_obj (I : Inv X pins σ H s) {r : Addr} {xs : List V} {u : HO} (h : SqT X.K H r xs) (e : H r = some u) : u = .tup xs ∨ ∃ o, u = .frz o (.tup xs) := by
  rcases h with (h | ⟨o, h⟩) | ⟨o, its, n, hk, _⟩
  · rw [e] at h; exact .inl (Option.some.inj h)
  · rw [e] at h; exact .inr ⟨o, Option.some.inj h⟩
  · have := (I.bs r o (I.ok.mod.kin r o hk)).2
    rw [e] at this; cases this
theorem only1_hok (I : Inv X pins σ H s) {r : Addr} {xs : List V} (h : SqT X.K H r xs) : HOk X.prog X.w (only1 H r) s.heap := fun b u e => by
  obtain ⟨rfl, e1⟩ := only1_le e
  have ok := I.hok b u e1
  rcases tup_obj I h e1 with rfl | ⟨o, rfl⟩
  · exact ok
  · exact ok
/-- the key is asked of one item: all else stands -/
theorem key_turn (F : FnOk X.prog X.w X.K X.mg X.base CX0 k f fd ps (spRank X.K)) (hb : Binds X.K fd ps []) (hr : Room k X.A.in1) (I : Inv X pins σ H s) {r : Addr} {ns : List Int} (h : SqT X.K H r (ns.map V.int)) {Q E : Value → Shared → Prop}
    (q : ∀ (p : Addr) (t : Tok) (s' : Shared), Inv X pins σ H s' → s.heap.get? p = none → IsTup s'.heap p #[.int ns.length t, .ref r] → (∀ b o, b ≠ r → s.heap.get? b = some o → ∃ sl, s'.heap.get? b = some { o with slots := sl }) →
      (∀ b o, H b = none → s.heap.get? b = some o → ∃ sl, s'.heap.get? b = some { o with slots := sl }) → (∀ b o, H b = none → b ∉ frs X.stack → s.heap.get? b = some o → s'.heap.get? b = some o) → Q (.ref p) s') :
    wpAny (model X.prog X.w) X.A.in1 (call (.ref f) [.ref r]) Q E s := by
  have e0 := I.env0.in1
  have e1 : Env0 X.prog X.w X.K X.mg X.base X.A.in1 X.stack s (only1 H r) := ⟨e0.frames, e0.mod, fun b o e => ⟨(e0.bs b o e).1, only1_none (e0.bs b o e).2⟩, e0.bsz, e0.funs, fun b hb => only1_none (e0.frf b hb), only1_hok I h, e0.bare⟩
  let Qc : VK := fun v H' => ∃ p, v = .ref p ∧ only1 H r p = none ∧ H' = upd (only1 H r) p (.tup [.int (ns.map V.int).length, .ref r])
  have hs : spRank X.K [.ref r] (only1 H r) Qc (fun _ _ _ => False) := ⟨r, ns.map V.int, rfl, only1_tup h, fun p hp => ⟨p, rfl, hp, rfl⟩⟩
  have hl : ([Value.ref r] ++ []).length = ps.length := (F.len _ _ _ _ hs)
  have rr0 : Vals [V.ref r] ([Value.ref r] ++ []) := .cons rfl .nil
  refine wpAny_call (codeAny_mono (F.run X.A.in1 X.stack s (only1 H r) ⟨[.ref r], []⟩ ([Value.ref r] ++ []) [.ref r] Qc (fun _ _ _ => False) hr e1 (hb s [.ref r] I.kIn hl) rr0 hs) fun rr s' hq => ?_)
  cases rr with
  | error e => exact False.elim hq
  | ok fl =>
    cases fl with
    | next => exact False.elim hq
    | brk => exact False.elim hq
    | cont => exact False.elim hq
    | ret u =>
      obtain ⟨v', H', os, bare, un, hok, rv, p, rfl, hp, rfl⟩ := (show CE X.stack X.prog X.w (only1 H r) s Qc u s' from hq)
      cases rv
      have np : s.heap.get? p = none := by
        cases z : s.heap.get? p with
        | none => rfl
        | some o =>
          have := un.free p o z hp (by simp)
          rw [upd_same] at this; cases this
      have hHp : H p = none := I.hok.gone np
      have slots : ∀ b o, only1 H r b = none → s.heap.get? b = some o → ∃ sl, s'.heap.get? b = some { o with slots := sl } := fun b o n e => un.any e n (by simp)
      have keep : ∀ b o, only1 H r b = none → b ∉ frs X.stack → s.heap.get? b = some o → s'.heap.get? b = some o := fun b o n hf e => un.keep b o e n hf (by simp)
      have hok2 : HOk X.prog X.w H s'.heap := fun b u e => by
        by_cases hbr : b = r
        · subst hbr
          have e2 : only1 H b b = some u := only1_same.trans e
          have pb : b ≠ p := fun z => by rw [z] at e; rw [hHp] at e; cases e
          rcases tup_obj I h e with rfl | ⟨o, rfl⟩
          · exact hok b _ ((upd_ne pb).trans e2)
          · exact hok b _ ((upd_ne pb).trans e2)
        · refine (I.hok b u e).stay (fun c v hc z => keep c v ?_ ?_ z) (fun _ z => z) fun _ _ z => z
          · rcases hc with z | z
            · rw [z]; exact only1_ne hbr
            · refine only1_ne fun z2 => ?_
              subst z2
              rcases tup_obj I h z with z3 | ⟨o, z3⟩
              · cases z3
              · cases z3
          · intro z2
            have := I.stkFree c z2
            rcases hc with z | z
            · rw [z, e] at this; cases this
            · rw [z] at this; cases this
      have I2 : Inv X pins σ H s' := I.call' os ⟨fun b o e n hf hx => un.keep b o e (only1_none n) hf hx, fun b o e n hf hx => un.slot b o e (only1_none n) hf hx, fun b o e n _ => n, fun b o e hx => un.there b o e hx, fun _ _ z => z, fun _ _ _ z => z, fun _ ps' z => ⟨#[], by rw [z]; simp⟩⟩ hok2 bare (fun b z => absurd z (by simp))
      obtain ⟨_, its, rits, pt⟩ := hok p _ upd_same
      obtain ⟨u1, u2, rfl, ⟨t, rfl⟩, r2⟩ := vals2 rits
      cases r2
      rw [List.length_map] at pt
      exact q p t s' I2 np pt (fun b o hb e => slots b o (only1_ne hb) e) (fun b o hb e => slots b o (only1_none hb) e) fun b o hb hf e => keep b o (only1_none hb) hf e
theorem reads_row (I : Inv X pins σ H s) {r : Addr} {ns : List Int} (h : SqT X.K H r (ns.map V.int)) : ∃ as, Reads s.heap (.ref r) (.tuple (ns.map .int)) as :=
  Dp.reads I _ (.ref r) (.ref r) (.tup h (dpa_ints ns)) rfl
theorem reads_key (I : Inv X pins σ H s) {r p : Addr} {t : Tok} {ns : List Int} (h : SqT X.K H r (ns.map V.int)) (hp : IsTup s.heap p #[.int ns.length t, .ref r]) : ∃ as, Reads s.heap (.ref p) (keyD ns) as := by
  obtain ⟨as, hr⟩ := reads_row I h
  obtain ⟨o, e, c, n, d⟩ := hp
  exact ⟨_, .tuple e c d (.cons (.int _ _) (.cons hr .nil))⟩
theorem alike_ints : ∀ (a b : List Int), PySem.W.alikeAll (a.map PyData.int) (b.map PyData.int) = true
  | [], _ => by simp [PySem.W.alikeAll]
  | _ :: _, [] => by simp [PySem.W.alikeAll]
  | x :: a, y :: b => by
    show (PySem.W.alike (.int x) (.int y) && PySem.W.alikeAll (a.map PyData.int) (b.map PyData.int)) = true
    rw [alike_ints a b]
    simp [PySem.W.alike]
theorem alike_key (a b : List Int) : PySem.W.alike (keyD a) (keyD b) = true := by
  show (PySem.W.alike (.int a.length) (.int b.length) && (PySem.W.alike (.tuple (a.map .int)) (.tuple (b.map .int)) && PySem.W.alikeAll [] [])) = true
  have e : PySem.W.alike (.tuple (a.map .int)) (.tuple (b.map .int)) = PySem.W.alikeAll (a.map PyData.int) (b.map PyData.int) := by simp [PySem.W.alike]
  rw [e, alike_ints]
  simp [PySem.W.alike, PySem.W.alikeAll]
/-- what is walked: a list or a tuple of rows -/
structure Walked (X : Cx) (a it : Addr) (its : List Value) (St : Nat → Shared → Prop) : Prop where
  W : WalksS X.prog X.w X.A.in1 it [it, a] [it] (fun a b => b = a) its.toArray.size (fun i v => its.toArray[i]? = some v) St
  stay : ∀ i s s', St i s → (∀ b o, b ∈ [it, a] → s.heap.get? b = some o → ∃ sl, s'.heap.get? b = some { o with slots := sl }) → St i s'
  here : ∀ i s, St i s → ∃ o, s.heap.get? it = some o
theorem min_core (F : FnOk X.prog X.w X.K X.mg X.base CX0 k f fd ps (spRank X.K)) (hb : Binds X.K fd ps []) (hr : Room (k + 1) X.A) (I : Inv X pins σ H s) {a : Addr} {xs : List V} {its : List Value} {rows : Nat → List Int} (rv : Vals xs its)
    (hx : ∀ i x, xs[i]? = some x → ∃ r, x = .ref r ∧ SqT X.K H r ((rows i).map V.int)) (hn : 0 < xs.length) (hne : ∀ (i : Nat) (r : Addr), xs[i]? = some (V.ref r) → r ≠ a) {o : Obj} {St : Nat → Shared → Prop} (L : Walked X a s.heap.objs.size its St) {s₂ : Shared}
    (e2 : s₂ = { s with heap := s.heap.push o }) (st : St 0 s₂) (hfp : ∀ b ∈ [s.heap.objs.size, a], b < s₂.heap.objs.size) {Q : VK} (q : ∀ x, xs[argBest (btR rows) (xs.length - 1)]? = some x → Q x H) :
    ∃ I' fp wr G n P St' J V' bt, (.ref s.heap.objs.size : Value) = .ref I' ∧ WalksS X.prog X.w X.A.in1 I' fp wr G n P St' ∧ St' 0 s₂ ∧ (∀ b ∈ fp, b < s₂.heap.objs.size) ∧ 0 < n ∧
      KeyRun X.prog X.w X.A.in1 (.ref f) .Lt s₂.heap.objs.size wr G n P St' J V' bt ∧ J s₂ ∧ ∀ v s', P (argBest bt (n - 1)) v → J s' → EP X pins σ Q v s' := by
  have hsz : s₂.heap.objs.size = s.heap.objs.size + 1 := by rw [e2]; exact Heap.size_push _ _
  have I2 : Inv X pins σ H s₂ := by rw [e2]; exact I.kept (t' := s.toks) fun b u e => Heap.get?_push_of_some _ e
  have fI : FpOk X pins H s.heap.objs.size := I.fpOk (Nat.le_refl _) (I.hok.fresh (Nat.le_refl _))
  have fS : FpOk X pins H s₂.heap.objs.size := I.fpOk (by omega) (I.hok.fresh (by omega))
  have hlen : its.toArray.size = xs.length := by rw [List.size_toArray, rv.length]
  have moved : ∀ s1 s', Inv X pins σ H s1 → Moved (s₂.heap.objs.size :: [s.heap.objs.size]) (fun a b => b = a) s1 s' → Inv X pins σ H s' := fun s1 s' I1 m => by
    have z := I1.turnedL (h' := s'.heap) (t' := s'.toks) (ch := [s₂.heap.objs.size, s.heap.objs.size]) (fun b o hb e => m.heap b o hb e) (fun b hb => by
      rcases List.mem_cons.mp hb with rfl | hb
      · exact fS
      · rw [List.mem_singleton.mp hb]; exact fI)
    obtain ⟨h', g', d', t', o'⟩ := s'
    have g1 : g' = s1.gens := m.gens
    have g2 : d' = s1.drawn := m.drawn
    have g3 : o' = s1.os := m.os
    subst g1; subst g2; subst g3
    exact z
  refine ⟨_, _, _, _, _, _, St, fun s' => Inv X pins σ H s', fun i v s' => ∃ p r t, v = .ref p ∧ p ≠ s₂.heap.objs.size ∧ p ≠ s.heap.objs.size ∧ H p = none ∧ xs[i]? = some (.ref r) ∧ IsTup s'.heap p #[.int (rows i).length t, .ref r], btR rows, rfl, L.W, st, hfp, by omega, ⟨?_, ?_, ?_, ?_⟩, I2, ?_⟩
  · exact fun s1 s' J m => moved s1 s' J m
  · rintro i v s1 s' ⟨p, r, t, rfl, h1, h2, h3, h4, o, e, c, n, d⟩ m
    exact ⟨p, r, t, rfl, h1, h2, h3, h4, o, m.heap p o (by simp [h1, h2]) e, c, n, d⟩
  · intro i v s1 ob Q1 E1 hi hP J hst hS hq
    rw [hlen] at hi
    obtain ⟨x, hxi⟩ : ∃ x, xs[i]? = some x := ⟨_, List.getElem?_eq_getElem hi⟩
    obtain ⟨r, rfl, hrow⟩ := hx i x hxi
    obtain ⟨u, hu, ru⟩ := rv.get hxi
    cases ru
    have hv : v = .ref r := by
      have : its[i]? = some v := by simpa using hP
      rw [hu] at this; exact (Option.some.inj this).symm
    subst hv
    refine key_turn F hb hr.in1 J hrow fun p t s' J' np pt others slots lits => ?_
    have ra : r ≠ a := hne i r hxi
    have hit : ∃ o, s1.heap.get? s.heap.objs.size = some o := L.here _ _ hst
    refine hq _ _ J' (L.stay _ _ _ hst fun b o hb e => ?_) ?_ ⟨p, r, t, rfl, ?_, ?_, J.hok.gone np, hxi, pt⟩ ?_
    · rcases List.mem_cons.mp hb with rfl | hb
      · exact slots _ o fI.1 e
      · rw [List.mem_singleton.mp hb] at e ⊢
        exact others a o (Ne.symm ra) e
    · refine lits _ ob fS.1 (fun z => ?_) hS
      rcases List.mem_cons.mp (J.stkSub _ z) with e | e
      · exact fS.2.1 e
      · exact fS.2.2.1 e
    · rintro rfl
      rw [np] at hS; cases hS
    · rintro rfl
      obtain ⟨o, e⟩ := hit
      rw [np] at e; cases e
    · rintro j k' ⟨p', r', t', rfl, h1, h2, h3, h4, o, e, c, n, d⟩
      obtain ⟨sl, e'⟩ := slots p' o h3 e
      exact ⟨p', r', t', rfl, h1, h2, h3, h4, _, e', c, n, d⟩
  · rintro i j ki kj s1 Q1 E1 J ⟨p, r, t, rfl, _, _, _, hi, pt⟩ ⟨p', r', t', rfl, _, _, _, hj, pt'⟩ hq
    obtain ⟨r1, z1, row1⟩ := hx i _ hi
    obtain ⟨r2, z2, row2⟩ := hx j _ hj
    cases z1
    cases z2
    obtain ⟨as1, rd1⟩ := reads_key J row1 pt
    obtain ⟨as2, rd2⟩ := reads_key J row2 pt'
    refine PySem.W.rcLt_alike _ _ _ s1 _ _ _ _ rd1 rd2 (alike_key _ _) (fun z => nomatch z) ?_ X.prog X.w E1 Q1 hq
    have dp : ∀ ns : List Int, PyData.depthAll (ns.map PyData.int) = 0 := fun ns => by
      induction ns with
      | nil => rfl
      | cons n r ih => rw [List.map_cons, PyData.depthAll, ih]; rfl
    have dk : (keyD (rows i)).depth ≤ 4 := by
      unfold keyD
      simp [PyData.depth, PyData.depthAll, dp]
    have := Nat.min_le_left (keyD (rows i)).depth (keyD (rows j)).depth
    have hu := hr.in1.units
    omega
  · intro v s' hP J
    have hP' : its.toArray[argBest (btR rows) (its.toArray.size - 1)]? = some v := hP
    rw [hlen] at hP'
    have hv : its[argBest (btR rows) (xs.length - 1)]? = some v := by simpa using hP'
    obtain ⟨x, hx1, hx2⟩ : ∃ x, xs[argBest (btR rows) (xs.length - 1)]? = some x ∧ RelV x v := by
      have hl : argBest (btR rows) (xs.length - 1) < xs.length := by
        have z := (List.getElem?_eq_some_iff.mp hv).1
        have z2 := rv.length
        omega
      obtain ⟨u, hu, ru⟩ := rv.get (List.getElem?_eq_getElem hl)
      rw [hv] at hu
      cases hu
      exact ⟨_, List.getElem?_eq_getElem hl, ru⟩
    exact ⟨x, H, J, hx2, q x hx1⟩
def rMinKey (K : PySem.W.Frag) (f : Addr) : List V → List V → Hp → VK → Prop := fun vs zs H Q => ∃ (a : Addr) (xs : List V) (rows : Nat → List Int), vs = [V.ref a] ∧ zs = [V.ref f] ∧ (SqL K H a xs ∨ SqT K H a xs) ∧ 0 < xs.length ∧
  (∀ i x, xs[i]? = some x → ∃ r, x = .ref r ∧ SqT K H r ((rows i).map V.int)) ∧ ∀ x, xs[argBest (btR rows) (xs.length - 1)]? = some x → Q x H
theorem cr_minKey (F : FnOk X.prog X.w X.K X.mg X.base CX0 k f fd ps (spRank X.K)) (hb : Binds X.K fd ps []) (hr : Room (k + 1) X.A) : CallRK X (.builtin "min") [Str.ofString "key"] (rMinKey X.K f) := by
  intro pins s σ H vs zs us ws Q I rv rz h
  obtain ⟨a, xs, rows, rfl, rfl, hs, hn, hx, q⟩ := h
  obtain rfl := Vals.ref1 rv
  obtain ⟨w1, rfl, e1⟩ := vals1 rz
  obtain rfl : w1 = Value.ref f := e1
  show wpAny (model X.prog X.w) X.A (call (.builtin "min") [.ref a] [(Str.ofString "key", .ref f)]) _ _ s
  refine PySem.call_min_walkK ?_
  rcases hs with hs | hs
  · obtain ⟨its, r, pl, z⟩ := I.list hs
    have alt : a < s.heap.objs.size := by obtain ⟨o, _, e, _⟩ := pl; exact Heap.lt_size e
    refine PySem.W.iter_listW (A := X.A.in1) hr.hd pl.isList fun s₂ e W st hfp hw hk => ?_
    refine min_core F hb hr I r hx hn (fun i b hi z => ?_) ⟨W, ?_, ?_⟩ e st hfp q
    · subst z
      obtain ⟨_, h1, h2⟩ := hx i _ hi
      cases h1
      obtain ⟨_, _, ⟨o, e, c, _⟩, _⟩ := I.tuple h2
      obtain ⟨o', e', c', _⟩ := pl.isList
      rw [e] at e'
      cases e'
      rw [c] at c'
      exact absurd (Value.type.inj c') (by decide)
    · rintro i s1 s1' ⟨⟨o, e, c, d⟩, ⟨o2, e2, c2, n2, d2⟩⟩ hk
      obtain ⟨sl, e'⟩ := hk _ o (by simp) e
      obtain ⟨sl2, e2'⟩ := hk _ o2 (by simp) e2
      exact ⟨⟨_, e', c, d⟩, ⟨_, e2', c2, n2, d2⟩⟩
    · rintro i s1 ⟨⟨o, e, _⟩, _⟩
      exact ⟨o, e⟩
  · obtain ⟨its, r, pl, z⟩ := I.tuple hs
    have hl : s.heap.IsTuple a its.toArray := pl
    refine PySem.W.iter_tupleW (A := X.A.in1) hr.hd hl fun s₂ e W st hfp hw hk => ?_
    refine min_core F hb hr I r hx hn (fun i b hi z => ?_) ⟨W, ?_, ?_⟩ e st hfp q
    · subst z
      obtain ⟨_, h1, h2⟩ := hx i _ hi
      cases h1
      have := I.tuple_inj hs h2
      rw [this] at hi
      rw [List.getElem?_map] at hi
      cases z : (rows i)[i]? with
      | none => rw [z] at hi; cases hi
      | some v => rw [z] at hi; cases hi
    · rintro i s1 s1' ⟨⟨o, e, c, d⟩, ⟨o2, e2, c2, n2, d2⟩⟩ hk
      obtain ⟨sl, e'⟩ := hk _ o (by simp) e
      obtain ⟨sl2, e2'⟩ := hk _ o2 (by simp) e2
      exact ⟨⟨_, e', c, d⟩, ⟨_, e2', c2, n2, d2⟩⟩
    · rintro i s1 ⟨⟨o, e, _⟩, _⟩
      exact ⟨o, e⟩
end
end Gw
namespace PySem.W
open PySem PySem.Calls PyProof.Rows PySem.SeqAt
section
variable {prog : Program} {w : World} {A : Around} {s : Shared} {E : Value → Shared → Prop}
/-- () < () by the tuples' own comparison -/
theorem gw_lt_none {l b : Addr} (hl : s.heap.IsTuple l #[]) (hb : s.heap.IsTuple b #[]) {Q : Value → Shared → Prop} (h : Q (.bool false) s) : wpAny (model prog w) A (call (.builtin "tuple.__lt__") [.ref l, .ref b]) Q E s := by
  obtain ⟨⟨cls, dd, data, sl⟩, ho, hc, n, hd⟩ := id hl
  obtain ⟨⟨cls2, dd2, data2, sl2⟩, ho2, hc2, n2, hd2⟩ := id hb
  simp only at hc hd hc2 hd2
  subst hc hd hc2 hd2
  exact call_meets F.slot_tuple_lt ⟨_, ho, rfl⟩ F.entry_tuple_lt (F.args_tuple_lt_2 _ _) (tuple_ltAt l b #[] #[] n n2 dd dd2 sl sl2 (fun _ => true) fun _ => true) ⟨ho, ho2, fun j h1 => absurd h1 (Nat.not_lt_zero _), fun j h1 => absurd h1 (Nat.not_lt_zero _), h⟩
theorem gw_reads_none {h : Heap} {v : Value} {as : List Addr} (r : Reads h v (.tuple []) as) : ∃ a, v = .ref a ∧ h.IsTuple a #[] := by
  cases r with
  | @tuple a o xs n _ _ h1 h2 h3 h4 =>
    cases q : xs.toList with
    | nil =>
      have : xs = #[] := by
        apply Array.ext'
        simpa using q
      subst this
      exact ⟨a, rfl, o, h1, h2, n, h3⟩
    | cons f fr => rw [q] at h4; cases h4
/-- rows without items can be sorted -/
theorem gw_sorts_none {vs : List Value} {ds : List PyData} (e : EachIs (fun v d => ∃ as, Reads s.heap v d as) vs ds) (hd : ∀ d, d ∈ ds → d = .tuple []) (hu : A.units + 1 < cLine) : SortsAt prog w A s (dataKind s.heap ds) vs := by
  have hal : AllAlike ds := fun d h d' h' => by rw [hd d h, hd d' h']; simp [alike, alikeAll]
  have ht : ∀ v, v ∈ vs → ∃ a, v = .ref a ∧ s.heap.IsTuple a #[] := fun v hv => by
    obtain ⟨d, m, as, r⟩ := e.left v hv
    rw [hd d m] at r
    exact gw_reads_none r
  refine ⟨fun v hv => ?_, oneType', ?_, fun h2 E Q hq => ?_⟩
  · obtain ⟨d, m, as, r⟩ := e.left v hv
    exact ⟨_, dataKind_some hal m r⟩
  · intro E x y a b Q ha hb hq
    obtain ⟨d, as, m, ra, rfl⟩ := dataKind_inv ha
    obtain ⟨d', as', m', rb, rfl⟩ := dataKind_inv hb
    rw [hd d m] at ra hq
    rw [hd d' m'] at rb hq
    obtain ⟨p, rfl, hp⟩ := gw_reads_none ra
    obtain ⟨p', rfl, hp'⟩ := gw_reads_none rb
    have hq' : Q (dataLt (.tuple []) (.tuple [])) s := hq
    rw [show dataLt (.tuple []) (.tuple []) = false from lex_irrefl _] at hq'
    rw [keyLt'_oneType, oneLt'_eq]
    simp only [if_true]
    refine wpAny_bind (wpAny_cRoomFor (by omega) ?_)
    refine wpAny_bind (wpAny_callSpecialIfBound?_slot (T := "tuple") (by obtain ⟨o, h1, h2, _⟩ := hp; exact ⟨_, h1, h2⟩) F.slot_tuple_lt (gw_lt_none hp hp' ?_))
    exact wpAny_truthy_bool hq'
  · have hty : ∀ v ∈ vs, Looks (model prog w) s.heap (typeOf v) (Value.type "tuple") := fun v hv => by
      obtain ⟨a, rfl, o, h1, h2, _⟩ := ht v hv
      show Looks _ s.heap (typeOf (Value.ref _)) (Value.type "tuple")
      exact h2 ▸ (Looks.ld h1).andThen .now
    obtain ⟨v₁, v₂, rest, rfl⟩ : ∃ v₁ v₂ rest, vs = v₁ :: v₂ :: rest := by
      match vs, h2 with
      | [], h2 => simp at h2
      | [_], h2 => simp at h2
      | v₁ :: v₂ :: rest, _ => exact ⟨v₁, v₂, rest, rfl⟩
    rw [keyKind'_eq, List.mapM_toArray, map_eq_pure_bind]
    refine wpAny_bind (wpAny_bind (kas_mapM (r := none) _ (fun v hv Q' hq => ?_) (wpAny_pure ?_)))
    · rw [kas_first_eq]
      refine wpAny_bind ((hty v hv).here ?_)
      rw [if_neg (by decide)]
      obtain ⟨a, rfl, o, h1, h2, n, h3⟩ := ht v hv
      refine wpAny_bind (listItems_at h1 h3 (wpAny_pure ?_))
      exact hq
    · rw [if_neg (by simp), if_neg (by simp)]
      rw [oneTypeOnly'_eq, List.mapM_toArray, map_eq_pure_bind]
      refine wpAny_bind (wpAny_bind (wpAny_bind (kas_mapM (r := Value.type "tuple") _ (fun v hv Q' hq => (hty v hv).here hq) (wpAny_pure ?_))))
      have hall : ((List.map (fun _ => Value.type "tuple") (v₁ :: v₂ :: rest)).toArray.all fun x => x == Value.type "tuple") = true := by
        simp only [List.all_toArray, List.all_map, List.all_eq_true]
        intro _ _
        exact beq_self_eq_true _
      have h0 : (List.map (fun _ => Value.type "tuple") (v₁ :: v₂ :: rest)).toArray[0]? = some (Value.type "tuple") := by simp
      rw [h0]
      simp only [hall, if_true]
      exact wpAny_pure (wpAny_pure hq)
end
end PySem.W

namespace Gw
open PySem PySem.Spec PyProof.Rows L2 PySem.Calls
open PySem.W (EachIs sortingHeap sorting_copy_old copyHeap)
/-- sorted(l) of rows of ints of one length: the first one is the least -/
def rSortRows (K : PySem.W.Frag) : List V → Hp → VK → Prop := fun vs H Q => ∃ (a : Addr) (ys : List V) (rows : Nat → List Int) (L : Nat), vs = [V.ref a] ∧ SqL K H a ys ∧ (∀ i x, ys[i]? = some x → (rows i).length = L ∧ ∃ r, x = V.ref r ∧ SqT K H r ((rows i).map V.int)) ∧
  ∀ p zs, H p = none → zs.length = ys.length → (0 < ys.length → ∃ (j : Nat) (x : V), zs[0]? = some x ∧ ys[j]? = some x ∧ ∀ i, i < ys.length → ¬ rows i < rows j) → Q (.ref p) (upd H p (.lst zs))
section
variable {X : Cx} {pins : List (Addr × Obj)} {σ : L2.St} {H : Hp} {s : Shared}
theorem each_of {α β : Type} {R : α → β → Prop} : ∀ {as : List α} {bs : List β}, as.length = bs.length → (∀ (i : Nat) a b, as[i]? = some a → bs[i]? = some b → R a b) → EachIs R as bs
  | [], [], _, _ => .nil
  | a :: as, b :: bs, hl, h => .cons (h 0 a b rfl rfl) (each_of (by simpa using hl) fun i x y e1 e2 => h (i + 1) x y (by simpa using e1) (by simpa using e2))
  | [], _ :: _, hl, _ => by simp at hl
  | _ :: _, [], hl, _ => by simp at hl
theorem dataLe_rowsT (rows : Nat → List Int) : PySem.W.dataLe false (fun i => PyData.tuple ((rows i).map .int)) = fun p q => !decide (rows q < rows p) := by
  funext a b
  show (!PySem.W.dataLt (.tuple ((rows b).map .int)) (.tuple ((rows a).map .int))) = _
  rw [PySem.W.dataLt_tuple]
  exact congrArg (!·) (PySem.W.dataLt_ints (rows b) (rows a))
theorem sort_first (rows : Nat → List Int) {n : Nat} (hn : 0 < n) : ∃ j, ((List.range n).mergeSort (fun p q => !decide (rows q < rows p)))[0]? = some j ∧ j < n ∧ ∀ i, i < n → ¬ rows i < rows j := by
  have hs := List.pairwise_mergeSort (le := fun p q => !decide (rows q < rows p)) (fun a b c h1 h2 => by
      have h1 : ¬ rows b < rows a := by simpa using h1
      have h2 : ¬ rows c < rows b := by simpa using h2
      have := List.le_trans (show rows a ≤ rows b from h1) (show rows b ≤ rows c from h2)
      simpa using (show ¬ rows c < rows a from this)) (fun a b => by
      rcases List.le_total (rows a) (rows b) with h | h
      · have h : ¬ rows b < rows a := h
        simp [h]
      · have h : ¬ rows a < rows b := h
        simp [h]) (List.range n)
  have hp := List.mergeSort_perm (List.range n) (fun p q => !decide (rows q < rows p))
  generalize (List.range n).mergeSort (fun p q => !decide (rows q < rows p)) = l at hs hp
  cases l with
  | nil =>
    have := hp.length_eq
    simp at this
    omega
  | cons j l =>
    refine ⟨j, rfl, ?_, fun i hi => ?_⟩
    · have := hp.mem_iff.mp (List.mem_cons_self (a := j) (l := l))
      simpa using this
    · have hm : i ∈ j :: l := hp.mem_iff.mpr (by simpa using hi)
      rcases List.mem_cons.mp hm with rfl | hm
      · exact List.lt_irrefl _
      · have := (List.pairwise_cons.mp hs).1 i hm
        simpa using this
theorem cr_sortRows (hu : X.A.units + 64 < cLine) : CallR X (.builtin "sorted") (rSortRows X.K) := by
  intro pins s σ H vs us Q I rv h
  obtain ⟨a, ys, rows, L, rfl, hs, hx, q⟩ := h
  obtain rfl := Vals.ref1 rv
  obtain ⟨its, r, pl, z⟩ := I.list hs
  have hl : s.heap.IsList a its.toArray := pl.isList
  have n0 : its.length = ys.length := r.length.symm
  let enc : Nat → PyData := fun i => .tuple ((rows i).map .int)
  let R : Value → Nat → Prop := fun v i => ∃ x, ys[i]? = some x ∧ RelV x v
  have bl : (List.range ys.length).length = ys.length := by simp
  have item : ∀ (i : Nat) v b, its[i]? = some v → (List.range ys.length)[i]? = some b → b = i ∧ R v i ∧ ∃ as, Reads s.heap v (enc i) as := fun i v b h1 h2 => by
    have hi : i < ys.length := by rw [← n0]; exact (List.getElem?_eq_some_iff.mp h1).1
    have hb : b = i := by
      rw [List.getElem?_range hi] at h2
      exact (Option.some.inj h2).symm
    obtain ⟨u, hu, ru⟩ := r.get (List.getElem?_eq_getElem hi)
    rw [h1] at hu
    cases hu
    obtain ⟨_, p, e, hr⟩ := hx i _ (List.getElem?_eq_getElem hi)
    refine ⟨hb, ⟨_, List.getElem?_eq_getElem hi, ru⟩, ?_⟩
    rw [e] at ru
    cases ru
    exact reads_row I hr
  have e : EachIs R its (List.range ys.length) := each_of (by rw [bl, n0]) fun i v b h1 h2 => by
    obtain ⟨rfl, h3, _⟩ := item i v b h1 h2
    exact h3
  have er : EachIs (fun v b => ∃ as, Reads s.heap v (enc b) as) its (List.range ys.length) := each_of (by rw [bl, n0]) fun i v b h1 h2 => by
    obtain ⟨rfl, _, h3⟩ := item i v b h1 h2
    exact h3
  have dp : ∀ ns : List Int, PyData.depthAll (ns.map PyData.int) = 0 := fun ns => by
    induction ns with
    | nil => rfl
    | cons n r ih => rw [List.map_cons, PyData.depthAll, ih]; rfl
  have hlen : ∀ i, i < ys.length → (rows i).length = L := fun i hi => (hx i _ (List.getElem?_eq_getElem hi)).1
  have fin : ∀ out : List Value, out.length = ys.length → EachIs R out ((List.range ys.length).mergeSort (PySem.W.dataLe false enc)) → EP X pins σ Q (.ref (s.heap.objs.size + 1)) { s with heap := sortedAll s.heap its (List.toArray out) } := fun out ho he => by
    obtain ⟨zs, hz1, hz2⟩ : ∃ zs : List V, Vals zs out ∧ ∀ (i : Nat) (v : Value) (b : Nat), out[i]? = some v → ((List.range ys.length).mergeSort (PySem.W.dataLe false enc))[i]? = some b → ∃ x, zs[i]? = some x ∧ ys[b]? = some x := by
      clear ho
      generalize (List.range ys.length).mergeSort (PySem.W.dataLe false enc) = bs at he
      induction he with
      | nil => exact ⟨[], .nil, fun i v b h => by simp at h⟩
      | cons h t ih =>
        obtain ⟨zs, k1, k2⟩ := ih
        obtain ⟨x, h1, h2⟩ := h
        refine ⟨x :: zs, .cons h2 k1, fun i v b e1 e2 => ?_⟩
        cases i with
        | zero =>
          have : b = _ := (Option.some.inj e2).symm
          subst this
          exact ⟨x, rfl, h1⟩
        | succ i => exact k2 i v b (by simpa using e1) (by simpa using e2)
    obtain ⟨ep, he'⟩ := sortedAll_at s.heap its (List.toArray out)
    have zl : zs.length = ys.length := by rw [hz1.length, ho]
    refine ⟨.ref _, upd H (s.heap.objs.size + 1) (.lst zs), I.laid (t' := s.toks) (fun _ _ => sortedAll_old) (Nat.le_succ _) ⟨by omega, out, ep, hz1, he'⟩, rfl, q _ _ (I.hok.fresh (Nat.le_succ _)) zl fun hn => ?_⟩
    rw [dataLe_rowsT] at hz2
    obtain ⟨j, h1, h2, h3⟩ := sort_first rows hn
    obtain ⟨v, hv⟩ : ∃ v, out[0]? = some v := ⟨_, List.getElem?_eq_getElem (by omega)⟩
    obtain ⟨x, k1, k2⟩ := hz2 0 v j hv h1
    exact ⟨j, x, k1, k2, h3⟩
  have hal : PySem.W.AllAlike ((List.range ys.length).map enc) := fun d hd d' hd' => by
    obtain ⟨i, _, rfl⟩ := List.mem_map.mp hd
    obtain ⟨j, _, rfl⟩ := List.mem_map.mp hd'
    have e : PySem.W.alike (enc i) (enc j) = PySem.W.alikeAll ((rows i).map PyData.int) ((rows j).map PyData.int) := by simp [enc, PySem.W.alike]
    rw [e, alike_ints]
  have hdep : ∀ i, (enc i).depth ≤ 2 := fun i => by
    show (PyData.tuple ((rows i).map .int)).depth ≤ 2
    simp [PyData.depth, dp]
  rcases Nat.eq_zero_or_pos L with h0 | h0
  · subst h0
    have er' : EachIs (fun v b => ∃ as, Reads (sortingHeap (copyHeap s.heap its) (s.heap.objs.size + 1) its) v (enc b) as) its (List.range ys.length) := er.mono fun _ _ ⟨as, r⟩ => ⟨as, PyProof.Rows.Reads.keeps (fun _ _ => sorting_copy_old) r⟩
    refine PySem.W.sorted_vals (κ := PySem.W.dataKind (sortingHeap (copyHeap s.heap its) (s.heap.objs.size + 1) its) ((List.range ys.length).map enc)) hl (PySem.W.gw_sorts_none (s := { s with heap := sortingHeap (copyHeap s.heap its) (s.heap.objs.size + 1) its }) (PySem.W.each_map (R := fun v d => ∃ as, Reads (sortingHeap (copyHeap s.heap its) (s.heap.objs.size + 1) its) v d as) enc er') (fun d hd => ?_) ?_) (by omega) ?_
    · obtain ⟨i, hi, rfl⟩ := List.mem_map.mp hd
      have := hlen i (by simpa using hi)
      show PyData.tuple ((rows i).map .int) = _
      rw [List.eq_nil_of_length_eq_zero this]
      rfl
    · show X.A.units + 1 + 1 + 1 < cLine
      omega
    · exact fin _ (by rw [PySem.W.sortVals_length false rfl]; exact n0) (PySem.W.sortVals_data false e er' hal)
  · refine PySem.W.sorted_data (enc := enc) (R := R) hl e er hal (.inl fun d hd => ?_) (by rw [bl]; exact z) (fun b _ => ?_) fun out ho he => fin out (by rw [ho, bl]) he
    · obtain ⟨i, hi, rfl⟩ := List.mem_map.mp hd
      have := hlen i (by simpa using hi)
      cases hr : rows i with
      | nil => rw [hr] at this; simp at this; omega
      | cons y r => exact ⟨.int y, r.map .int, by show PyData.tuple ((rows i).map .int) = _; rw [hr]; rfl⟩
    · have := hdep b
      omega
end
end Gw
namespace Gw
open PySem PySem.Spec PyProof.Rows L2
/-! ### calls by keywords alone -/
def OkF (P : Program) (w : World) (K : PySem.W.Frag) (mg : Str → Option Value) (base : Heap) (x : Str) (st : Stmt) (ps : List Str) (k : Nat) (sp : Sp) : Prop :=
  ∃ (f : Addr) (fd : FuncData), DefAt K mg x st ps f fd ∧ FnOk P w K mg base CX0 k f fd ps sp
theorem OkF.ok {P : Program} {w : World} {K : PySem.W.Frag} {mg : Str → Option Value} {base : Heap} {x : Str} {st : Stmt} {ps : List Str} {k : Nat} {sp : Sp} (h : OkF P w K mg base x st ps k sp) : Ok P w K mg base x ps k sp := by
  obtain ⟨f, fd, D, F⟩ := h
  exact D.ok F
theorem DefAt.okF {P : Program} {w : World} {K : PySem.W.Frag} {mg : Str → Option Value} {base : Heap} {x : Str} {st : Stmt} {ps : List Str} {f : Addr} {fd : FuncData} {k : Nat} {sp : Sp}
    (D : DefAt K mg x st ps f fd) (h : FnOk P w K mg base CX0 k f fd ps sp) : OkF P w K mg base x st ps k sp := ⟨f, fd, D, h⟩
/-- how a def's parameters are bound by keywords -/
def KwOf (x : Str) (st : Stmt) (ps ks : List Str) (g : List Value → List Value → List Value) (gV : List V → List V → List V) : Prop := ∀ (K : PySem.W.Frag) (f : Addr) (fd : FuncData), Fun K x x st f fd → KBinds K fd ps ks g gV
def g21 {α : Type} : List α → List α → List α
  | [], [a, b] => [b, a]
  | _, _ => []
def g1 {α : Type} : List α → List α → List α
  | [], [a] => [a]
  | _, _ => []
theorem g21_rel {vs : List V} {us : List Value} {zs : List V} {ws : List Value} (h : Vals vs us) (h' : Vals zs ws) : Vals (g21 vs zs) (g21 us ws) := by
  cases h with
  | cons _ _ => exact .nil
  | nil =>
    cases h' with
    | nil => exact .nil
    | cons a t =>
      cases t with
      | nil => exact .nil
      | cons b t =>
        cases t with
        | nil => exact .cons b (.cons a .nil)
        | cons _ _ => exact .nil
theorem g1_rel {vs : List V} {us : List Value} {zs : List V} {ws : List Value} (h : Vals vs us) (h' : Vals zs ws) : Vals (g1 vs zs) (g1 us ws) := by
  cases h with
  | cons _ _ => exact .nil
  | nil =>
    cases h' with
    | nil => exact .nil
    | cons a t =>
      cases t with
      | nil => exact .cons a .nil
      | cons _ _ => exact .nil
theorem kw21 {x p1 p2 : Str} {st : Stmt} (h : ∀ (kV doc pm : Value) (an : Option Addr) (cdv ct a b : Value), bindArgs (PySem.W.fnOf x x (defArgs st) (defBody st) (defScope st) .none kV doc pm an cdv ct) ⟨[], [(p2, a), (p1, b)]⟩ = pure [(p1, b), (p2, a)]) :
    KwOf x st [p1, p2] [p2, p1] g21 g21 := fun K f fd F => by
  obtain ⟨oc, od, kV, doc, pm, an, cdv, ct, osl, rfl, lk, hcd⟩ := F.ex
  refine ⟨fun s us ws _ hl => ?_, fun r r' => g21_rel r r'⟩
  match us, ws, hl with
  | [], [a, b], _ => exact .of_eq (h kV doc pm an cdv ct a b)
theorem kw1 {x p1 : Str} {st : Stmt} (h : ∀ (kV doc pm : Value) (an : Option Addr) (cdv ct a : Value), bindArgs (PySem.W.fnOf x x (defArgs st) (defBody st) (defScope st) .none kV doc pm an cdv ct) ⟨[], [(p1, a)]⟩ = pure [(p1, a)]) :
    KwOf x st [p1] [p1] g1 g1 := fun K f fd F => by
  obtain ⟨oc, od, kV, doc, pm, an, cdv, ct, osl, rfl, lk, hcd⟩ := F.ex
  refine ⟨fun s us ws _ hl => ?_, fun r r' => g1_rel r r'⟩
  match us, ws, hl with
  | [], [a], _ => exact .of_eq (h kV doc pm an cdv ct a)
section
variable {X : Cx} {x : Str} {st : Stmt} {ps ks : List Str} {k : Nat} {sp : Sp} {p pos : Pos} {e : Expr} {es : List Expr} {kws : List Keyword} {t tk : TA} {g : List Value → List Value → List Value} {gV : List V → List V → List V}
theorem pe_okK0 (h : OkF X.prog X.w X.K X.mg X.base x st ps k sp) (hb : KwOf x st ps ks g gV) (hr : Room k X.A) (hg : Gl X x) (hkw : PK X kws tk) (hall : (backToKw pos (keywordEach kws X.env)).all (·.1.isSome) = true := by rfl)
    (hks : (backToKw pos (keywordEach kws X.env)).filterMap (·.1) = ks := by rfl) (hdb : (x == ("__debug__" : Str)) = false := by decide)
    (hpl : ((backTo pos (starEach [] X.env)).any (·.1) || (backToKw pos (keywordEach kws X.env)).any (·.1.isNone)) = false := by rfl) : PE X (.Call (.Name x p) [] kws pos) (tCallK sp gV E0 tNil tk) := by
  obtain ⟨f, fd, D, F⟩ := h
  refine ⟨fun pins s σ H Q I h => ?_⟩
  refine wpAny_Call_Name_kw (ld_glob I hg D.m ?_ hdb)
  refine PySem.W.callWith_KW0 (h₀ := X.base) I.ok.mod.kin D.F.kp hall (thn (hkw.run pos pins s σ H _ I h) fun ws s2 ⟨zs, H2, I2, rz, q2⟩ => ⟨I2.kIn, ?_⟩) hpl
  rw [hks]
  exact run_fnk F hr (hb _ _ _ D.F) pass0 I2 .nil rz q2
end
/-! ### a < b of data -/
def rLtD (K : PySem.W.Frag) : R2 := fun x y H Q => ∃ dx dy, Dp K H x dx ∧ Dp K H y dy ∧ PySem.W.alike dx dy = true ∧ dx ≠ .none ∧ dx.depth ≤ 16 ∧ Q (.bl (PySem.W.dataLt dx dy)) H
theorem op_ltD {X : Cx} (hu : X.A.units + 64 < cLine) : OpR X (compareOp .Lt) (rLtD X.K) := by
  intro pins s σ H x y v u Q I rx ry h
  obtain ⟨dx, dy, hx, hy, ha, hn, hd, q⟩ := h
  obtain ⟨as, ra⟩ := Dp.reads I dx x v hx rx
  obtain ⟨bs, rb⟩ := Dp.reads I dy y u hy ry
  refine PySem.W.lt_data ra rb ha hn ?_ ⟨.bl (PySem.W.dataLt dx dy), H, I, rfl, q⟩
  have := Nat.min_le_left dx.depth dy.depth
  omega
theorem q_ltD (K : PySem.W.Frag) {X : Cx} (e : X.K = K) (hu : X.A.units + 64 < cLine) : OpR X (compareOp .Lt) (rLtD K) := by subst e; exact op_ltD hu
theorem ro_ltD {K : PySem.W.Frag} {x y : PyData} (ha : PySem.W.alike x y = true) (hn : x ≠ .none) (hd : x.depth ≤ 16) : ROp K (rLtD K) x y (.bool (PySem.W.dataLt x y)) := fun G H s vx vy dx dy Q q =>
  ⟨x, y, dp_mono s x dx, dp_mono s y dy, ha, hn, hd, q _ G H (Nx.refl s) (.bl _)⟩
end Gw
namespace Gw
open PySem PySem.Spec PyProof.Rows L2
/-! ### defs that may raise, error classes -/
structure Err (K : PySem.W.Frag) (mg : Str → Option Value) (x : Str) (C : Addr) : Prop where
  g : mg x = some (.ref C)
  x : PySem.W.excIn K C [.type "ValueError", .type "Exception", .type "BaseException", .type "object"] "ValueError.__new__" = true
  k : PySem.W.keepIn K (.ref C) = true
  b : PySem.W.subIn K (.ref C) (.type "BaseException") = some true
  t : PySem.W.typeIn K (.ref C) = some (.type "type")
def OkX (P : Program) (w : World) (K : PySem.W.Frag) (mg : Str → Option Value) (base : Heap) (x : Str) (st : Stmt) (ps : List Str) (k : Nat) (sp : Sp) : Prop :=
  ∃ (f : Addr) (fd : FuncData), DefAt K mg x st ps f fd ∧ FnOk P w K mg base (L2.CX P w) k f fd ps sp
theorem DefAt.okX {P : Program} {w : World} {K : PySem.W.Frag} {mg : Str → Option Value} {base : Heap} {x : Str} {st : Stmt} {ps : List Str} {f : Addr} {fd : FuncData} {k : Nat} {sp : Sp}
    (D : DefAt K mg x st ps f fd) (h : FnOk P w K mg base (L2.CX P w) k f fd ps sp) : OkX P w K mg base x st ps k sp := ⟨f, fd, D, h⟩
section
variable {X : Cx} {x : Str} {st : Stmt} {ps ks : List Str} {k : Nat} {sp : Sp} {p pos : Pos} {e : Expr} {es : List Expr} {kws : List Keyword} {t tk : TA} {g : List Value → List Value → List Value} {gV : List V → List V → List V} {E : XK}
theorem pe_okX (h : OkX X.prog X.w X.K X.mg X.base x st ps k sp) (hx : Passes (L2.CX X.prog X.w) X E) (hr : Room k X.A) (hg : Gl X x) (ha : PA X (e :: es) t) (hdb : (x == ("__debug__" : Str)) = false := by decide)
    (he : starEach (e :: es) X.env = (false, eval e X.env) :: starEach es X.env := by rfl) (hpl : (backTo pos (starEach es X.env)).any (·.1) = false := by rfl) : PE X (.Call (.Name x p) (e :: es) [] pos) (tCall sp [] E t) := by
  obtain ⟨f, fd, D, F⟩ := h
  exact pe_call F hr hg D.m D.F.kp D.b .nil hx ha hdb he hpl
theorem pe_okXK0 (h : OkX X.prog X.w X.K X.mg X.base x st ps k sp) (hb : KwOf x st ps ks g gV) (hx : Passes (L2.CX X.prog X.w) X E) (hr : Room k X.A) (hg : Gl X x) (hkw : PK X kws tk) (hall : (backToKw pos (keywordEach kws X.env)).all (·.1.isSome) = true := by rfl)
    (hks : (backToKw pos (keywordEach kws X.env)).filterMap (·.1) = ks := by rfl) (hdb : (x == ("__debug__" : Str)) = false := by decide)
    (hpl : ((backTo pos (starEach [] X.env)).any (·.1) || (backToKw pos (keywordEach kws X.env)).any (·.1.isNone)) = false := by rfl) : PE X (.Call (.Name x p) [] kws pos) (tCallK sp gV E tNil tk) := by
  obtain ⟨f, fd, D, F⟩ := h
  refine ⟨fun pins s σ H Q I h => ?_⟩
  refine wpAny_Call_Name_kw (ld_glob I hg D.m ?_ hdb)
  refine PySem.W.callWith_KW0 (h₀ := X.base) I.ok.mod.kin D.F.kp hall (thn (hkw.run pos pins s σ H _ I h) fun ws s2 ⟨zs, H2, I2, rz, q2⟩ => ⟨I2.kIn, ?_⟩) hpl
  rw [hks]
  exact run_fnk F hr (hb _ _ _ D.F) hx I2 .nil rz q2
end
/-! ### things of any kind: data, or a new dict -/
theorem ty_mono {K : PySem.W.Frag} {H H' : Hp} (s : Same H H') {p : Addr} {kvs : List (Key × V)} (h : H p = some (.dK kvs)) : TyX K H' (.ref p) (.type "dict") := .base (.dK (s _ _ h))
def Th (K : PySem.W.Frag) (G : Hp) (v : V) (x : PyData) : Prop := Dp K G v x ∨ (x = .dict [] ∧ ∃ p, v = .ref p ∧ G p = some (.dK []))
theorem Th.mono {K : PySem.W.Frag} {G G' : Hp} (s : Same G G') {v : V} {x : PyData} (h : Th K G v x) : Th K G' v x := h.imp (dp_mono s x) fun ⟨e, p, e1, e2⟩ => ⟨e, p, e1, s _ _ e2⟩
theorem Th.ty {K : PySem.W.Frag} {G H : Hp} (s : Same G H) {v : V} {x : PyData} (h : Th K G v x) : TyX K H v (.type (tyOf x)) := by
  rcases h with h | ⟨rfl, p, rfl, e⟩
  · exact dp_ty s h
  · exact ty_mono s e
theorem Th.tup {K : PySem.W.Frag} {G : Hp} {v : V} {xs : List PyData} (h : Th K G v (.tuple xs)) : Dp K G v (.tuple xs) := h.elim id fun z => nomatch z.1
theorem ed_isiTh {K : PySem.W.Frag} {σ : L2.St} {G : Hp} {i : Nat} {v : V} {x : PyData} {n : String} {b : Bool} (h : σ[i]? = some (some v)) (hv : Th K G v x) (hk : kitB (tyOf x) n = some b) : EvD K (tCB (rIsi K) (tCons (tVar i) (tCons (tC (.ty n)) tNil))) σ G (.bool b) := fun H s Q q =>
  ⟨v, h, v, .ty n, .type (tyOf x), .type n, b, rfl, .ty n, hv.ty s, kit_ty hk, q _ G H (Nx.refl s) (.bl b)⟩
end Gw
namespace Gw
open PySem PySem.Spec PyProof.Rows L2 LamX
/-! ### a lambda as a value -/
/-- at f stands the lambda with the closure cl, its code at c' -/
def LamAt (f : Addr) (q : Str) (params : Arguments) (body : Expr) (scope : Scope) (cl : List (Str × Addr)) (c' : Addr) (h : Heap) : Prop := ∃ (pm ctv : Value), h.get? f = some (PySem.W.kla_obj "<lambda>" q params body scope cl pm c' ctv)
def LamO (f : Addr) (q : Str) (params : Arguments) (body : Expr) (scope : Scope) (cl : List (Str × Addr)) (c' : Addr) : HO := .ext (LamAt f q params body scope cl c')
theorem lam_new {P : Program} {w : World} {H : Hp} {h : Heap} {f : Addr} {q : Str} {params : Arguments} {body : Expr} {scope : Scope} {cl : List (Str × Addr)} {c' : Addr} (e : LamAt f q params body scope cl c' h) : ObjOk P w H h f (LamO f q params body scope cl c') := by
  obtain ⟨pm, ctv, e⟩ := e
  exact ⟨⟨pm, ctv, e⟩, ⟨_, e⟩, fun h1 h2 ⟨a, b, e1⟩ k => ⟨a, b, k _ e1⟩⟩
def tLamV (T : List (Addr × Str)) (q : Str) (params : Arguments) (body : Expr) (scope : Scope) (cl : List (Str × Addr)) : TE := fun σ H Q =>
  Tabs T H ∧ ∀ f c' H1, ExtN H H1 → Tabs T H1 → H f = none → H1 f = some (LamO f q params body scope cl c') → H1 c' = some (CodeO c' q) → Q (.ref f) H1
section
variable {X : Cx} {T : List (Addr × Str)} {c P : Addr} {params : Arguments} {body : Expr} {scope : Scope} {pos : Pos}
theorem pe_lamV (TB : TabB X.base X.mg c P) (hcode : X.env.code = .ref c) (hm : (P, X.env.qual ++ "<lambda>") ∈ T) (hu : ∀ p ∈ T, p.1 = P → p.2 = X.env.qual ++ "<lambda>") (L : LamS X.env.scope scope) (hdef : defaultsOf params X.env = ([], [])) :
    PE X (.Lambda params body scope pos) (tLamV T (X.env.qual ++ "<lambda>") params body scope (cloFrom X.env.cells scope.names [])) := by
  refine ⟨fun pins s σ H Q I h => ?_⟩
  obtain ⟨hT, h⟩ := h
  obtain ⟨ps, hP, okp, known⟩ := hT _ hm
  have cells := L.has I.ok
  have bmP := TB.bm.keeps I.bk
  have tabP : s.heap.get? P = some { cls := .none, data := .fields ps } := I.hok P _ hP
  refine PySem.W.kla_eval hdef ?_
  cases hit : codeAmong pos ps.toList with
  | some cv =>
    obtain ⟨c', rfl, hco⟩ := known pos cv hit
    refine PySem.W.kla_makeFunctionHit (mg := X.mg) (c := c) (P := P) (ps := ps) (closure_ok cells) I.ok.glob (I.mod.glob.keeps I.bk) hcode (TB.code.keeps I.bk) tabP okp hit bmP fun ctv h' tk keep big => ?_
    have J := I.kept (h' := h') (t' := tk) keep
    have nf : H h'.objs.size = none := I.hok.fresh big
    have J2 := J.laid (t' := tk) (h' := h'.push (PySem.W.kla_obj "<lambda>" (X.env.qual ++ "<lambda>") params body scope (cloFrom X.env.cells scope.names []) ((X.mg "__name__").getD .none) c' ctv)) (a := h'.objs.size) (o := LamO h'.objs.size (X.env.qual ++ "<lambda>") params body scope (cloFrom X.env.cells scope.names []) c')
      (fun b u e => Heap.get?_push_of_some _ e) (Nat.le_refl _) (lam_new ⟨_, ctv, Heap.get?_push_size _ rfl⟩)
    have ext : ∀ b o, H b = some o → upd H h'.objs.size (LamO h'.objs.size (X.env.qual ++ "<lambda>") params body scope (cloFrom X.env.cells scope.names []) c') b = some o := fun b o e => (upd_ne (ne_of_none e nf)).trans e
    exact ⟨.ref h'.objs.size, _, J2, rfl, h _ c' _ (ExtN.of ext) (hT.ext ext) nf upd_same (ext _ _ hco)⟩
  | none =>
    refine PySem.W.kla_makeFunction (mg := X.mg) (c := c) (P := P) (ps := ps) (closure_ok cells) I.ok.glob (I.mod.glob.keeps I.bk) hcode (TB.code.keeps I.bk) tabP okp hit TB.gP bmP fun c' ctv h' tk keep big lt rec tab => ?_
    obtain ⟨c2, oc, vs, t, e2, at2, d2, n2⟩ := rec
    cases e2
    have nc : H c' = none := I.hok.fresh big
    have nPc : P ≠ c' := ne_of_none hP nc
    have J := inv_table (t' := tk) (more := #[rawInt pos.line, rawInt pos.col, .ref c']) (h' := h') I hP (fun b o hb e => keep b o hb e) tab big ⟨oc, vs, t, at2, d2, n2⟩
    generalize hH1 : upd (upd H P (.tbl (ps ++ #[rawInt pos.line, rawInt pos.col, .ref c']))) c' (CodeO c' (X.env.qual ++ "<lambda>")) = H1 at J
    have atc : H1 c' = some (CodeO c' (X.env.qual ++ "<lambda>")) := by rw [← hH1]; exact upd_same
    have atP : H1 P = some (.tbl (ps ++ #[rawInt pos.line, rawInt pos.col, .ref c'])) := by rw [← hH1, upd_ne nPc]; exact upd_same
    have other : ∀ b o, b ≠ P → H b = some o → H1 b = some o := fun b o hb e => by rw [← hH1, upd_ne (ne_of_none e nc), upd_ne hb]; exact e
    have e1 : ExtN H H1 := fun b o e n => other b o (fun z => n ps (Option.some.inj (e.symm.trans (by rw [z]; exact hP)))) e
    have T1 : Tabs T H1 := fun p hp => by
      by_cases hb : p.1 = P
      · rw [hu p hp hb, hb]
        have eL : (ps ++ #[rawInt pos.line, rawInt pos.col, Value.ref c']).toList = ps.toList ++ [rawInt pos.line, rawInt pos.col, .ref c'] := by simp
        refine ⟨_, atP, by rw [eL]; exact PySem.TriplesOk_snoc _ _ _ _ okp, fun p' cv hcv => ?_⟩
        rw [eL] at hcv
        rcases among_app _ okp hcv with z | z
        · obtain ⟨c0, z1, z2⟩ := known p' cv z
          exact ⟨c0, z1, e1 _ _ z2 codeO_ne⟩
        · exact ⟨c', z, atc⟩
      · obtain ⟨ps', z1, z2, z3⟩ := hT p hp
        refine ⟨ps', other _ _ hb z1, z2, fun p' cv hcv => ?_⟩
        obtain ⟨c0, y1, y2⟩ := z3 p' cv hcv
        exact ⟨c0, y1, e1 _ _ y2 codeO_ne⟩
    have nf1 : H1 h'.objs.size = none := J.hok.fresh (Nat.le_refl _)
    have bigf : s.heap.objs.size ≤ h'.objs.size := Nat.le_trans big (Nat.le_of_lt lt)
    have J2 := J.laid (t' := tk) (h' := h'.push (PySem.W.kla_obj "<lambda>" (X.env.qual ++ "<lambda>") params body scope (cloFrom X.env.cells scope.names []) ((X.mg "__name__").getD .none) c' ctv)) (a := h'.objs.size) (o := LamO h'.objs.size (X.env.qual ++ "<lambda>") params body scope (cloFrom X.env.cells scope.names []) c')
      (fun b u e => Heap.get?_push_of_some _ e) (Nat.le_refl _) (lam_new ⟨_, ctv, Heap.get?_push_size _ rfl⟩)
    have ext : ∀ b o, H1 b = some o → upd H1 h'.objs.size (LamO h'.objs.size (X.env.qual ++ "<lambda>") params body scope (cloFrom X.env.cells scope.names []) c') b = some o := fun b o e => (upd_ne (ne_of_none e nf1)).trans e
    exact ⟨.ref h'.objs.size, _, J2, rfl, h _ c' _ (e1.trans (ExtN.of ext)) (T1.ext ext) (I.hok.fresh bigf) upd_same (ext _ _ atc)⟩
end
end Gw
namespace Gw
open PySem PySem.Spec PyProof.Rows L2 LamX
/-! ### a def that calls what it got, called with a lambda that is a value -/
section
variable {X : Cx} {pins : List (Addr × Obj)} {σ : L2.St} {H : Hp} {s : Shared}
/-- what was told of is told of no more -/
theorem Inv_forget {f : Addr} {φ : Heap → Prop} (I : Inv X pins σ H s) (hf : H f = some (.ext φ)) : Inv X pins σ (delH H f) s := by
  have off : ∀ b o, H b = some o → (∀ ψ, o ≠ .ext ψ) → delH H f b = some o := fun b o e n => (delH_ne fun z => n φ (Option.some.inj (e.symm.trans (by rw [z]; exact hf)))).trans e
  have nn : ∀ b, H b = none → delH H f b = none := fun b e => by
    by_cases z : b = f
    · rw [z]; exact delH_same
    · exact (delH_ne z).trans e
  refine ⟨I.ok, I.os, I.bare, ⟨I.base.keep, I.base.slot, fun b o e n hx => nn b (I.base.free b o e n hx), I.base.there, fun b xs e => off b _ (I.base.tups b xs e) (fun _ z => nomatch z), fun b o u e => off b _ (I.base.frzs b o u e) (fun _ z => nomatch z), fun b ps e => ?_⟩, I.loc, I.cell, nn _ I.free, fun x c e => nn _ (I.freeC x c e), fun p hp => ?_, fun b u e => ?_, I.len⟩
  · obtain ⟨more, z⟩ := I.base.tbls b ps e
    exact ⟨more, off b _ z fun _ z => nomatch z⟩
  · obtain ⟨q1, q2, q3⟩ := I.pin p hp
    exact ⟨q1, nn _ q2, q3⟩
  · have hb : b ≠ f := fun z => by rw [z, delH_same] at e; cases e
    rw [delH_ne hb] at e
    exact (I.hok b u e).stay (fun _ _ _ z => z) (fun c z => off c _ z fun _ z => nomatch z) fun c xs z => off c _ z fun _ z => nomatch z
/-- which lambdas may come, and how their bodies read -/
structure Lams (X : Cx) (k : Nat) (Cand : Arguments → Expr → Scope → (XK → TE) → Prop) : Prop where
  sc : ∀ params body scope t, Cand params body scope t → LamS X.env.scope scope
  bind : ∀ params body scope t, Cand params body scope t → ∀ (q : Str) (cl : List (Str × Addr)) (pm cv ctv : Value), bindArgs (PySem.W.kla_fn "<lambda>" q params body scope cl pm cv ctv) ⟨[], []⟩ = pure []
  body : ∀ params body scope t, Cand params body scope t → ∀ (A : Around) (outer : List Env) (s : Shared) (H : Hp) (E : XK) (f c' : Addr), Room k (A.deeper (lamEnv X scope s.heap.objs.size f c')) → PE (lamCx X A outer s H E scope f c') body (t E)
def tGiv (X : Cx) (Cand : Arguments → Expr → Scope → (XK → TE) → Prop) (TT : (XK → Hp → VK → Prop) → Hp → VK → Prop) (te : TE) : TE := fun σ H Q => te σ H fun v H1 => ∃ (f c' : Addr) (params : Arguments) (body : Expr) (scope : Scope) (t : XK → TE),
  Cand params body scope t ∧ v = .ref f ∧ H1 f = some (LamO f (X.env.qual ++ "<lambda>") params body scope (cloFrom X.env.cells scope.names []) c') ∧ H1 c' = some (CodeO c' (X.env.qual ++ "<lambda>")) ∧ c' ≠ f ∧ TT (fun E H' Q' => t E σ H' Q') (delH H1 f) Q
theorem pe_giv {Cand : Arguments → Expr → Scope → (XK → TE) → Prop} {TT : (XK → Hp → VK → Prop) → Hp → VK → Prop} {x a : Str} {g : Addr} {k : Nat} {pg : Arguments} {bg : List Stmt} {sg : Scope} {dV kV doc pm cdv ct oc : Value} {an od : Option Addr} {osl : Array (Option Value)} {Ng : List Str}
    {e : Expr} {te : TE} {p pos : Pos} (hg : Gl X x) (hm : X.mg x = some (.ref g)) (hk : PySem.W.keepIn X.K (.ref g) = true)
    (lk : X.K.lookup g = some ⟨oc, od, .func (PySem.W.fnOf x x pg bg sg dV kV doc pm an cdv ct), osl⟩) (hcg : PySem.W.codeIn X.K cdv x = true) (hb : L2.Binds X.K (PySem.W.fnOf x x pg bg sg dV kV doc pm an cdv ct) [a] []) (Sg : FnScope Ng [a] sg) (hNg : Ng[0]? = some a) (hva : Vis sg a)
    (hG : GivesTo X Ng x sg g cdv bg a (X.env.qual ++ "<lambda>") TT) (hr : Room (k + 2) X.A) (hex : X.ex = []) (C : Lams X k Cand) (he : PE X e te) (hst : starEach [e] X.env = [(false, eval e X.env)] := by rfl)
    (hdb : (x == ("__debug__" : Str)) = false := by decide) (hd : (a == ("__debug__" : Str)) = false := by decide) (hcd : (a == ("__classdict__" : Str)) = false := by decide) :
    PE X (.Call (.Name x p) [e] [] pos) (tGiv X Cand TT te) := by
  refine ⟨fun pins s σ H Q I h => ?_⟩
  refine wpAny_Call_Name_kw (ld_glob I hg hm ?_ hdb)
  refine PySem.W.callWith_K (h₀ := X.base) I.ok.mod.kin hk ?_ hst (by rfl)
  rw [hst]
  show wpAny _ _ (spliced ((false, eval e X.env) :: backTo pos (starEach [] X.env))) _ _ s
  refine Calls.spliced_cons (thn (he.run pins s σ H _ I h) fun u s' ⟨v, H1, I1, rv, f, c', params, body, scope, t, hC, ev, hf, hco, hne, htt⟩ => ?_)
  subst ev
  cases rv
  refine Calls.spliced_nil ⟨I1.kIn, ?_⟩
  obtain ⟨⟨pm', ctv, at1⟩, _⟩ := I1.hok f _ hf
  have I2 := Inv_forget I1 hf
  have fr : f ∉ frs X.stack := fun z => by
    have := I1.stkFree f z
    rw [hf] at this
    cases this
  have hco2 : delH H1 f c' = some (CodeO c' (X.env.qual ++ "<lambda>")) := (delH_ne hne).trans hco
  have rc : codeAny (model X.prog X.w) X.A (.call (.ref g) ⟨[.ref f], []⟩) (CR C8.CX0 X.stack X.prog X.w (delH H1 f) s' Q C8.E0) s' := by
    refine run_ofS (N := Ng) (ps := [a]) (us := [.ref f]) (vs := [.ref f]) lk hcg Sg hr I2.env0 (hb s' [.ref f] I1.kIn rfl) (.cons rfl .nil) rfl fun hr' => ?_
    obtain ⟨t', ht', hq'⟩ := hG f c' s' (delH H1 f) Q (fun E H' Q' => t E σ H' Q') (fun W pn xe E p1 p2 tk hW => pe_act (i := 0) I2 (C.sc _ _ _ _ hC) at1 delH_same fr (C.bind _ _ _ _ hC _ _ _ _ _) tk hW hr' (fun A outer s H hr2 => C.body _ _ _ _ hC A outer s H E f c' hr2) hNg hva hd hcd) hco2 htt
    exact ⟨t', ht'.nox, hq'⟩
  refine wpAny_call (codeAny_mono rc fun r s2 hq => ?_)
  cases r with
  | error e => exact (show False from hq).elim
  | ok fl =>
    cases fl with
    | ret u => exact I2.after hq
    | next => exact False.elim hq
    | brk => exact False.elim hq
    | cont => exact False.elim hq
end
end Gw
namespace Gw
open PySem PySem.Spec PyProof.Rows L2
/-! ### isinstance of None or of an error that was kept -/
def rIsC (K : PySem.W.Frag) : List V → Hp → VK → Prop := fun xs H Q => (∃ (C : Addr) (b : Bool), xs = [.non, .ref C] ∧ PySem.W.kitOne K (.type "NoneType") (.ref C) = some b ∧ Q (.bl b) H) ∨
  ∃ (a D C : Addr) (b : Bool), xs = [.ref a, .ref C] ∧ H a = some (ErrO (.ref D) none a) ∧ ExcC K D ∧ PySem.W.kitOne K (.ref D) (.ref C) = some b ∧ Q (.bl b) H
theorem cr_isC {X : Cx} : CallR X (.builtin "isinstance") (rIsC X.K) := by
  intro pins s σ H xs us Q I r h
  rcases h with ⟨C, b, rfl, e, q⟩ | ⟨a, D, C, b, rfl, ha, T, e, q⟩
  · exact call_isi pins s σ H _ us Q I r ⟨.non, .ref C, .type "NoneType", .ref C, b, rfl, .own C, .base .non, e, q⟩
  · obtain ⟨u1, u2, rfl, r1, r2⟩ := vals2 r
    cases r1
    cases r2
    obtain ⟨⟨oe, vs, at1, ⟨z1, z2⟩, d1⟩, _⟩ := I.hok a _ ha
    have J : PySem.W.InstAt s.heap a oe D none := by
      obtain ⟨oc, od, dat, osl⟩ := oe
      dsimp only at z1 z2 d1
      subst z1 z2 d1
      exact ⟨at1, rfl, rfl, trivial⟩
    exact PySem.W.kia_one (PySem.W.handS_kitx_exc T.hg T.hk T.hs T.hd T.ha T.hn T.ht T.hm) I.kIn J e (fun z => nomatch z) fun tk => ⟨.bl b, H, I.tok tk, rfl, q⟩
end Gw
namespace Gw
open PySem PySem.Spec PyProof.Rows L2 LamX
/-- every lambda whose body reads so -/
def Good (X : Cx) (k : Nat) : Arguments → Expr → Scope → (XK → TE) → Prop := fun params body scope t => LamS X.env.scope scope ∧ (∀ (q : Str) (cl : List (Str × Addr)) (pm cv ctv : Value), bindArgs (PySem.W.kla_fn "<lambda>" q params body scope cl pm cv ctv) ⟨[], []⟩ = pure []) ∧
  ∀ (A : Around) (outer : List Env) (s : Shared) (H : Hp) (E : XK) (f c' : Addr), Room k (A.deeper (lamEnv X scope s.heap.objs.size f c')) → PE (lamCx X A outer s H E scope f c') body (t E)
theorem lams_good {X : Cx} {k : Nat} : Lams X k (Good X k) := ⟨fun _ _ _ _ h => h.1, fun _ _ _ _ h => h.2.1, fun _ _ _ _ h => h.2.2⟩
end Gw
namespace Gw
open PySem PySem.Spec PyProof.Rows L2
/-- one of several defs that may raise, all of one promise, held by a name -/
structure HeldX (P : Program) (w : World) (K : PySem.W.Frag) (mg : Str → Option Value) (base : Heap) (k : Nat) (sp : Sp) (f : Addr) : Prop where
  ex : ∃ (fd : FuncData) (ps : List Str), FnOk P w K mg base (L2.CX P w) k f fd ps sp ∧ PySem.W.keepIn K (.ref f) = true ∧ Binds K fd ps []
theorem OkX.held {P : Program} {w : World} {K : PySem.W.Frag} {mg : Str → Option Value} {base : Heap} {x : Str} {st : Stmt} {ps : List Str} {k : Nat} {sp : Sp} (h : OkX P w K mg base x st ps k sp) : ∃ f, mg x = some (.ref f) ∧ HeldX P w K mg base k sp f := by
  obtain ⟨f, fd, D, F⟩ := h
  exact ⟨f, D.m, ⟨fd, ps, F, D.F.kp, D.b⟩⟩
def tHeld (i : Nat) (S : Addr → Prop) (sp : Sp) (E : XK) (t : TA) : TE := fun σ H Q => ∃ f, σ[i]? = some (some (.ref f)) ∧ S f ∧ t σ H fun vs H1 => sp (vs ++ []) H1 Q E
theorem pe_held {X : Cx} {S : Addr → Prop} {sp : Sp} {E : XK} {k i : Nat} {x : Str} {p pos : Pos} {e : Expr} {es : List Expr} {t : TA} (A : ∀ f, S f → HeldX X.prog X.w X.K X.mg X.base k sp f) (hx : Passes (L2.CX X.prog X.w) X E) (hr : Room k X.A) (hN : X.N[i]? = some x) (hv : Vis X.env.scope x) (ha : PA X (e :: es) t)
    (hdb : (x == ("__debug__" : Str)) = false := by decide) (hcd : (x == ("__classdict__" : Str)) = false := by decide)
    (he : starEach (e :: es) X.env = (false, eval e X.env) :: starEach es X.env := by rfl) (hpl : (backTo pos (starEach es X.env)).any (·.1) = false := by rfl) : PE X (.Call (.Name x p) (e :: es) [] pos) (tHeld i S sp E t) := by
  refine ⟨fun pins s σ H Q I h => ?_⟩
  obtain ⟨f, hs, hS, ht⟩ := h
  obtain ⟨fd, ps, F, hk, hb⟩ := (A f hS).ex
  exact (pe_callL (i := i) (f := f) (sp := sp) (dvs := []) (E := E) F hr hN hv hk hb .nil hx ha hdb hcd he hpl).run pins s σ H Q I ⟨hs, ht⟩
end Gw
namespace PySem
namespace SupX
open PySem.W PySem.Calls PyProof.Rows PySem.HandSPX
/-! ### own errors whose __init__ calls super().__init__(text) and keeps one thing -/
def eA (f : Str) (p1 p2 : Pos) : Arguments := { posonlyargs := [], args := [{ arg := "self", annotation := none, pos := p1 }, { arg := f, annotation := none, pos := p2 }], vararg := none, kwonlyargs := [], kw_defaults := [], kwarg := none, defaults := [] }
def eB (f txt : Str) (q1 q2 q3 q4 q5 q6 r1 r2 r3 r4 : Pos) : List Stmt :=
  [.Expr (.Call (.Attribute (.Call (.Name "super" q1) [] [] q2) "__init__" q3) [.Constant (.str txt) 0 q4] [] q5) q6, .Assign [.Attribute (.Name "self" r1) f r2] (.Name f r3) r4]
def eS (f : Str) : Scope := { kind := .function, names := [("self", .local), (f, .local), ("__class__", .free), ("super", .globalImplicit)], isGenerator := false, isCoroutine := false, more := [] }
/-- what is asked of the name of the thing that is kept -/
structure FldOk (f : Str) : Prop where
  l1 : (eS f).names.lookup ("self" : Str) = some .local
  l2 : (eS f).names.lookup f = some .local
  l3 : (eS f).names.lookup ("__class__" : Str) = some .free
  l4 : (eS f).names.lookup ("super" : Str) = some .globalImplicit
  nc : ∀ x ∈ (eS f).names, x.2 ≠ .cell
  nd : (f == ("__debug__" : Str)) = false
  ns : (f == ("self" : Str)) = false
  bd : ∀ (qn : Str) (p1 p2 : Pos) (b : List Stmt) (doc pm : Value) (an : Option Addr) (cd ct : Value) (cc : Addr) (a v : Value), bindArgs (ksFn "__init__" qn (eA f p1 p2) b (eS f) .none .none doc pm an cd ct cc) ⟨[a, v], []⟩ = pure [(("self" : Str), a), (f, v)]
theorem fld_part : FldOk "part" := ⟨rfl, rfl, rfl, rfl, by decide, rfl, rfl, fun _ _ _ _ _ _ _ _ _ _ _ _ => rfl⟩
theorem fld_most : FldOk "most" := ⟨rfl, rfl, rfl, rfl, by decide, rfl, rfl, fun _ _ _ _ _ _ _ _ _ _ _ _ => rfl⟩
structure SupTxt (prog : Program) (K : Frag) (mg : Str → Option Value) (x f : Str) (C fI : Addr) : Prop where
  gC : mg x = some (.ref C)
  cls : ∃ nm q N bs bm sn sub ab col dd k0 k1 k2 k3 k5, K.lookup C = some (excClassObj nm q C N bs bm true sn sub ab col dd k0 k1 k2 k3 k5 "ValueError.__new__") ∧ refsVE bm = true
  sa : findIn K (.ref C) "__setattr__" = some (some (.builtin "object.__setattr__"))
  ga : findIn K (.ref C) "__getattribute__" = some (some (.builtin "BaseException.__getattribute__"))
  gg : findIn K (.ref C) "__getattr__" = some none
  noN : findIn K (.ref C) f = some none
  iC : findIn K (.ref C) "__init__" = some (some (.ref fI))
  tC : typeIn K (.ref fI) = some (.type "function")
  kC : keepIn K (.ref C) = true
  exC : subIn K (.ref C) (.type "BaseException") = some true
  veC : subIn K (.ref C) (.type "ValueError") = some true
  tyC : typeIn K (.ref C) = some (.type "type")
  hdC : hasDictIn K C = true
  mC : mroIn K C (.ref C) = some true
  sup : ks_superIn K C C "__init__" = some (some (.builtin "ValueError.__init__"))
  op : nsIn K cStatics "thirdparty.any" = some none
  noS : mg "super" = none
  top : (prog.main.scope.names.lookup ("super" : Str)).isSome = false
  nf : FldOk f
  fn : ∃ (oc : Value) (od : Option Addr) (doc pm : Value) (an : Option Addr) (cda : Addr) (ct : Value) (osl : Array (Option Value)) (cc : Addr) (p1 p2 : Pos) (txt : Str) (q1 q2 q3 q4 q5 q6 r1 r2 r3 r4 : Pos) (qn : Str) (ccl cl : Value) (cdd cld : Option Addr) (vs : Array Value) (ccs csl : Array (Option Value)) (file : Str) (tf : Tok), (q3.endLine == q5.line) = true ∧
    K.lookup fI = some ⟨oc, od, .func (ksFn "__init__" qn (eA f p1 p2) (eB f txt q1 q2 q3 q4 q5 q6 r1 r2 r3 r4) (eS f) .none .none doc pm an (.ref cda) ct cc), osl⟩ ∧ codeIn K (.ref cda) qn = true ∧
    K.lookup cda = some ⟨ccl, cdd, .fields vs, ccs⟩ ∧ vs[2]? = some (.str file tf) ∧ ((prog.main.file : Str) == file) = true ∧ K.lookup cc = some ⟨cl, cld, .cell (some (.ref C)), csl⟩
theorem sup_he {env : Env} {txt : Str} {q1 q2 q3 q4 q5 : Pos} (hq : (q3.endLine == q5.line) = true) : eval (.Call (.Attribute (.Call (.Name "super" q1) [] [] q2) "__init__" q3) [.Constant (.str txt) 0 q4] [] q5) env = (do
      let ov ← attributeBase (.Call (.Name "super" q1) [] [] q2) "__init__" env (eval (.Call (.Name "super" q1) [] [] q2) env)
      standAt q3.atName
      let (f, first) ← holding [ov] (getMethod ov "__init__" (do return (← importBound (.Call (.Name "super" q1) [] [] q2) env).getD true))
      callWith q5 f first (backTo q5 (starEach [.Constant (.str txt) 0 q4] env)) []) := by
  have e : methodCallPos true (.Call (.Name "super" q1) [] [] q2) env q3 q5 = pure q5 := if_pos (by rw [hq]; rfl)
  show (do
      let ov ← attributeBase (.Call (.Name "super" q1) [] [] q2) "__init__" env (eval (.Call (.Name "super" q1) [] [] q2) env)
      standAt q3.atName
      let (f, first) ← holding [ov] (getMethod ov "__init__" (do return (← importBound (.Call (.Name "super" q1) [] [] q2) env).getD true))
      let callPos ← methodCallPos true (.Call (.Name "super" q1) [] [] q2) env q3 q5
      callWith callPos f first (backTo q5 (starEach [.Constant (.str txt) 0 q4] env)) []) = _
  rw [e]
  simp only [pure_bind]
/-! the bound __init__ of ValueError, called -/
section
variable {prog : Program} {w : World} {A : Around} {E : Value → Shared → Prop} {h : Heap} {g : Array GenState} {d : Drawn} {t : Nat} {os : OsState}
variable {nm q : Str} {C N : Addr} {bs bm : List Value} {hdct : Bool} {sn : List Str} {sub : List Value} {ab : Bool} {col : Option Bool} {dd : Option Addr} {k0 k1 k2 k3 k5 : Option Value}
theorem call_mw {u e t0 : Addr} {rest : List Value} {Q : Value → Shared → Prop}
    (hC : h.get? C = some (excClassObj nm q C N bs bm hdct sn sub ab col dd k0 k1 k2 k3 k5 "ValueError.__new__")) (he : h.get? e = some (excO C t0)) (hu : h.get? u = some (kxs_mw "ValueError.__init__" e)) (hrest : rest.length ≤ sizeLine)
    (hq : ∀ h' t1, (∀ b o, b ≠ e → h.get? b = some o → h'.get? b = some o) → h'.get? e = some (excO C t1) → Q .none ⟨h', g, d, t, os⟩) :
    wpAny (model prog w) A (call (.ref u) rest) Q E ⟨h, g, d, t, os⟩ := by
  refine wpAny_call (codeAny_of_tree ?_)
  show wpAny _ A.in1 (callAny (.ref u) ⟨rest, []⟩) _ _ _
  simp only [callAny]
  refine wpAny_bind (wpAny_load hu ?_)
  simp only [kxs_mw, show (Value.type "method-wrapper" == Value.type "method" || Value.type "method-wrapper" == Value.type "builtin_function_or_method" || Value.type "method-wrapper" == Value.type "method-wrapper") = true by decide, if_true]
  refine W.KFB.if_so (by decide) ?_
  refine wpAny_bind (check_bound_init F.excBase_ValueError.toExcCallFacts hC he rfl ?_)
  refine wpAny_bind (wpAny_pure (wpAny_pure ?_))
  refine ⟨plainId_quiet F.excBase_ValueError.init.plain _, codeAny_builtin F.excBase_ValueError.initEntry ?_⟩
  exact exc_init_tree (cls := .ref C) (t0 := t0) (dv := none) (c2 := .none) (c3 := .none) (b4 := .bool false) he hrest fun h' k e' _ => hq h' _ k e'
end
structure InitEnd (h h' : Heap) (x C dx t1 : Addr) (f : Str) (v : Value) : Prop where
  keep : ∀ b o, b ≠ x → h.get? b = some o → h'.get? b = some o
  obj : h'.get? x = some { cls := .ref C, dict := some dx, data := .fields #[.ref t1, .none, .none, .none, .bool false, .none] }
  dbig : h.objs.size ≤ dx
  dne : dx ≠ x
  ns : h'.Ns1 dx (fun y => if y = f then some v else none)
theorem one_size (v : Value) : [v].length ≤ sizeLine := by
  rw [sizeLine_eq]
  exact (by decide : 1 ≤ 16777216)
theorem kept_but {K : Frag} {h h' : Heap} {x : Addr} (X : K.In h) (hx : K.lookup x = none) (k : ∀ b o, b ≠ x → h.get? b = some o → h'.get? b = some o) : K.In h' := fun a o e =>
  k a o (fun z => by rw [z, hx] at e; cases e) (X a o e)
section
variable {prog : Program} {w : World} {A : Around} {E : Value → Shared → Prop} {R : Result → Shared → Prop} {s : Shared} {K : Frag} {mg mb : Str → Option Value} {xn f : Str} {C fI : Addr}
theorem sup_init (T : SupTxt prog K mg xn f C fI) {x t0 : Addr} {v : Value} (X : K.In s.heap) (hg : s.heap.Ns mainGlobals mg) (hb : s.heap.Ns builtinsNs mb) (hbb : ∀ y : Str, y ≠ "__name__" → mb y = bootBuiltins y) (hlim : s.heap.NoLimit) (hx : s.heap.get? x = some (excO C t0)) (hnx : K.lookup x = none) (hroom : A.depth < recursionLimit)
    (hq : ∀ h' tk dx t1, InitEnd s.heap h' x C dx t1 f v → R (.ok (.ret .none)) { s with heap := h', toks := tk }) :
    codeAny (model prog w) A (.call (.ref fI) ⟨[.ref x, v], []⟩) R s := by
  obtain ⟨oc, od, doc, pm, an, cda, ct, osl, cc, p1, p2, txt, q1, q2, q3, q4, q5, q6, r1, r2, r3, r4, qn, ccl, cl, cdd, cld, vs, ccs, csl, file, tf, hpos, ho, hcd, hcode, hvs, hfile, hcell⟩ := T.fn
  obtain ⟨nm, q, N, bs, bm, sn, sub, ab, col, dd, k0, k1, k2, k3, k5, hC, hbm⟩ := T.cls
  have hcl : clsIn K C = some { name := nm, bases := bs, mro := .ref C :: bm, ns := N, qualname := q, hasDict := true, slotNames := sn, subclasses := sub, abstract := ab, collection := col, hasDel := false } := by unfold clsIn; rw [hC] <;> rfl
  refine ks_codeAny_call_defAt (binds := [(("self" : Str), .ref x), (f, v)]) hroom (X _ _ ho) rfl hlim (codeRec_of X hcd) rfl (BindsTo.of_eq (T.nf.bd _ _ _ _ _ _ _ _ _ _ _ _)) T.nf.nc ?l (fun h₁ hns k => ?_) rfl rfl rfl
  case l =>
    intro y hy
    rcases List.mem_cons.mp hy with rfl | hy
    · exact T.nf.l1
    · rw [List.mem_singleton.mp hy]; exact T.nf.l2
  have X₁ : K.In h₁ := X.keeps k
  have hx₁ := k _ _ hx
  have hxL : s.heap.objs.size ≠ x := Nat.ne_of_gt (Heap.lt_size hx)
  obtain ⟨hp, g, d, tk0, os⟩ := s
  dsimp only at X hg hb hlim hx hns k hxL ⊢
  have m1 : [(("self" : Str), Value.ref x), (f, v)].reverse.lookup ("self" : Str) = some (.ref x) := by
    have : (("self" : Str) == f) = false := by
      have := T.nf.ns
      rw [beq_eq_false_iff_ne] at this ⊢
      exact fun z => this z.symm
    show [(f, v), (("self" : Str), Value.ref x)].lookup ("self" : Str) = _
    simp [List.lookup, this]
  have m2 : [(("self" : Str), Value.ref x), (f, v)].reverse.lookup f = some v := by
    show [(f, v), (("self" : Str), Value.ref x)].lookup f = _
    simp [List.lookup]
  show _root_.PySem.wpAt _ _ (.func (eB f txt q1 q2 q3 q4 q5 q6 r1 r2 r3 r4) (ksEnv qn (eS f) hp.objs.size fI (.ref cda) cc)) (execs (eB f txt q1 q2 q3 q4 q5 q6 r1 r2 r3 r4) (ksEnv qn (eS f) hp.objs.size fI (.ref cda) cc)) _ _ _
  refine ks_wpAt_execs_cons (ks_wpAt_Expr_any (ks_wpAt_MethodCall ?_ (sup_he hpos)))
  refine ks_wpAt_super_base (env := ksEnv qn (eS f) hp.objs.size fI (.ref cda) cc) T.nf.l4 T.nf.l3 (by decide) rfl (X₁ _ _ ho) rfl rfl rfl (X₁ _ _ hcode) rfl hvs hfile T.top ?_
  refine ks_loadName_global rfl T.nf.l4 (loadGlobal_builtin (env := ksEnv qn (eS f) hp.objs.size fI (.ref cda) cc) (hg.keeps k) T.noS (hb.keeps k) ((hbb _ (by decide +kernel)).trans (by first | boot_by_name | rfl | kernel_rfl)) ⟨rfl, ?_⟩)
  refine wpAny_loadName_free rfl T.nf.l3 rfl ⟨_, X₁ _ _ hcell, rfl⟩ ?_
  refine wpAny_loadName_local rfl T.nf.l1 hns m1 ?_
  refine ks_wpAny_isType_cls (X₁ _ _ hC) rfl ⟨rfl, ?_⟩
  refine ks_wpAny_call_super (X₁ _ _ hC) rfl hx₁ rfl (fun c e => by cases e) (looks_mroIn X₁ T.mC) (fun h₂ eso k₂ => ?_)
  have X₂ : K.In h₂ := X₁.keeps k₂
  have hx₂ := k₂ _ _ hx₁
  have I₂ : InstAt h₂ x (excO C t0) C none := ⟨hx₂, rfl, rfl, trivial⟩
  have hsup : alongIn K "__init__" (((Value.ref C :: bm).dropWhile (· != .ref C)).drop 1) = some (some (.builtin "ValueError.__init__")) := by
    have e := T.sup
    unfold ks_superIn at e
    rw [hcl] at e
    exact e
  refine kxs_getMethod kxs_ValueError eso (looks_opaque X₂ T.op) (l₀ := Value.ref C :: bm) (fun A Q E s k q => wpAny_bind ((looks_clsIn X₂ hcl) A _ E s k (wpAny_pure q))) rfl X₂ hsup (I₂.type.andThen (looks_subIn X₂ T.veC)) (ks_ne X₂ I₂ hcl) (by decide) ?_
  have k₃ : ∀ b o, h₂.get? b = some o → (h₂.push (kxs_mw "ValueError.__init__" x)).get? b = some o := fun b o e => Heap.get?_push_of_some _ e
  have hx₃ := k₃ _ _ hx₂
  have hmw : (h₂.push (kxs_mw "ValueError.__init__" x)).get? h₂.objs.size = some (kxs_mw "ValueError.__init__" x) := Heap.get?_push_at rfl rfl
  refine kxs_callWith (i := "ValueError.__init__") (x := x) (by rfl) (evalArgs_plain ?_)
  refine spliced_cons (Constant_str (pos := q4) (k := 0) (spliced_nil ⟨hmw, ?_⟩))
  refine call_mw (X₂.keeps k₃ _ _ hC) hx₃ hmw (one_size _) fun h₄ t1 k₄ hx₄ => ?_
  have X₄ : K.In h₄ := kept_but (X₂.keeps k₃) hnx k₄
  have hns₄ : h₄.Ns hp.objs.size (fun y => [(("self" : Str), Value.ref x), (f, v)].reverse.lookup y) := ((hns.keeps k₂).keeps k₃).at fun o q => k₄ _ _ hxL q
  refine ks_wpAt_execs_cons (wpAt_of_wpAny (plainObj_wpAny_Assign_Attribute ?_))
  refine wpAny_Name (wpAny_loadName_local rfl T.nf.l2 hns₄ m2 ?_) T.nf.nd
  refine wpAny_Name (wpAny_loadName_local rfl T.nf.l1 hns₄ m1 ?_) (by decide)
  refine set_plain X₄ (ox := excO C t1) (od := none) ⟨hx₄, rfl, rfl, trivial⟩ T.sa ?_
  refine exc_osa X₄ hx₄ hcl (show refsVE (.ref C :: bm) = true from hbm) rfl T.noN (fun h₅ tk₅ dx k₅ dn dne hx₅ hn₅ => ?_)
  refine wpAt_of_wpAny (wpAny_execs_nil (hq h₅ tk₅ dx t1 ⟨fun b o hb e => k₅ b o hb (k₄ b o hb (k₃ _ _ (k₂ _ _ (k b o e)))), hx₅, ?_, dne, hn₅⟩))
  exact Nat.le_of_lt (Nat.lt_of_lt_of_le hns₄.lt dn)
/-- a made error -/
structure OwnMade (h h' : Heap) (e C d : Addr) (f : Str) (v : Value) : Prop where
  keep : ∀ b o, h.get? b = some o → h'.get? b = some o
  new : h.objs.size ≤ e
  obj : ∃ oe vs, h'.get? e = some oe ∧ oe.cls = .ref C ∧ oe.dict = some d ∧ oe.data = .fields vs ∧ vs[1]? = some .none
  dbig : h.objs.size ≤ d
  dne : d ≠ e
  ns : h'.Ns1 d (fun y => if y = f then some v else none)
theorem sup_made (T : SupTxt prog K mg xn f C fI) {v : Value} (X : K.In s.heap) (hg : s.heap.Ns mainGlobals mg) (hb : s.heap.Ns builtinsNs mb) (hbb : ∀ y : Str, y ≠ "__name__" → mb y = bootBuiltins y) (hlim : s.heap.NoLimit) (hroom : A.depth + 1 < recursionLimit)
    (hq : ∀ h' tk e d, OwnMade s.heap h' e C d f v → R (.ok (.ret (.ref e))) { s with heap := h', toks := tk }) :
    codeAny (model prog w) A (.call (.ref C) ⟨[v], []⟩) R s := by
  obtain ⟨nm, q, N, bs, bm, sn, sub, ab, col, dd, k0, k1, k2, k3, k5, hC, hbm⟩ := T.cls
  obtain ⟨hp, g, dr, tk, os⟩ := s
  have k : ∀ b o, hp.get? b = some o → ((hp.push (kdv_tup [v])).push (excO C hp.objs.size)).get? b = some o := fun b o e => Heap.get?_push_of_some _ (Heap.get?_push_of_some _ e)
  have hget : ((hp.push (kdv_tup [v])).push (excO C hp.objs.size)).get? (hp.objs.size + 1) = some (excO C hp.objs.size) := by heap_get
  have hnx : K.lookup (hp.objs.size + 1) = none := by
    cases e : K.lookup (hp.objs.size + 1) with
    | none => rfl
    | some o =>
      have z : hp.get? (hp.objs.size + 1) = some o := X _ _ e
      exact absurd (Nat.lt_of_succ_lt (Heap.lt_size z)) (Nat.lt_irrefl _)
  refine call_own F.excBase_ValueError (fun X => refsVE_contains X bm hbm) (X _ _ hC) (looks_findIn X T.iC) (fun self => bind_fn X self T.tC) (one_size v) ?_
  refine sup_init (s := ⟨(hp.push (kdv_tup [v])).push (excO C hp.objs.size), g, dr, tk, os⟩) T (X.keeps k) (hg.keeps k) (hb.keeps k) hbb (hlim.keeps k) hget hnx ?_ fun h' tk' dx t1 ⟨k', hx, dn, dne, hns⟩ => ?_
  · show A.depth + 1 < recursionLimit
    exact hroom
  · have old : ∀ b o, hp.get? b = some o → h'.get? b = some o := fun b o e => k' b o (Nat.ne_of_lt (Nat.lt_succ_of_lt (Heap.lt_size e))) (k b o e)
    have z : hp.objs.size + 1 + 1 ≤ dx := by
      have q := dn; rw [Heap.size_push, Heap.size_push] at q; exact q
    exact ⟨rfl, hq h' tk' (hp.objs.size + 1) dx ⟨old, Nat.le_succ _, ⟨_, _, hx, rfl, rfl, rfl, rfl⟩, Nat.le_trans (Nat.le_trans (Nat.le_succ _) (Nat.le_succ _)) z, dne, hns⟩⟩
end
end SupX
end PySem
namespace Gw
open PySem PySem.Spec PyProof.Rows L2
theorem relO_fld {f : Str} {v : V} {v' : Value} (r : RelV v v') (y : Str) : RelO (List.lookup y [(f, v)]) (if y = f then some v' else none) := by
  by_cases hw : y = f
  · subst hw
    rw [if_pos rfl]
    have q : List.lookup y [(y, v)] = some v := by simp [List.lookup]
    rw [q]
    exact r
  · rw [if_neg hw]
    have qw : (y == f) = false := by simpa using hw
    have q2 : List.lookup y [(f, v)] = none := by simp [List.lookup, qw]
    rw [q2]
    trivial
section
variable {X : Cx} {C fI : Addr} {x f : Str}
/-- C(e): the error's own dict is new -/
def tMkSup (C : Addr) (f : Str) (ta : TA) : L2.St → Hp → XK → Prop := fun σ H Q => ta σ H fun vs H1 => ∃ v, vs = [v] ∧ ∀ d, H1 d = none → Q (.ref C) (some d) (upd H1 d (.xd [(f, v)]))
theorem pmk_sup {a : Expr} {ta : TA} {p pos : Pos} {k : Nat} (T : PySem.SupX.SupTxt X.prog X.K X.mg x f C fI) (hr : Room k X.A) (ha : PA X [a] ta) (hg : Gl X x) (hdb : (x == ("__debug__" : Str)) = false := by decide)
    (he : starEach (a :: []) X.env = (false, eval a X.env) :: starEach [] X.env := by rfl) (hpl : (backTo pos (starEach [] X.env)).any (·.1) = false := by rfl) :
    PMk X (.Call (.Name x p) [a] [] pos) (tMkSup C f ta) := by
  intro pins s σ H Q I h
  refine wpAny_Call_Name_kw (ld_glob I hg T.gC ?_ hdb)
  refine PySem.W.callWith_K (h₀ := X.base) I.ok.mod.kin T.kC (thn (ha.run pos pins s σ H _ I h) fun us s1 hh => ?_) he hpl
  obtain ⟨vs, H1, I1, r1, v, ev, q1⟩ := hh
  subst ev
  refine ⟨I1.kIn, ?_⟩
  cases r1 with
  | cons rv rn =>
    rename_i v' us'
    cases rn
    show wpAny _ _ (call (.ref C) [v']) _ _ _
    have hlim := I1.nolimit
    obtain ⟨mb, hb, hbb⟩ := I1.mod.blt
    have hgl := I1.mod.glob.keeps I1.bk
    have hbl := hb.keeps I1.bk
    obtain ⟨hp, g, dr, tk, os⟩ := s1
    refine wpAny_call (PySem.SupX.sup_made T I1.kIn hgl hbl hbb hlim (by have := hr.dp; omega) fun h' tk' e d M => ?_)
    show MkP X pins σ Q (.ref e) ⟨h', g, dr, tk', os⟩
    obtain ⟨oe, fv, hoe, hc, hd, hdat, h1⟩ := M.obj
    have hns := M.ns
    obtain ⟨G', g1, g2⟩ := restrict h' fun b => decide (b ≠ e)
    have gk : ∀ b, b ≠ e → G'.get? b = h'.get? b := fun b hb => g1 b (decide_eq_true hb)
    have ge : G'.get? e = none := g2 e (by simp)
    have old : ∀ b o, hp.get? b = some o → G'.get? b = some o := fun b o q => (gk b (Nat.ne_of_lt (Nat.lt_of_lt_of_le (Heap.lt_size q) M.new))).trans (M.keep b o q)
    have ob : ObjOk X.prog X.w (upd H1 d (.xd [(f, v)])) G' d (.xd [(f, v)]) :=
      ⟨_, hns.at (fun o q => (gk d M.dne).trans q), fun y => relO_fld rv y⟩
    have J : Inv X pins σ (upd H1 d (.xd [(f, v)])) ⟨G', g, dr, tk', os⟩ := I1.laid (t' := tk') old M.dbig ob
    refine ⟨e, oe, fv, ⟨G', g, dr, tk', os⟩, _, .ref C, some d, rfl, J, fun b o q => ?_, ge, hoe, ⟨hc, hd⟩, hdat, h1, ?_, rfl, I1.bare, raises_own T.exC T.tyC, q1 d (I1.hok.fresh M.dbig)⟩
    · by_cases hb : b = e
      · have q' : G'.get? b = some o := q
        rw [hb, ge] at q'; cases q'
      · exact (gk b hb).symm.trans q
    · rw [upd_ne (Ne.symm M.dne)]
      exact I1.hok.fresh M.new
/-- error.f, an error that was kept -/
def tErrFld (C : Addr) (f : Str) (te : TE) : TE := fun σ H Q => te σ H fun y H1 => ∃ a dd v, y = .ref a ∧ H1 a = some (ErrO (.ref C) (some dd) a) ∧ H1 dd = some (.xd [(f, v)]) ∧ Q v H1
theorem pe_errFld {e : Expr} {te : TE} {pos : Pos} (T : PySem.SupX.SupTxt X.prog X.K X.mg x f C fI) (he : PE X e te) (hb : attributeBase e f X.env (eval e X.env) = eval e X.env := by rfl) : PE X (.Attribute e f pos) (tErrFld C f te) := by
  refine ⟨fun pins s σ H Q I h => ?_⟩
  refine attr_of hb (thn (he.run pins s σ H _ I h) fun u s1 hh => ?_)
  obtain ⟨y, H1, I1, ry, a, dd, v, rfl, ha, hd, q⟩ := hh
  obtain rfl : u = Value.ref a := ry
  obtain ⟨⟨oe, vs, at1, ⟨z1, z2⟩, d1⟩, _⟩ := I1.hok a _ ha
  have hx : ObjOk X.prog X.w H1 s1.heap dd (.xd [(f, v)]) := I1.hok dd _ hd
  obtain ⟨mA, hns, hr⟩ := hx
  obtain ⟨od, ho, hl⟩ := lookIn_ns hns
  have l : List.lookup f [(f, v)] = some v := by simp [List.lookup]
  obtain ⟨u, hu, ru⟩ := RelO.some_of (v := v) (o := mA f) (by rw [← l]; exact hr f)
  have J : PySem.W.InstAt s1.heap a oe C (some od) := ⟨at1, z1, by unfold PySem.W.notCls; rw [d1] <;> rfl, by rw [z2]; exact ho⟩
  exact HandSPX.exc_get I1.kIn J T.ga T.gg T.exC (PySem.W.findObj_own T.hdC T.noN rfl (by rw [hl, hu])) (handed_of ru) ⟨v, H1, I1.tok _, ru, q⟩
end
/-! ### isinstance of None or of an error that was kept, with or without a dict -/
def rIsC2 (K : PySem.W.Frag) : List V → Hp → VK → Prop := fun xs H Q => (∃ (C : Addr) (b : Bool), xs = [.non, .ref C] ∧ PySem.W.kitOne K (.type "NoneType") (.ref C) = some b ∧ Q (.bl b) H) ∨
  ∃ (a D C : Addr) (d : Option Addr) (b : Bool), xs = [.ref a, .ref C] ∧ H a = some (ErrO (.ref D) d a) ∧ (∀ dd, d = some dd → ∃ fs, H dd = some (.xd fs)) ∧ ExcC K D ∧ PySem.W.kitOne K (.ref D) (.ref C) = some b ∧ Q (.bl b) H
theorem cr_isC2 {X : Cx} : CallR X (.builtin "isinstance") (rIsC2 X.K) := by
  intro pins s σ H xs us Q I r h
  rcases h with ⟨C, b, rfl, e, q⟩ | ⟨a, D, C, d, b, rfl, ha, hdd, T, e, q⟩
  · exact call_isi pins s σ H _ us Q I r ⟨.non, .ref C, .type "NoneType", .ref C, b, rfl, .own C, .base .non, e, q⟩
  · obtain ⟨u1, u2, rfl, r1, r2⟩ := vals2 r
    cases r1
    cases r2
    obtain ⟨⟨oe, vs, at1, ⟨z1, z2⟩, d1⟩, _⟩ := I.hok a _ ha
    have hcl : (PySem.W.clsIn X.K D).isSome = true := by
      obtain ⟨cd, hc, _⟩ := PySem.W.any_some T.hd
      rw [hc]; rfl
    obtain ⟨od, J⟩ : ∃ od, PySem.W.InstAt s.heap a oe D od := by
      cases d with
      | none => exact ⟨none, at1, z1, by unfold PySem.W.notCls; rw [d1] <;> rfl, by rw [z2]; trivial⟩
      | some dd =>
        obtain ⟨fs, hf⟩ := hdd dd rfl
        have hx : ObjOk X.prog X.w H s.heap dd (.xd fs) := I.hok dd _ hf
        obtain ⟨mA, hns, hr⟩ := hx
        obtain ⟨od, ho, hl⟩ := lookIn_ns hns
        exact ⟨some od, at1, z1, by unfold PySem.W.notCls; rw [d1] <;> rfl, by rw [z2]; exact ho⟩
    exact PySem.W.kia_one (PySem.W.kitx_exc hcl T.hg T.hk T.hs T.ha T.hn T.ht T.hm) I.kIn J e (fun z => nomatch z) fun tk => ⟨.bl b, H, I.tok tk, rfl, q⟩
end Gw
namespace Gw
open PySem PySem.Spec PyProof.Rows L2
/-! ### == and != of objects with their own __eq__ -/
section
open PySem.W
variable {prog : Program} {w : World} {A : Around} {E : Value → Shared → Prop} {s : Shared} {K : PySem.W.Frag} {x C L f : Addr} {h₀ : Heap} {m : Str → Option Value} {ox : Obj} {od : Option Obj} {b tb : Value}
theorem ne_own (hu : A.units + 1 < cLine) (X : K.In s.heap) (I : InstAt s.heap x ox C od) (hb : Looks (model prog w) s.heap (typeOf b) tb) (hn : notFirst K C tb = true)
    (hne : findIn K (.ref C) "__ne__" = some (some (.builtin "object.__ne__"))) (hob : mroIn K C (.type "object") = some true) (hs : findIn K (.ref C) "__eq__" = some (some (.ref f))) (hf : isFn K (.ref f) = true) {Q : Value → Shared → Prop}
    (h : wpAny (model prog w) A.in1 (call (.ref f) [.ref x, b]) (fun v s' => ∃ r, v = .bool r ∧ Q (.bool (!r)) s') E s) : wpAny (model prog w) A (richCompare .NotEq (.ref x) b) Q E s := by
  have FB := F.cmp_object
  have body : wpAny (model prog w) A (call (.builtin "object.__ne__") [.ref x, b]) (fun v s' => ∃ r, v = .bool r ∧ Q v s') E s := by
    refine wpAny_call (codeAny_call_builtin FB.ne.plain F.cmpEntry_ne (check_slot F.cmpKind_ne F.cmpSplit_ne (I.type.andThen (looks_mroIn X hob)) (F.cmpArgs_ne _ _) ?_))
    unfold Builtin.«object.__ne__»
    refine wpAny_bind (wpAny_of_eq (a := ((Value.ref x : Value), [b])) (by first | rfl | (simp only [slotArgs]; rfl)) ?_)
    refine wpAny_bind (wpAny_cRoomFor hu ?_)
    refine wpAny_bind (ifBound_K X I hs hf (wpAny_mono h (fun v s' hv => ?_) fun _ _ e => e))
    obtain ⟨r, rfl, q⟩ := hv
    refine wpAny_bind (wpAny_truthy_bool ?_)
    exact wpAny_pure ⟨_, rfl, q⟩
  have one : wpAny (model prog w) A (tryCompare (.ref x) "__ne__" b) (fun r s' => ∃ v, r = some v ∧ Q v s') E s := by
    unfold tryCompare
    simp only [callSpecialIfBound?, bindSpecialIfBound?]
    refine wpAny_bind (wpAny_holding (wpAny_bind (wpAny_bind (wpAny_bind (I.type.here ((looks_findIn X hne).here ?_))))))
    simp only [FB.ne.bind]
    have fin : wpAny (model prog w) A (call (.builtin "object.__ne__") ([.ref x] ++ [b]) >>= fun v => pure (some v)) (fun r s' => ∃ v u, r = some v ∧ v = .bool u ∧ Q v s') E s := wpAny_bind (wpAny_mono body (fun v s' ⟨u, e, h'⟩ => wpAny_pure ⟨v, u, rfl, e, h'⟩) fun _ _ h' => h')
    refine wpAny_bind (wpAny_askSetting (wpAny_ite ?_))
    have done : ∀ (r : Option Value) (s' : Shared), (∃ v u, r = some v ∧ v = Value.bool u ∧ Q v s') → ∃ v u, r = some v ∧ v = Value.bool u ∧ Q v s' := fun _ _ h => h
    split
    · refine wpAny_bind (wpAny_pure (wpAny_pure (wpAny_mono fin (fun r s' h' => ?_) fun _ _ h' => h')))
      obtain ⟨v, u, rfl, rfl, q⟩ := h'
      exact wpAny_pure ⟨_, rfl, q⟩
    · refine wpAny_tryCatch (wpAny_bind (wpAny_pure (wpAny_pure (wpAny_mono fin (fun r s' h' => ?_) fun _ _ h' => h'))))
      obtain ⟨v, u, rfl, rfl, q⟩ := h'
      exact wpAny_pure ⟨_, rfl, q⟩
  unfold richCompare
  simp only [oneThing_ref]
  refine wpAny_holding (wpAny_bind (wpAny_cRoomFor (Nat.lt_of_succ_lt hu) ?_))
  refine wpAny_bind (I.type.here (wpAny_bind (hb.here ?_)))
  split
  · rename_i q
    have e : subIn K tb (.ref C) = some false := by
      rcases Bool.or_eq_true_iff.mp hn with e | e
      · rw [beq_iff_eq.mp e] at q; simp at q
      · exact beq_iff_eq.mp e
    refine wpAny_bind ((looks_subIn X e).here ?_)
    simp only [Bool.false_eq_true, if_false]
    refine wpAny_bind (wpAny_mono one (fun r s' z => ?_) fun _ _ e => e)
    obtain ⟨v, rfl, hq⟩ := z
    exact wpAny_pure hq
  · refine wpAny_bind (wpAny_pure ?_)
    simp only [Bool.false_eq_true, if_false]
    refine wpAny_bind (wpAny_mono one (fun r s' z => ?_) fun _ _ e => e)
    obtain ⟨v, rfl, hq⟩ := z
    exact wpAny_pure hq
end
/-! the readings -/
/-- x == y by x's own __eq__, which keeps sp -/
def rOwnEq (K : PySem.W.Frag) (C : Addr) (sp : Sp) (E : XK) (g : Bool → Bool) : R2 := fun x y H Q => ∃ a dx fs t, x = .ref a ∧ H a = some (.ins C dx fs) ∧ TyX K H y t ∧ PySem.W.notFirst K C t = true ∧ sp [x, y] H (fun v H' => ∃ b, v = .bl b ∧ Q (.bl (g b)) H') E
structure OwnE (K : PySem.W.Frag) (C f : Addr) : Prop where
  eq : PySem.W.findIn K (.ref C) "__eq__" = some (some (.ref f))
  ne : PySem.W.findIn K (.ref C) "__ne__" = some (some (.builtin "object.__ne__"))
  ob : PySem.W.mroIn K C (.type "object") = some true
  fn : PySem.W.isFn K (.ref f) = true
section
variable {X : Cx} {CX : CXT} {C f : Addr} {fd : FuncData} {n : Nat} {sp : Sp} {E : XK} {x y : Str}
theorem run_ownEq {A : Around} (O : OwnE X.K C f) (F : FnOk X.prog X.w X.K X.mg X.base CX n f fd [x, y] sp) (hb : Binds X.K fd [x, y] []) (hx : Passes CX X E) (hr : Room n A) (hfr : A.frames = X.A.frames) {pins : List (Addr × Obj)} {s : Shared} {σ : L2.St} {H : Hp} {a : Addr} {z : V} {v : Value} {g : Bool → Bool} {Q : VK}
    (I : Inv X pins σ H s) (rz : RelV z v) (h : sp [.ref a, z] H (fun v H' => ∃ b, v = .bl b ∧ Q (.bl (g b)) H') E) :
    wpAny (model X.prog X.w) A (call (.ref f) [.ref a, v]) (fun u s' => ∃ b, u = .bool b ∧ EP X pins σ Q (.bool (g b)) s') X.xe s := by
  have e0 : Env0 X.prog X.w X.K X.mg X.base A X.stack s H := by
    have e := I.env0
    exact ⟨by rw [hfr]; exact e.frames, e.mod, e.bs, e.bsz, e.funs, e.frf, e.hok, e.bare⟩
  have r2 : Vals [V.ref a, z] [Value.ref a, v] := .cons rfl (.cons rz .nil)
  refine wpAny_call (codeAny_mono (F.run A X.stack s H ⟨[.ref a, v], []⟩ [.ref a, v] [.ref a, z] _ E hr e0 (by
    have := hb s [.ref a, v] I.kIn (by rfl)
    simpa using this) r2 h) fun r s' hq => ?_)
  cases r with
  | error e => exact hx pins σ H s e s' I hq
  | ok fl =>
    cases fl with
    | ret w =>
      obtain ⟨u, H', I', rw, b, eb, q⟩ := I.after hq
      subst eb
      cases rw
      exact ⟨b, rfl, .bl (g b), H', I', rfl, q⟩
    | next => exact False.elim hq
    | brk => exact False.elim hq
    | cont => exact False.elim hq
theorem op_ownEq (O : OwnE X.K C f) (F : FnOk X.prog X.w X.K X.mg X.base CX n f fd [x, y] sp) (hb : Binds X.K fd [x, y] []) (hx : Passes CX X E) (hr : Room n X.A) : OpR X (compareOp .Eq) (rOwnEq X.K C sp E fun b => b) := by
  intro pins s σ H p z v u Q I rp rz hq
  obtain ⟨a, dx, fs, t, rfl, ha, ty, nf, h⟩ := hq
  cases rp
  show wpAny (model X.prog X.w) X.A (richCompare .Eq (.ref a) u) (EP X pins σ Q) X.xe s
  obtain ⟨mA, J, _⟩ := ins_get I.hok ha
  obtain ⟨od, J, _⟩ := J.look
  obtain ⟨m, hF⟩ := I.fr
  obtain ⟨P, Z, p, _⟩ := kit_of I rz ty
  refine PySem.W.cmp_K (op := .Eq) (tb := t) hr.units0 hF I.ok.mod.kin J (Z.ty _ _ I.kIn p) nf O.eq O.fn ?_
  refine wpAny_mono (run_ownEq O F hb hx hr rfl I rz h) (fun v s' hv => ?_) fun _ _ e => e
  obtain ⟨b, rfl, q⟩ := hv
  exact q
theorem op_ownNe (O : OwnE X.K C f) (F : FnOk X.prog X.w X.K X.mg X.base CX n f fd [x, y] sp) (hb : Binds X.K fd [x, y] []) (hx : Passes CX X E) (hr : Room (n + 1) X.A) : OpR X (compareOp .NotEq) (rOwnEq X.K C sp E fun b => !b) := by
  intro pins s σ H p z v u Q I rp rz hq
  obtain ⟨a, dx, fs, t, rfl, ha, ty, nf, h⟩ := hq
  cases rp
  show wpAny (model X.prog X.w) X.A (richCompare .NotEq (.ref a) u) (EP X pins σ Q) X.xe s
  obtain ⟨mA, J, _⟩ := ins_get I.hok ha
  obtain ⟨od, J, _⟩ := J.look
  obtain ⟨P, Z, p, _⟩ := kit_of I rz ty
  exact ne_own (by have := hr.un; omega) I.kIn J (Z.ty _ _ I.kIn p) nf O.ne O.ob O.eq O.fn (run_ownEq O F hb hx hr.in1 rfl I rz h)
end
end Gw
namespace Gw
open PySem PySem.Spec PyProof.Rows L2
/-! ### the law's draw: a dict of a list, a number, a list, a number -/
def kvD (l c : Addr) (r t : Int) : List (Key × V) := [(.inr "large", .ref l), (.inr "rest", .int r), (.inr "cells", .ref c), (.inr "turn", .int t)]
theorem k_lr : ¬ (Sum.inr "large" : Key) = .inr "rest" := by decide +kernel
theorem k_lc : ¬ (Sum.inr "large" : Key) = .inr "cells" := by decide +kernel
theorem k_lt : ¬ (Sum.inr "large" : Key) = .inr "turn" := by decide +kernel
theorem k_rc : ¬ (Sum.inr "rest" : Key) = .inr "cells" := by decide +kernel
theorem k_rt : ¬ (Sum.inr "rest" : Key) = .inr "turn" := by decide +kernel
theorem k_ct : ¬ (Sum.inr "cells" : Key) = .inr "turn" := by decide +kernel
section
variable {H : Hp} {d l c : Addr} {r t : Int}
theorem vD_large : valV (kvD l c r t) (.inr "large") = some (.ref l) := valV_pos rfl
theorem vD_rest : valV (kvD l c r t) (.inr "rest") = some (.int r) := (valV_neg k_lr).trans (valV_pos rfl)
theorem vD_cells : valV (kvD l c r t) (.inr "cells") = some (.ref c) := (valV_neg k_lc).trans ((valV_neg k_rc).trans (valV_pos rfl))
theorem vD_turn : valV (kvD l c r t) (.inr "turn") = some (.int t) := (valV_neg k_lt).trans ((valV_neg k_rt).trans ((valV_neg k_ct).trans (valV_pos rfl)))
theorem put_some {kvs : List (Key × V)} {k : Key} {v w : V} (h : valV kvs k = some v) : putK kvs k w = kvs.map fun kv => if kv.1 = k then (kv.1, w) else kv := by
  have e := valV_any k kvs
  rw [h] at e
  unfold putK
  rw [e]
  rfl
theorem pD_rest {r' : Int} : putK (kvD l c r t) (.inr "rest") (.int r') = kvD l c r' t := by
  rw [put_some vD_rest]
  simp only [kvD, List.map_cons, List.map_nil, if_neg k_lr, if_neg (fun e => k_rc (Eq.symm e) : ¬ (Sum.inr "cells" : Key) = .inr "rest"), if_neg (fun e => k_rt (Eq.symm e) : ¬ (Sum.inr "turn" : Key) = .inr "rest"), if_true]
theorem pD_turn {t' : Int} : putK (kvD l c r t) (.inr "turn") (.int t') = kvD l c r t' := by
  rw [put_some vD_turn]
  simp only [kvD, List.map_cons, List.map_nil, if_neg k_lt, if_neg k_rt, if_neg k_ct, if_true]
theorem gD_large (h : H d = some (.dK (kvD l c r t))) : DGet H d (.str "large") (some (.ref l)) := by have g := DGet.k (k := .inr "large") h; rw [vD_large] at g; exact g
theorem gD_rest (h : H d = some (.dK (kvD l c r t))) : DGet H d (.str "rest") (some (.int r)) := by have g := DGet.k (k := .inr "rest") h; rw [vD_rest] at g; exact g
theorem gD_cells (h : H d = some (.dK (kvD l c r t))) : DGet H d (.str "cells") (some (.ref c)) := by have g := DGet.k (k := .inr "cells") h; rw [vD_cells] at g; exact g
theorem gD_turn (h : H d = some (.dK (kvD l c r t))) : DGet H d (.str "turn") (some (.int t)) := by have g := DGet.k (k := .inr "turn") h; rw [vD_turn] at g; exact g
theorem uD_rest {r' : Int} (h : H d = some (.dK (kvD l c r t))) : DPut H d (.str "rest") (.int r') (upd H d (.dK (kvD l c r' t))) := by
  have g := DPut.k (k := .inr "rest") (v := .int r') h (by show 4 < sizeLine; decide)
  rw [pD_rest] at g
  exact g
theorem uD_turn {t' : Int} (h : H d = some (.dK (kvD l c r t))) : DPut H d (.str "turn") (.int t') (upd H d (.dK (kvD l c r t'))) := by
  have g := DPut.k (k := .inr "turn") (v := .int t') h (by show 4 < sizeLine; decide)
  rw [pD_turn] at g
  exact g
end
/-- a draw stands at d, its large numbers at l, its cells at c -/
structure Drw (H : Hp) (d l c : Addr) : Prop where
  ne : l ≠ c
  at' : ∃ (r t : Int) (ls cs : List Int), H d = some (.dK (kvD l c r t)) ∧ H l = some (.lst (ls.map V.int)) ∧ H c = some (.lst (cs.map V.int)) ∧ ls.length ≤ 63 ∧ cs.length ≤ 63
/-- what a draw's deed leaves: all but d and l stand as they stood -/
structure Nd (d l : Addr) (H H' : Hp) : Prop where
  hh : ∀ a o, a ≠ d → a ≠ l → H a = some o → H' a = some o
theorem Nd.refl {d l : Addr} {H : Hp} : Nd d l H H := ⟨fun _ _ _ _ h => h⟩
theorem Nd.trans {d l : Addr} {H H1 H2 : Hp} (a : Nd d l H H1) (b : Nd d l H1 H2) : Nd d l H H2 := ⟨fun x o h1 h2 h => b.hh x o h1 h2 (a.hh x o h1 h2 h)⟩
theorem Nd.of {d l : Addr} {H H' : Hp} (s : Same H H') : Nd d l H H' := ⟨fun a o _ _ h => s a o h⟩
theorem Nd.updD {d l : Addr} {H : Hp} {o : HO} : Nd d l H (upd H d o) := ⟨fun a u h1 _ h => by rw [upd_ne h1]; exact h⟩
theorem Nd.updL {d l : Addr} {H : Hp} {o : HO} : Nd d l H (upd H l o) := ⟨fun a u _ h2 h => by rw [upd_ne h2]; exact h⟩
theorem Drw.same {H H' : Hp} {d l c : Addr} (D : Drw H d l c) (s : Same H H') : Drw H' d l c := by
  obtain ⟨r, t, ls, cs, h1, h2, h3, h4, h5⟩ := D.at'
  exact ⟨D.ne, r, t, ls, cs, s _ _ h1, s _ _ h2, s _ _ h3, h4, h5⟩
theorem Drw.dl {H : Hp} {d l c : Addr} (D : Drw H d l c) : d ≠ l ∧ d ≠ c := by
  obtain ⟨r, t, ls, cs, h1, h2, h3, h4, h5⟩ := D.at'
  exact ⟨ne_of h1 h2 (fun z => nomatch z), ne_of h1 h3 (fun z => nomatch z)⟩
/-- the view beside a draw -/
structure Vw (G H : Hp) (d l c : Addr) : Prop where
  gh : Same G H
  gd : G d = none
  gl : G l = none
  gc : G c = none
  dr : Drw H d l c
/-- one deed or many: the view grows by what is new, the draw stands -/
structure Nw (d l c : Addr) (G H G' H' : Hp) : Prop where
  gg : Same G G'
  vw : Vw G' H' d l c
  nd : Nd d l H H'
  fr : ∀ a, H a ≠ none → G' a = G a
theorem Nw.refl {d l c : Addr} {G H : Hp} (v : Vw G H d l c) : Nw d l c G H G H := ⟨Same.refl G, v, Nd.refl, fun _ _ => rfl⟩
theorem Nw.keeps {d l c : Addr} {G H G' H' : Hp} (n : Nw d l c G H G' H') {a : Addr} (h : H a ≠ none) : H' a ≠ none := by
  cases q : H a with
  | none => exact absurd q h
  | some o =>
    by_cases h1 : a = d
    · obtain ⟨r, t, ls, cs, e, _⟩ := n.vw.dr.at'
      rw [h1, e]; exact fun z => nomatch z
    · by_cases h2 : a = l
      · obtain ⟨r, t, ls, cs, _, e, _⟩ := n.vw.dr.at'
        rw [h2, e]; exact fun z => nomatch z
      · rw [n.nd.hh a o h1 h2 q]; exact fun z => nomatch z
theorem Nw.trans {d l c : Addr} {G H G1 H1 G2 H2 : Hp} (a : Nw d l c G H G1 H1) (b : Nw d l c G1 H1 G2 H2) : Nw d l c G H G2 H2 :=
  ⟨a.gg.trans b.gg, b.vw, a.nd.trans b.nd, fun x h => (b.fr x (a.keeps h)).trans (a.fr x h)⟩
theorem Nw.of {d l c : Addr} {G H G' H' : Hp} (v : Vw G H d l c) (n : Nx G H G' H') : Nw d l c G H G' H' := by
  obtain ⟨r, t, ls, cs, h1, h2, h3, h4, h5⟩ := v.dr.at'
  exact ⟨n.gg, ⟨n.gh, (n.fr d (ne_none h1)).trans v.gd, (n.fr l (ne_none h2)).trans v.gl, (n.fr c (ne_none h3)).trans v.gc, v.dr.same n.hh⟩, Nd.of n.hh, n.fr⟩
/-- a deed upon the draw alone -/
theorem Nw.draw {d l c : Addr} {G H H' : Hp} (v : Vw G H d l c) (n : Nd d l H H') (D : Drw H' d l c) : Nw d l c G H G H' :=
  ⟨Same.refl G, ⟨fun a o e => n.hh a o (fun z => by rw [z, v.gd] at e; cases e) (fun z => by rw [z, v.gl] at e; cases e) (v.gh a o e), v.gd, v.gl, v.gc, D⟩, n, fun _ _ => rfl⟩
/-! ### the promises of the draw's defs -/
def spBegun (K : PySem.W.Frag) : Sp := fun vs H Q _ => ∃ (a : Addr) (ns : List Int), vs = [.ref a] ∧ SqL K H a (ns.map V.int) ∧ ns.length ≤ 63 ∧ ∀ d l c H', Same H H' → H d = none → H l = none → H c = none → Drw H' d l c → Q (.ref d) H'
def spMixed : Sp := fun vs H Q _ => ∃ d l c, vs = [.ref d] ∧ Drw H d l c ∧ ∀ i H', Nd d l H H' → Drw H' d l c → Q (.int i) H'
def spTake : Sp := fun vs H Q _ => ∃ d l c n, vs = [.ref d, .int n] ∧ Drw H d l c ∧ 0 < n ∧ n < 1000000000 ∧ ∀ (k : Int) H', 0 ≤ k → k < n → Nd d l H H' → Drw H' d l c → Q (.int k) H'
def spPick (K : PySem.W.Frag) : Sp := fun vs H Q _ => ∃ d l c a xs, vs = [.ref d, .ref a] ∧ Drw H d l c ∧ a ≠ l ∧ SqL K H a xs ∧ 0 < xs.length ∧ xs.length < 1000000 ∧ ∀ v H', v ∈ xs → Nd d l H H' → Drw H' d l c → Q v H'
/-- several ways that meet behind a statement -/
theorem seq_cut {t u : TS} {D : Ends} {σ : L2.St} {H : Hp} (P : L2.St → Hp → Prop) (hu : ∀ σ' H', P σ' H' → u D σ' H') (ht : (∀ σ' H', P σ' H' → u D σ' H') → t { D with nx := u D } σ H) : tSeq t u D σ H := ht hu
theorem seqIx {k n : Nat} (h : k < n) : seqIndex? (k : Int) n = some k := by
  unfold seqIndex?
  simp
  omega
theorem if_off {A B : Hp → Prop} {b : Bool} {H : Hp} (hb : b = false) (h : B H) : if b = true then A H else B H := by
  subst hb
  exact iteF h
theorem if_on {A B : Hp → Prop} {b : Bool} {H : Hp} (hb : b = true) (h : A H) : if b = true then A H else B H := by
  subst hb
  exact iteT h
theorem fmod_in {i j : Int} (h : 0 < j) : 0 ≤ i.fmod j ∧ i.fmod j < j := by
  rw [Int.fmod_eq_emod_of_nonneg _ (Int.le_of_lt h)]
  exact ⟨Int.emod_nonneg _ (by omega), Int.emod_lt_of_pos _ h⟩
theorem abs_if (i : Int) : (if i < 0 then -i else i) = ((i.natAbs : Nat) : Int) := by
  split <;> omega
end Gw
namespace Gw
open PySem PySem.Spec PyProof.Rows L2
/-! ### statements over a view -/
section
variable {K : PySem.W.Frag} {σ : L2.St} {G H : Hp} {te ta tb : TE} {tt tu : TT} {tA tR : TA} {d e z : PyData} {ds es : List PyData} {t u : TS} {D : Ends}
theorem seq_let {i : Nat} (h : EvD K te σ G d) (s : Same G H) (k : ∀ v G1 H1, Nx G H G1 H1 → Dp K G1 v d → u D (σ.set i (some v)) H1) : tSeq (tAsg te (gName i)) u D σ H := h H s _ fun v G1 H1 n hd => k v G1 H1 n hd
theorem asg_let {i : Nat} (h : EvD K te σ G d) (s : Same G H) (k : ∀ v G1 H1, Nx G H G1 H1 → Dp K G1 v d → D.nx (σ.set i (some v)) H1) : tAsg te (gName i) D σ H := h H s _ fun v G1 H1 n hd => k v G1 H1 n hd
theorem seq_letN {i : Nat} (h : EvN K te σ G ds) (s : Same G H) (k : ∀ p vs G1 H1, Nx G H G1 H1 → H p = none → H1 p = some (.lst vs) → DpAll K G1 vs ds → u D (σ.set i (some (.ref p))) H1) : tSeq (tAsg te (gName i)) u D σ H := h H s _ fun p vs G1 H1 n hp _ e ha => k p vs G1 H1 n hp e ha
theorem seq_chk (h : EvB K tt σ G false) (s : Same G H) (k : ∀ G1 H1, Nx G H G1 H1 → u D σ H1) : tSeq (tIfS tt t tNext) u D σ H := h H s _ fun G1 H1 n => if_off rfl (k G1 H1 n)
theorem if_chk (h : EvB K tt σ G false) (s : Same G H) (k : ∀ G1 H1, Nx G H G1 H1 → D.nx σ H1) : tIfS tt t tNext D σ H := h H s _ fun G1 H1 n => if_off rfl (k G1 H1 n)
theorem eb_or0 (h1 : EvB K tt σ G false) (h2 : EvB K tu σ G false) : EvB K (tOr tt tu) σ G false := eb_or (a := false) (b := false) h1 fun _ => h2
theorem g21_dp {G' : Hp} {vs zs : List V} {x y : PyData} (h : DpAll K G' vs []) (h' : DpAll K G' zs [x, y]) : DpAll K G' (g21 vs zs) [y, x] := by
  cases h
  obtain _ | ⟨a, _ | ⟨b, _ | _⟩⟩ := h'
  exact .cons b (.cons a .nil)
end
end Gw
namespace Gw
open PySem PySem.Spec PyProof.Rows L2
theorem k_rl : ¬ (Sum.inr "rest" : Key) = .inr "large" := fun e => k_lr e.symm
theorem merge_kvD (l c : Addr) (r t : Int) : mergeK [] (kvD l c r t) = kvD l c r t := by
  unfold mergeK kvD
  simp only [List.foldl_cons, List.foldl_nil]
  rw [putK_new (kvs := []) _ valV_nil]
  rw [putK_new (kvs := [] ++ [_]) _ ((valV_neg (show ¬ (Sum.inr "large" : Key) = .inr "rest" from k_lr)).trans valV_nil)]
  rw [putK_new (kvs := [] ++ [_] ++ [_]) _ ((valV_neg k_lc).trans ((valV_neg k_rc).trans valV_nil))]
  rw [putK_new (kvs := [] ++ [_] ++ [_] ++ [_]) _ ((valV_neg k_lt).trans ((valV_neg k_rt).trans ((valV_neg k_ct).trans valV_nil)))]
  rfl
/-- ints told one by one -/
theorem ints_get {xs : List Int} {i : Nat} {v : V} (h : (xs.map V.int)[i]? = some v) : ∃ n, xs[i]? = some n ∧ v = .int n := by
  rw [List.getElem?_map] at h
  cases e : xs[i]? with
  | none => rw [e] at h; cases h
  | some n => rw [e] at h; exact ⟨n, rfl, (Option.some.inj h).symm⟩
theorem shaped_ints (zs : List Int) : SeqAt.shaped (.list (zs.map .int)) = true := by
  have e1 : ∀ zs : List Int, PyData.canLayAll0 (zs.map .int) = true := fun zs => by
    induction zs with
    | nil => rfl
    | cons z zs ih => rw [List.map_cons, PyData.canLayAll0, ih]; rfl
  have e2 : ∀ zs : List Int, PyData.depthAll (zs.map .int) = 0 := fun zs => by
    induction zs with
    | nil => rfl
    | cons z zs ih => rw [List.map_cons, PyData.depthAll, ih]; rfl
  unfold SeqAt.shaped
  rw [Bool.and_eq_true]
  refine ⟨?_, decide_eq_true ?_⟩
  · rw [PyData.canLay0]; exact e1 zs
  · rw [PyData.depth, e2 zs]; decide
theorem shaped_intsT (zs : List Int) : SeqAt.shaped (.tuple (zs.map .int)) = true := by
  have e1 : ∀ zs : List Int, PyData.canLayAll0 (zs.map .int) = true := fun zs => by
    induction zs with
    | nil => rfl
    | cons z zs ih => rw [List.map_cons, PyData.canLayAll0, ih]; rfl
  have e2 : ∀ zs : List Int, PyData.depthAll (zs.map .int) = 0 := fun zs => by
    induction zs with
    | nil => rfl
    | cons z zs ih => rw [List.map_cons, PyData.depthAll, ih]; rfl
  unfold SeqAt.shaped
  rw [Bool.and_eq_true]
  refine ⟨?_, decide_eq_true ?_⟩
  · rw [PyData.canLay0]; exact e1 zs
  · rw [PyData.depth, e2 zs]; decide
/-- left != [] -/
theorem ne_nil {K : PySem.W.Frag} {σ : L2.St} {H : Hp} {i : Nat} {p : Addr} {zs : List Int} {Q : V → Hp → Prop} (hσ : σ[i]? = some (some (.ref p))) (hp : H p = some (.lst (zs.map V.int)))
    (q : ∀ H', Same H H' → (∀ a, a ≠ p → H' a ≠ H a → H a = none) → Q (.bl (!zs.isEmpty)) H') : tOp (rNeD K) (tVar i) (tLst tNil) σ H Q := by
  refine ⟨_, hσ, Nat.zero_le _, fun x hx => ?_⟩
  have hpx : p ≠ x := ne_of_none hp hx
  have s : Same H (upd H x (.lst [])) := fun a o e => by rw [upd_ne (ne_of_none e hx)]; exact e
  refine ⟨.list (zs.map .int), .list [], .lst (SqL.of (s _ _ hp)) (dpa_ints zs), .lst (SqL.of upd_same) .nil, shaped_ints zs, by decide, ?_⟩
  have e : (!PyData.eqv (.list (zs.map .int)) (.list [])) = !zs.isEmpty := by
    cases zs with
    | nil => rfl
    | cons z zs => rfl
  rw [e]
  refine q _ s fun a h1 h2 => ?_
  by_cases hax : a = x
  · rw [hax]; exact hx
  · rw [upd_ne hax] at h2; exact absurd rfl h2
theorem seq_asg {te : TE} {i : Nat} {u : TS} {D : Ends} {σ : L2.St} {H : Hp} (h : te σ H fun x H1 => u D (σ.set i (some x)) H1) : tSeq (tAsg te (gName i)) u D σ H := h
theorem tp_c {k : V} {tv : TE} {trs : List (TE × TE)} {σ : L2.St} {H : Hp} {Q : List (V × V) → Hp → Prop} (h : tv σ H fun v H2 => tPairs trs σ H2 fun ps H3 => Q ((k, v) :: ps) H3) : tPairs ((tC k, tv) :: trs) σ H Q := h
theorem tp_cc {k v : V} {trs : List (TE × TE)} {σ : L2.St} {H : Hp} {Q : List (V × V) → Hp → Prop} (h : tPairs trs σ H fun ps H3 => Q ((k, v) :: ps) H3) : tPairs ((tC k, tC v) :: trs) σ H Q := h
theorem tyes {σ : L2.St} {H : Hp} {A B : Hp → Prop} (h : A H) : tYes σ H fun b H3 => if b = true then A H3 else B H3 := h
theorem map_eraseIdx {α β : Type} (f : α → β) : ∀ (l : List α) (j : Nat), (l.map f).eraseIdx j = (l.eraseIdx j).map f
  | [], _ => rfl
  | _ :: _, 0 => rfl
  | a :: l, j + 1 => by
    show f a :: (l.map f).eraseIdx j = f a :: (l.eraseIdx j).map f
    rw [map_eraseIdx f l j]
theorem erase_perm {α : Type} : ∀ (l : List α) (j : Nat) (h : j < l.length), (l[j] :: l.eraseIdx j).Perm l
  | a :: l, 0, _ => List.Perm.refl _
  | a :: l, j + 1, h => by
    have h' : j < l.length := by rw [List.length_cons] at h; omega
    show (l[j] :: a :: l.eraseIdx j).Perm (a :: l)
    exact (List.Perm.swap a l[j] _).trans ((erase_perm l j h').cons a)
/-! ### promises of the law's makers -/
def spShuf (K : PySem.W.Frag) : Sp := fun vs H Q _ => ∃ (d l c a : Addr) (ns : List Int), vs = [.ref d, .ref a] ∧ Drw H d l c ∧ SqL K H a (ns.map V.int) ∧ ns.length ≤ 63 ∧
  ∀ (p : Addr) (ms : List Int) (H' : Hp), ms.Perm ns → H p = none → H' p = some (.lst (ms.map V.int)) → Nd d l H H' → Drw H' d l c → Q (.ref p) H'
/-- letters and what undoes them -/
structure IsBk (bs : List Int) : Prop where
  two : 2 ≤ bs.length
  six : bs.length ≤ 12
  inv : ∀ k : Nat, k < bs.length → ∃ j : Nat, bs[k]? = some (j : Int) ∧ bs[j]? = some (k : Int)
def spBack : Sp := fun vs H Q _ => ∃ d l c, vs = [.ref d] ∧ Drw H d l c ∧ ∀ (p : Addr) (bs : List Int) (H' : Hp), IsBk bs → bs.length ≤ 6 → H p = none → H' p = some (.tup (bs.map V.int)) → Nd d l H H' → Drw H' d l c → Q (.ref p) H'
def Letters (n : Nat) (ws : List Int) : Prop := ∀ x ∈ ws, 0 ≤ x ∧ x < (n : Int)
def spWord (K : PySem.W.Frag) : Sp := fun vs H Q _ => ∃ (d l c b : Addr) (xs : List V) (m : Int), vs = [.ref d, .ref b, .int m] ∧ Drw H d l c ∧ SqT K H b xs ∧ 0 < xs.length ∧ xs.length < 1000 ∧ 0 ≤ m ∧ m < 100000 ∧
  ∀ (p : Addr) (ws : List Int) (H' : Hp), (ws.length : Int) ≤ m → Letters xs.length ws → H p = none → H' p = some (.tup (ws.map V.int)) → Nd d l H H' → Drw H' d l c → Q (.ref p) H'
theorem Nd.seqT {K : PySem.W.Frag} {d l c b : Addr} {H H' : Hp} {xs : List V} (n : Nd d l H H') (D : Drw H d l c) (h : SqT K H b xs) : SqT K H' b xs := by
  obtain ⟨r, t, ls, cs, h1, h2, h3, h4, h5⟩ := D.at'
  rcases h with (e | ⟨o, e⟩) | e
  · exact SqT.of (n.hh b _ (ne_of e h1 (fun z => nomatch z)) (ne_of e h2 (fun z => nomatch z)) e)
  · exact .inl (.inr ⟨o, n.hh b _ (ne_of e h1 (fun z => nomatch z)) (ne_of e h2 (fun z => nomatch z)) e⟩)
  · exact .inr e
theorem Drw.upd {d l c p : Addr} {H : Hp} {o : HO} (D : Drw H d l c) (h1 : p ≠ d) (h2 : p ≠ l) (h3 : p ≠ c) : Drw (L2.upd H p o) d l c := by
  obtain ⟨r, t, ls, cs, e1, e2, e3, h4, h5⟩ := D.at'
  exact ⟨D.ne, r, t, ls, cs, by rw [upd_ne (Ne.symm h1)]; exact e1, by rw [upd_ne (Ne.symm h2)]; exact e2, by rw [upd_ne (Ne.symm h3)]; exact e3, h4, h5⟩
/-- an address that is new is none of the draw's -/
theorem Drw.off {d l c p : Addr} {H : Hp} (D : Drw H d l c) (hp : H p = none) : p ≠ d ∧ p ≠ l ∧ p ≠ c := by
  obtain ⟨r, t, ls, cs, e1, e2, e3, h4, h5⟩ := D.at'
  exact ⟨Ne.symm (ne_of_none e1 hp), Ne.symm (ne_of_none e2 hp), Ne.symm (ne_of_none e3 hp)⟩
end Gw
namespace Gw
open PySem PySem.Spec PyProof.Rows L2 LamX
/-! ### views without tables -/
def noT (G : Hp) : Hp := fun a => match G a with | some (.tbl _) => none | o => o
theorem noT_of {G : Hp} {a : Addr} {o : HO} (h : G a = some o) (n : ∀ ps, o ≠ .tbl ps) : noT G a = some o := by
  unfold noT
  rw [h]
  split
  · rename_i ps e; exact absurd (Option.some.inj e) (n ps)
  · rfl
theorem noT_inv {G : Hp} {a : Addr} {o : HO} (h : noT G a = some o) : G a = some o ∧ ∀ ps, o ≠ .tbl ps := by
  unfold noT at h
  split at h
  · cases h
  · rename_i x
    exact ⟨h, fun ps e => x ps (by rw [h, e])⟩
theorem noT_same {G : Hp} : Same (noT G) G := fun a o h => (noT_inv h).1
theorem noT_ext {G H H' : Hp} (s : Same (noT G) H) (e : ExtN H H') : Same (noT G) H' := fun a o h => e a o (s a o h) (noT_inv h).2
theorem noT_mono {G H : Hp} (s : Same G H) : Same (noT G) (noT H) := fun a o h => noT_of (s _ _ (noT_inv h).1) (noT_inv h).2
theorem noT_none {G : Hp} {a : Addr} (h : G a = none) : noT G a = none := by unfold noT; rw [h]
theorem sqT_noT {K : PySem.W.Frag} {G : Hp} {a : Addr} {xs : List V} (h : SqT K G a xs) : SqT K (noT G) a xs := by
  rcases h with (h | ⟨o, h⟩) | h
  · exact .inl (.inl (noT_of h fun _ z => nomatch z))
  · exact .inl (.inr ⟨o, noT_of h fun _ z => nomatch z⟩)
  · exact .inr h
theorem sqL_noT {K : PySem.W.Frag} {G : Hp} {a : Addr} {xs : List V} (h : SqL K G a xs) : SqL K (noT G) a xs := by
  rcases h with (h | ⟨o, h⟩) | h
  · exact .inl (.inl (noT_of h fun _ z => nomatch z))
  · exact .inl (.inr ⟨o, noT_of h fun _ z => nomatch z⟩)
  · exact .inr h
mutual
theorem dp_noT {K : PySem.W.Frag} {H : Hp} : ∀ (d : PyData) {v : V}, Dp K H v d → Dp K (noT H) v d
  | .none, _, .non => .non
  | .bool b, _, .bl _ => .bl b
  | .int i, _, .int _ => .int i
  | .str x, _, .str _ => .str x
  | .list ds, _, .lst hs ha => .lst (sqL_noT hs) (dpa_noT ds ha)
  | .tuple ds, _, .tup hs ha => .tup (sqT_noT hs) (dpa_noT ds ha)
theorem dpa_noT {K : PySem.W.Frag} {H : Hp} : ∀ (ds : List PyData) {vs : List V}, DpAll K H vs ds → DpAll K (noT H) vs ds
  | [], _, .nil => .nil
  | d :: ds, _, .cons h t => .cons (dp_noT d h) (dpa_noT ds t)
end
theorem Drw.noT {H : Hp} {d l c : Addr} (D : Drw H d l c) : Drw (noT H) d l c := by
  obtain ⟨r, t, ls, cs, h1, h2, h3, h4, h5⟩ := D.at'
  exact ⟨D.ne, r, t, ls, cs, noT_of h1 (fun _ z => nomatch z), noT_of h2 (fun _ z => nomatch z), noT_of h3 (fun _ z => nomatch z), h4, h5⟩
/-! ### what a draw's deed leaves -/
theorem Nd.off {d l c b : Addr} {H H' : Hp} {o : HO} (n : Nd d l H H') (D : Drw H d l c) (h : H b = some o) (n1 : ∀ kvs, o ≠ .dK kvs) (n2 : ∀ xs, o ≠ .lst xs) : H' b = some o := by
  obtain ⟨r, t, ls, cs, h1, h2, h3, h4, h5⟩ := D.at'
  exact n.hh b o (ne_of h h1 (n1 _)) (ne_of h h2 (n2 _)) h
theorem tabs_nd {T : List (Addr × Str)} {d l c : Addr} {H H' : Hp} (t : Tabs T H) (n : Nd d l H H') (D : Drw H d l c) : Tabs T H' := fun p hp => by
  obtain ⟨ps, h1, h2, h3⟩ := t p hp
  refine ⟨ps, n.off D h1 (fun _ z => nomatch z) (fun _ z => nomatch z), h2, fun pos cv hc => ?_⟩
  obtain ⟨c0, e1, e2⟩ := h3 pos cv hc
  exact ⟨c0, e1, n.off D e2 (fun _ z => nomatch z) (fun _ z => nomatch z)⟩
theorem tabs_same {T : List (Addr × Str)} {H H' : Hp} (t : Tabs T H) (s : Same H H') : Tabs T H' := t.ext s
theorem tabs_one {H : Hp} {P : Addr} {q : Str} (h : H P = some (.tbl #[])) : Tabs [(P, q)] H := fun p hp => by
  rw [List.mem_singleton.mp hp]
  exact TabS.nil h
/-! data without lists -/
mutual
def noL : PyData → Bool
  | .list _ => false
  | .dict _ => false
  | .tuple ds => noLA ds
  | _ => true
def noLA : List PyData → Bool
  | [] => true
  | d :: ds => noL d && noLA ds
end
mutual
theorem dp_nd {K : PySem.W.Frag} {d l c : Addr} {H H' : Hp} (n : Nd d l H H') (D : Drw H d l c) : ∀ (x : PyData) {v : V}, noL x = true → Dp K H v x → Dp K H' v x
  | .none, _, _, .non => .non
  | .bool b, _, _, .bl _ => .bl b
  | .int i, _, _, .int _ => .int i
  | .str x, _, _, .str _ => .str x
  | .tuple ds, _, z, .tup hs ha => .tup (n.seqT D hs) (dpa_nd n D ds (by rw [noL] at z; exact z) ha)
theorem dpa_nd {K : PySem.W.Frag} {d l c : Addr} {H H' : Hp} (n : Nd d l H H') (D : Drw H d l c) : ∀ (ds : List PyData) {vs : List V}, noLA ds = true → DpAll K H vs ds → DpAll K H' vs ds
  | [], _, _, .nil => .nil
  | x :: ds, _, z, .cons h t => by
    rw [noLA, Bool.and_eq_true] at z
    exact .cons (dp_nd n D x z.1 h) (dpa_nd n D ds z.2 t)
end
theorem noLA_ints : ∀ ns : List Int, noLA (ns.map .int) = true
  | [] => rfl
  | n :: ns => by rw [List.map_cons, noLA, noLA_ints ns]; rfl
/-! ### lambdas are no codes -/
theorem lam_code {f : Addr} {q q2 : Str} {params : Arguments} {body : Expr} {scope : Scope} {cl : List (Str × Addr)} {c' : Addr} : LamO f q params body scope cl c' ≠ CodeO f q2 := fun z => by
  have e := HO.ext.inj z
  let o := PySem.W.kla_obj "<lambda>" q params body scope cl .none c' .none
  let h0 : Heap := ⟨Array.replicate f default, {}⟩
  have g : (h0.push o).get? f = some o := by
    have := Heap.get?_push_size (o := o) h0 rfl
    have e2 : h0.objs.size = f := Array.size_replicate
    rw [e2] at this
    exact this
  have h1 : LamAt f q params body scope cl c' (h0.push o) := ⟨.none, .none, g⟩
  rw [e] at h1
  obtain ⟨oc, vs, t, g2, d, _⟩ := h1
  rw [g] at g2
  cases g2
  cases d
theorem tabs_del {T : List (Addr × Str)} {H : Hp} {f : Addr} {q : Str} {params : Arguments} {body : Expr} {scope : Scope} {cl : List (Str × Addr)} {c' : Addr} (t : Tabs T H) (hf : H f = some (LamO f q params body scope cl c')) : Tabs T (delH H f) := fun p hp => by
  obtain ⟨ps, h1, h2, h3⟩ := t p hp
  refine ⟨ps, (delH_ne (ne_of h1 hf fun z => nomatch z)).trans h1, h2, fun pos cv hc => ?_⟩
  obtain ⟨c0, e1, e2⟩ := h3 pos cv hc
  refine ⟨c0, e1, (delH_ne fun z => ?_).trans e2⟩
  subst z
  rw [hf] at e2
  exact lam_code (Option.some.inj e2)
theorem code_ne {H : Hp} {f c1 : Addr} {q q2 : Str} {params : Arguments} {body : Expr} {scope : Scope} {cl : List (Str × Addr)} {c' : Addr} (hf : H f = some (LamO f q params body scope cl c')) (hc : H c1 = some (CodeO c1 q2)) : c1 ≠ f := fun z => by
  subst z
  rw [hf] at hc
  exact lam_code (Option.some.inj hc)
theorem same_del {G H : Hp} {f : Addr} (s : Same G H) (g : G f = none) : Same G (delH H f) := fun a o h => (delH_ne (ne_of_none h g)).trans (s a o h)
theorem pick_go {K : PySem.W.Frag} {H : Hp} {d l c p : Addr} {xs : List V} {Q : VK} {E : XK} (D : Drw H d l c) (hp : H p = none) (h0 : 0 < xs.length) (h1 : xs.length < 100) (q : ∀ v H', v ∈ xs → Nd d l H H' → Drw H' d l c → Q v H') : spPick K [.ref d, .ref p] (upd H p (.lst xs)) Q E := by
  obtain ⟨o1, o2, o3⟩ := D.off hp
  have s : Same H (upd H p (.lst xs)) := fun b o e => by rw [upd_ne (ne_of_none e hp)]; exact e
  exact ⟨d, l, c, p, xs, rfl, D.upd o1 o2 o3, o2, SqL.of upd_same, h0, by omega, fun v H' hv n D' => q v H' hv ((Nd.of s).trans n) D'⟩
theorem same_upd {H : Hp} {p : Addr} {o : HO} (hp : H p = none) : Same H (upd H p o) := fun b u e => by rw [upd_ne (ne_of_none e hp)]; exact e
theorem rgV_ints (lo hi : Int) : rgV lo hi = ((List.range (hi - lo).toNat).map fun (i : Nat) => lo + (i : Int)).map V.int := by unfold rgV; rw [List.map_map]; rfl
theorem ro_repT {K : PySem.W.Frag} {ds : List PyData} {k : Int} (hne : ds ≠ []) (h1 : 2 ≤ k) (h2 : k ≤ 1000) (hz : ds.length ≤ 1000) : ROp K (rRepT K) (.tuple ds) (.int k) (.tuple (List.replicate k.toNat ds).flatten) := fun G H s vx vy dx dy Q q => by
  rw [dp_int dy]
  cases dx with
  | @tup a xs _ hs ha =>
    have l1 := dpa_length ha
    refine ⟨a, k, xs, rfl, rfl, same_tup s hs, fun e => hne ?_, h1, h2, by omega, fun p hp => ?_⟩
    · subst e; cases ha; rfl
    · have n := Nx.new (o := .tup (List.replicate k.toNat xs).flatten) s hp
      refine q _ _ _ n (.tup (SqT.of upd_same) ?_)
      have rep : ∀ m : Nat, DpAll K (L2.upd G p (.tup (List.replicate k.toNat xs).flatten)) (List.replicate m xs).flatten (List.replicate m ds).flatten := fun m => by
        induction m with
        | zero => exact .nil
        | succ m ih => rw [List.replicate_succ, List.replicate_succ, List.flatten_cons, List.flatten_cons]; exact dpa_append (dpa_mono n.gg _ ha) ih
      exact rep _
theorem rcl_listT {K : PySem.W.Frag} {ds : List PyData} : RCl K (rListQ K) [.tuple ds] (.list ds) := fun G H s vs hv Q q => by
  cases hv with
  | cons h t =>
    cases t
    cases h with
    | @tup a xs _ hs ha =>
      refine ⟨_, _, rfl, .inr (same_tup s hs), fun l hl => ?_⟩
      have n := Nx.new (o := .lst xs) s hl
      exact q _ _ _ n (.lst (SqL.of upd_same) (dpa_mono n.gg _ ha))
theorem seq_forN {K : PySem.W.Frag} {tl : TE} {g : TG} {tb u : TS} {D : Ends} {σ : L2.St} {G H : Hp} {ds : List PyData} (h : EvN K tl σ G ds) (s : Same G H)
    (k : ∀ p vs G1 H1, Nx G H G1 H1 → H p = none → H1 p = some (.lst vs) → DpAll K G1 vs ds → tFor (iList K (tC (.ref p))) g tb { D with nx := u D } σ H1) : tSeq (tFor (iList K tl) g tb) u D σ H := h H s _ fun p vs G' H' n hp _ e ha => k p vs G' H' n hp e ha
theorem lay_ints (zs : List Int) : ∀ d ∈ zs.map PyData.int, d.canLay0 = true ∧ d.depth ≤ 2 := fun d hd => by
  obtain ⟨z, _, rfl⟩ := List.mem_map.mp hd
  exact ⟨rfl, by simp [PyData.depth]⟩
theorem g1_dp {K : PySem.W.Frag} {G' : Hp} {vs zs : List V} {x : PyData} (h : DpAll K G' vs []) (h' : DpAll K G' zs [x]) : DpAll K G' (g1 vs zs) [x] := by
  cases h
  obtain _ | ⟨a, _ | _⟩ := h'
  exact .cons a .nil
theorem th_noT {K : PySem.W.Frag} {G : Hp} {v : V} {x : PyData} (h : Th K G v x) : Th K (noT G) v x := h.imp (dp_noT x) fun ⟨e, p, e1, e2⟩ => ⟨e, p, e1, noT_of e2 fun _ z => nomatch z⟩
/-- lists of things -/
def ThA (K : PySem.W.Frag) (G : Hp) (vs : List V) (ds : List PyData) : Prop := ∀ (i : Nat) (v : V), vs[i]? = some v → ∃ x, ds[i]? = some x ∧ Th K G v x
def EvT (K : PySem.W.Frag) (ta : TA) (σ : L2.St) (G : Hp) (n : Nat) (ds : List PyData) : Prop := ∀ H, Same G H → ∀ Q : List V → Hp → Prop, (∀ vs G' H', Nx G H G' H' → vs.length = n → ThA K G' vs ds → Q vs H') → ta σ H Q
section
variable {K : PySem.W.Frag} {σ : L2.St} {G : Hp} {te : TE} {tR : TA} {d : PyData} {ds : List PyData} {n : Nat}
theorem ThA.cons {v : V} {vs : List V} (h : Th K G v d) (t : ThA K G vs ds) : ThA K G (v :: vs) (d :: ds) := fun i u e => by
  cases i with
  | zero => cases e; exact ⟨d, rfl, h⟩
  | succ i => exact t i u e
theorem EvT.mono {G1 : Hp} (h : EvT K tR σ G n ds) (g : Same G G1) : EvT K tR σ G1 n ds := fun H s Q q => h H (g.trans s) Q fun vs G' H' m hl ht => by
  obtain ⟨G2, n2, s2⟩ := m.over g s
  exact q vs G2 H' n2 hl fun i v e => by
    obtain ⟨x, e1, e2⟩ := ht i v e
    exact ⟨x, e1, e2.mono s2⟩
theorem et_nil : EvT K tNil σ G 0 [] := fun H s _ q => q [] G H (Nx.refl s) rfl fun i v e => nomatch e
theorem et_cons (h : EvD K te σ G d) (hr : EvT K tR σ G n ds) : EvT K (tCons te tR) σ G (n + 1) (d :: ds) := fun H s Q q =>
  h H s _ fun v G1 H1 n1 hv => (hr.mono n1.gg) H1 n1.gh _ fun vs G2 H2 n2 hl ht => q (v :: vs) G2 H2 (n1.trans n2) (by rw [List.length_cons, hl]) (ThA.cons (.inl (dp_mono n2.gg d hv)) ht)
theorem et_dict (h : ∀ H, Same G H → ∀ Q : VK, (∀ p, H p = none → Q (.ref p) (upd H p (.dK []))) → te σ H Q) (hr : EvT K tR σ G n ds) : EvT K (tCons te tR) σ G (n + 1) (.dict [] :: ds) := fun H s Q q =>
  h H s _ fun p hp => by
    have n1 := Nx.new (o := .dK []) s hp
    exact (hr.mono n1.gg) _ n1.gh _ fun vs G2 H2 n2 hl ht => q (.ref p :: vs) G2 H2 (n1.trans n2) (by rw [List.length_cons, hl]) (ThA.cons (.inr ⟨rfl, p, rfl, n2.gg _ _ upd_same⟩) ht)
theorem seq_forT {tA : TA} {g : TG} {tb u : TS} {D : Ends} {H : Hp} (h : EvT K tA σ G n ds) (s : Same G H) (hz : n ≤ sizeLine)
    (k : ∀ p vs G1 H1, Nx G H G1 H1 → H1 p = some (.lst vs) → ThA K G1 vs ds → tFor (iList K (tC (.ref p))) g tb { D with nx := u D } σ H1) : tSeq (tFor (iList K (tLst tA)) g tb) u D σ H := h H s _ fun vs G' H' m hl ht => ⟨by rw [hl]; exact hz, fun p hp => by
      have n2 := Nx.new (o := .lst vs) m.gh hp
      exact k p vs _ _ (m.trans n2) upd_same fun i v e => by
        obtain ⟨x, e1, e2⟩ := ht i v e
        exact ⟨x, e1, e2.mono n2.gg⟩⟩
end
theorem for_goT {K : PySem.W.Frag} {σ : L2.St} {G : Hp} {ds : List PyData} {n : Nat} {tA : TA} {g : TG} {tb : TS} {D : Ends} {H : Hp} (h : EvT K tA σ G n ds) (s : Same G H) (hz : n ≤ sizeLine)
    (k : ∀ p vs G1 H1, Nx G H G1 H1 → H1 p = some (.lst vs) → ThA K G1 vs ds → tFor (iList K (tC (.ref p))) g tb D σ H1) : tFor (iList K (tLst tA)) g tb D σ H := h H s _ fun vs G' H' m hl ht => ⟨by rw [hl]; exact hz, fun p hp => by
      have n2 := Nx.new (o := .lst vs) m.gh hp
      exact k p vs _ _ (m.trans n2) upd_same fun i v e => by
        obtain ⟨x, e1, e2⟩ := ht i v e
        exact ⟨x, e1, e2.mono n2.gg⟩⟩
theorem nx_of {D : Ends} {σ : L2.St} {H : Hp} (h : D.nx σ H) : tNext D σ H := h
/-! ### the law's judges -/
section
variable {K : PySem.W.Frag} {σ : L2.St} {G H : Hp} {ta tb : TE}
theorem isc_yes {D a : Addr} {Q : VK} (T : ExcC K D) (hk : PySem.W.kitOne K (.ref D) (.ref D) = some true) (ha : H a = some (ErrO (.ref D) none a)) (q : Q (.bl true) H) : rIsC K [.ref a, .ref D] H Q := .inr ⟨a, D, D, true, rfl, ha, T, hk, q⟩
end
end Gw
namespace Gw
open PySem PySem.Spec PyProof.Rows L2
/-! ### letters that are paired off -/
abbrev vN (l : List Nat) : List V := l.map fun (k : Nat) => V.int (k : Int)
theorem vN_ints (l : List Nat) : vN l = (l.map fun (k : Nat) => (k : Int)).map V.int := by rw [List.map_map]; rfl
theorem vN_last (l : List Nat) (x : Nat) : (vN (l ++ [x]))[(vN (l ++ [x])).length - 1]? = some (V.int (x : Int)) := by
  have e : (vN (l ++ [x])).length - 1 = (vN l).length := by simp [vN]
  rw [e]
  simp [vN]
theorem vN_drop (l : List Nat) (x : Nat) : (vN (l ++ [x])).dropLast = vN l := by simp [vN]
theorem last_of {α : Type} (l : List α) (h : l ≠ []) : ∃ m x, l = m ++ [x] := ⟨l.dropLast, l.getLast h, (List.dropLast_concat_getLast h).symm⟩
structure Pr (n : Nat) (L : List Nat) (fnd : List Int) : Prop where
  nd : L.Nodup
  lt : ∀ x ∈ L, x < n
  len : fnd.length = n
  inv : ∀ k, k < n → k ∉ L → ∃ j, j < n ∧ j ∉ L ∧ fnd[k]? = some (j : Int) ∧ fnd[j]? = some (k : Int)
theorem Pr.pair {n : Nat} {L L' : List Nat} {fnd : List Int} {x y : Nat} (P : Pr n L fnd) (hx : x ∈ L) (hy : y ∈ L) (hn : L'.Nodup) (hm : ∀ z, z ∈ L' ↔ z ∈ L ∧ z ≠ x ∧ z ≠ y) : Pr n L' ((fnd.set x (y : Int)).set y (x : Int)) := by
  have xl := P.lt x hx
  have yl := P.lt y hy
  have atY : ((fnd.set x (y : Int)).set y (x : Int))[y]? = some (x : Int) := by
    rw [List.getElem?_set_self (by rw [List.length_set, P.len]; exact yl)]
  have atX : ((fnd.set x (y : Int)).set y (x : Int))[x]? = some (y : Int) := by
    by_cases e : x = y
    · subst e; exact atY
    · rw [List.getElem?_set_ne (Ne.symm e), List.getElem?_set_self (by rw [P.len]; exact xl)]
  have other : ∀ k, k ≠ x → k ≠ y → ((fnd.set x (y : Int)).set y (x : Int))[k]? = fnd[k]? := fun k h1 h2 => by
    rw [List.getElem?_set_ne (Ne.symm h2), List.getElem?_set_ne (Ne.symm h1)]
  refine ⟨hn, fun z hz => P.lt z ((hm z).mp hz).1, by rw [List.length_set, List.length_set, P.len], fun k hk hkL => ?_⟩
  have hxL : x ∉ L' := fun z => ((hm x).mp z).2.1 rfl
  have hyL : y ∉ L' := fun z => ((hm y).mp z).2.2 rfl
  by_cases h1 : k = x
  · subst h1; exact ⟨y, yl, hyL, atX, atY⟩
  by_cases h2 : k = y
  · subst h2; exact ⟨x, xl, hxL, atY, atX⟩
  have hkL2 : k ∉ L := fun z => hkL ((hm k).mpr ⟨z, h1, h2⟩)
  obtain ⟨j, j1, j2, j3, j4⟩ := P.inv k hk hkL2
  have n1 : j ≠ x := fun z => j2 (z ▸ hx)
  have n2 : j ≠ y := fun z => j2 (z ▸ hy)
  exact ⟨j, j1, fun z => j2 ((hm j).mp z).1, by rw [other k h1 h2]; exact j3, by rw [other j n1 n2]; exact j4⟩
theorem Pr.done {n : Nat} {fnd : List Int} (P : Pr n [] fnd) (h2 : 2 ≤ n) (h12 : n ≤ 12) : IsBk fnd :=
  ⟨by rw [P.len]; exact h2, by rw [P.len]; exact h12, fun k hk => by
    obtain ⟨j, _, _, j3, j4⟩ := P.inv k (by rw [← P.len]; exact hk) List.not_mem_nil
    exact ⟨j, j3, j4⟩⟩
theorem Pr.start {n : Nat} {L : List Nat} (p : L.Perm (List.range n)) : Pr n L (List.replicate n 0) :=
  ⟨p.nodup_iff.mpr List.nodup_range, fun x hx => List.mem_range.mp (p.mem_iff.mp hx), List.length_replicate, fun k hk hkL => absurd (p.mem_iff.mpr (List.mem_range.mpr hk)) hkL⟩
theorem perm_nats {n : Nat} {ms : List Int} (p : ms.Perm ((List.range n).map fun (k : Nat) => (k : Int))) : ∃ L : List Nat, ms = L.map (fun (k : Nat) => (k : Int)) ∧ L.Perm (List.range n) := by
  refine ⟨ms.map Int.toNat, ?_, ?_⟩
  · rw [List.map_map]
    refine (List.map_id ms).symm.trans (List.map_congr_left fun x hx => ?_)
    obtain ⟨k, _, e⟩ := List.mem_map.mp (p.mem_iff.mp hx)
    rw [← e]; rfl
  · refine (p.map Int.toNat).trans ?_
    rw [List.map_map]
    have : (List.range n).map (Int.toNat ∘ fun (k : Nat) => (k : Int)) = List.range n := (List.map_congr_left fun x _ => rfl).trans (List.map_id _)
    rw [this]
theorem ix_nat {n k : Nat} (h : k < n) : ixN n (k : Int) = some k := by
  unfold ixN
  rw [if_pos (by omega), if_pos (by omega), Int.toNat_natCast]
end Gw
namespace Gw
open PySem PySem.Spec PyProof.Rows L2
/-! ### letters, in plain words -/
def isIntK : PyData → Bool | .int _ => true | .bool _ => true | _ => false
def isBoolK : PyData → Bool | .bool _ => true | _ => false
def isTupK : PyData → Bool | .tuple _ => true | _ => false
def isNum : PyData → Bool | .int _ => true | _ => false
def inR (lo hi : Int) : PyData → Bool | .int i => decide (lo ≤ i) && decide (i ≤ hi) | _ => false
def isRow (n : Int) : PyData → Bool | .tuple ds => ds.all (inR 0 (n - 1)) | _ => false
def isShort (n m : Int) : PyData → Bool | .tuple ds => decide ((ds.length : Int) ≤ m) && ds.all (inR 0 (n - 1)) | _ => false
def toI : PyData → Int | .int i => i | _ => 0
theorem kit_int : ∀ x : PyData, kitB (tyOf x) "int" = some (isIntK x)
  | .none => (by decide +kernel : kitB "NoneType" "int" = some false)
  | .bool _ => (by decide +kernel : kitB "bool" "int" = some true)
  | .int _ => (by decide +kernel : kitB "int" "int" = some true)
  | .str _ => (by decide +kernel : kitB "str" "int" = some false)
  | .list _ => (by decide +kernel : kitB "list" "int" = some false)
  | .tuple _ => (by decide +kernel : kitB "tuple" "int" = some false)
  | .dict _ => (by decide +kernel : kitB "dict" "int" = some false)
theorem kit_bool : ∀ x : PyData, kitB (tyOf x) "bool" = some (isBoolK x)
  | .none => (by decide +kernel : kitB "NoneType" "bool" = some false)
  | .bool _ => (by decide +kernel : kitB "bool" "bool" = some true)
  | .int _ => (by decide +kernel : kitB "int" "bool" = some false)
  | .str _ => (by decide +kernel : kitB "str" "bool" = some false)
  | .list _ => (by decide +kernel : kitB "list" "bool" = some false)
  | .tuple _ => (by decide +kernel : kitB "tuple" "bool" = some false)
  | .dict _ => (by decide +kernel : kitB "dict" "bool" = some false)
theorem kit_tup : ∀ x : PyData, kitB (tyOf x) "tuple" = some (isTupK x)
  | .none => (by decide +kernel : kitB "NoneType" "tuple" = some false)
  | .bool _ => (by decide +kernel : kitB "bool" "tuple" = some false)
  | .int _ => (by decide +kernel : kitB "int" "tuple" = some false)
  | .str _ => (by decide +kernel : kitB "str" "tuple" = some false)
  | .list _ => (by decide +kernel : kitB "list" "tuple" = some false)
  | .tuple _ => (by decide +kernel : kitB "tuple" "tuple" = some true)
  | .dict _ => (by decide +kernel : kitB "dict" "tuple" = some false)
/-- a tuple that may stand in memory -/
def Sized : PyData → Prop | .tuple ds => ds.length ≤ sizeLine | _ => True
def bkAt (ds : List PyData) (k : Nat) (d : PyData) : Bool := PyData.eqv (ds.getD (toI d).toNat .none) (.int (k : Int))
def isBackD : PyData → Bool
  | .tuple ds => decide (2 ≤ ds.length) && decide (ds.length ≤ 12) && (ds.all (inR 0 ((ds.length : Int) - 1)) && (ds.mapIdx (bkAt ds)).all id)
  | _ => false
theorem not_t {b : Bool} (h : (!b) = true) : b = false := by cases b <;> first | rfl | cases h
theorem not_f {b : Bool} (h : (!b) = false) : b = true := by cases b <;> first | rfl | cases h
theorem shaped_int (i : Int) : SeqAt.shaped (.int i) = true := by simp [SeqAt.shaped, PyData.canLay0, PyData.depth]
theorem mapIdx_then {α β γ : Type} (f : Nat → α → β) (g : β → γ) (l : List α) : (l.mapIdx f).map g = l.mapIdx fun i a => g (f i a) := by
  refine List.ext_getElem? fun i => ?_
  rw [List.getElem?_map, List.getElem?_mapIdx, List.getElem?_mapIdx, Option.map_map]
  rfl
theorem inR_int {lo hi : Int} {d : PyData} (h : inR lo hi d = true) : ∃ i, d = .int i ∧ lo ≤ i ∧ i ≤ hi := by
  cases d with
  | int i =>
    have h : (decide (lo ≤ i) && decide (i ≤ hi)) = true := h
    rw [Bool.and_eq_true, decide_eq_true_eq, decide_eq_true_eq] at h
    exact ⟨i, rfl, h.1, h.2⟩
  | _ => cases h
theorem all_inR {n : Nat} {ws : List Int} (h : Letters n ws) : (ws.map PyData.int).all (inR 0 ((n : Int) - 1)) = true := by
  rw [List.all_eq_true]
  intro d hd
  obtain ⟨x, hx, rfl⟩ := List.mem_map.mp hd
  have := h x hx
  show (decide (0 ≤ x) && decide (x ≤ (n : Int) - 1)) = true
  rw [decide_eq_true this.1, decide_eq_true (by omega)]
  rfl
theorem IsBk.letters {bs : List Int} (B : IsBk bs) : Letters bs.length bs := by
  intro x hx
  obtain ⟨k, hk, e⟩ := List.mem_iff_getElem.mp hx
  obtain ⟨j, j1, j2⟩ := B.inv k hk
  rw [List.getElem?_eq_getElem hk, e] at j1
  have hj := (List.getElem?_eq_some_iff.mp j2).1
  have := Option.some.inj j1
  omega
theorem IsBk.is {bs : List Int} (B : IsBk bs) : isBackD (.tuple (bs.map .int)) = true := by
  show (decide (2 ≤ (bs.map PyData.int).length) && decide ((bs.map PyData.int).length ≤ 12) && ((bs.map PyData.int).all (inR 0 (((bs.map PyData.int).length : Int) - 1)) && ((bs.map PyData.int).mapIdx (bkAt (bs.map PyData.int))).all id)) = true
  rw [List.length_map, decide_eq_true B.two, decide_eq_true B.six, all_inR B.letters]
  simp only [Bool.true_and, List.all_eq_true]
  intro b hb
  obtain ⟨k, hk, e⟩ := List.mem_iff_getElem.mp hb
  rw [List.length_mapIdx, List.length_map] at hk
  rw [List.getElem_mapIdx, List.getElem_map] at e
  obtain ⟨j, j1, j2⟩ := B.inv k hk
  rw [List.getElem?_eq_getElem hk] at j1
  have e1 : bs[k] = (j : Int) := Option.some.inj j1
  rw [← e]
  show PyData.eqv ((bs.map PyData.int).getD (toI (.int bs[k])).toNat .none) (.int (k : Int)) = true
  rw [e1]
  show PyData.eqv ((bs.map PyData.int).getD j .none) (.int (k : Int)) = true
  rw [List.getD_eq_getElem?_getD, List.getElem?_map, j2]
  show ((k : Int) == (k : Int)) = true
  exact beq_self_eq_true _
/-! ### neighbours taken out -/
def frSt (bs : List Int) (left : List Int) (x : Int) : List Int := if left ≠ [] ∧ left.getLast? = bs[x.toNat]? then left.dropLast else left ++ [x]
def frI (bs ws : List Int) : List Int := ws.foldl (frSt bs) []
theorem frI_take {bs ws : List Int} {i : Nat} {x : Int} (h : ws[i]? = some x) : frI bs (ws.take (i + 1)) = frSt bs (frI bs (ws.take i)) x := by
  unfold frI
  rw [List.take_succ, h, List.foldl_append]
  rfl
theorem frSt_len {bs left : List Int} {x : Int} : (frSt bs left x).length ≤ left.length + 1 := by
  unfold frSt
  split
  · rw [List.length_dropLast]; omega
  · rw [List.length_append]; exact Nat.le_refl _
theorem frI_len (bs : List Int) : ∀ (ws left : List Int), (ws.foldl (frSt bs) left).length ≤ left.length + ws.length
  | [], _ => Nat.le_refl _
  | x :: ws, left => by
    rw [List.foldl_cons, List.length_cons]
    have h1 := frI_len bs ws (frSt bs left x)
    have h2 := frSt_len (bs := bs) (left := left) (x := x)
    omega
theorem frSt_let {bs left : List Int} {x : Int} {n : Nat} (h : Letters n left) (hx : 0 ≤ x ∧ x < (n : Int)) : Letters n (frSt bs left x) := by
  unfold frSt
  split
  · exact fun y hy => h y ((List.dropLast_sublist left).subset hy)
  · intro y hy
    rcases List.mem_append.mp hy with hy | hy
    · exact h y hy
    · rw [List.mem_singleton.mp hy]; exact hx
theorem frI_let {bs : List Int} {n : Nat} : ∀ (ws left : List Int), Letters n left → Letters n ws → Letters n (ws.foldl (frSt bs) left)
  | [], _, h, _ => h
  | x :: ws, left, h, hw => by
    rw [List.foldl_cons]
    exact frI_let ws _ (frSt_let h (hw x List.mem_cons_self)) fun y hy => hw y (List.mem_cons_of_mem _ hy)
end Gw
namespace Gw
open PySem PySem.Spec PyProof.Rows L2
/-! ### a list or a tuple, walked -/
def iE (K : PySem.W.Frag) (tl : TE) : TI := fun σ H R => iList K tl σ H R ∨ iTup K tl σ H R
theorem q_iE (K : PySem.W.Frag) {X : Cx} {tg l : Expr} {tl : TE} (e : X.K = K) (h : PE X l tl) : PI X tg l (iE K tl) := by
  subst e
  exact ⟨fun pins s σ H R I q => q.elim (fun q => (pi_list h).run pins s σ H R I q) fun q => (pi_tup h).run pins s σ H R I q⟩
theorem q_isiT (K : PySem.W.Frag) {X : Cx} (e : X.K = K) : CallR X (.builtin "isinstance") (rIsiT K) := by subst e; exact call_isiT
/-- a block whose first statement never ends as it would -/
theorem pss_dead {X : Cx} {st : Stmt} {rest : List Stmt} {t : TS} (h : PS X st t) : PSs X (st :: rest) (fun D σ H => t { D with nx := fun _ _ => False } σ H) := by
  refine ⟨fun pins s σ H D I q => wpAny_execs_cons (wpAny_mono (h.run pins s σ H _ I q) (fun f s1 sp => ?_) fun _ _ z => z)⟩
  cases f with
  | next => obtain ⟨_, _, _, z⟩ := sp; exact False.elim z
  | brk => exact sp
  | cont => exact sp
  | ret u => exact sp
section
variable {K : PySem.W.Frag} {σ : L2.St} {G : Hp} {tl te : TE} {g : TG} {tt : TT} {vs : List Nat} {ds : List PyData}
theorem en_iL (h : EvN K (tLc (iList K tl) g tt te vs) σ G ds) : EvN K (tLc (iE K tl) g tt te vs) σ G ds := fun H s Q q => .inl (h H s Q q)
theorem en_iT (h : EvN K (tLc (iTup K tl) g tt te vs) σ G ds) : EvN K (tLc (iE K tl) g tt te vs) σ G ds := fun H s Q q => .inr (h H s Q q)
end
/-! ### kinds -/
def isLst : PyData → Bool | .list _ => true | _ => false
def isLT : PyData → Bool | .list _ => true | .tuple _ => true | _ => false
theorem kit_lst : ∀ x : PyData, kitB (tyOf x) "list" = some (isLst x)
  | .none => (by decide +kernel : kitB "NoneType" "list" = some false)
  | .bool _ => (by decide +kernel : kitB "bool" "list" = some false)
  | .int _ => (by decide +kernel : kitB "int" "list" = some false)
  | .str _ => (by decide +kernel : kitB "str" "list" = some false)
  | .list _ => (by decide +kernel : kitB "list" "list" = some true)
  | .tuple _ => (by decide +kernel : kitB "tuple" "list" = some false)
  | .dict _ => (by decide +kernel : kitB "dict" "list" = some false)
theorem kit_lt {K : PySem.W.Frag} (x : PyData) : PySem.W.kitAny K (.type (tyOf x)) [.type "list", .type "tuple"] = some (isLT x) := by
  refine kitAny_cons (b := isLst x) (kit_ty (kit_lst x)) (fun h => ?_) (fun h => ?_)
  · refine kitAny_cons (b := isTupK x) (kit_ty (kit_tup x)) (fun h2 => ?_) (fun h2 => ?_)
    · cases x <;> first | rfl | (exact absurd h2 (by decide)) | (exact absurd h (by decide)) | (cases h2; done) | (cases h; done)
    · cases x <;> first | rfl | cases h2
  · cases x <;> first | rfl | cases h
section
variable {K : PySem.W.Frag} {σ : L2.St} {G : Hp} {i : Nat} {v : V} {x : PyData}
theorem ed_isiLT (h : σ[i]? = some (some v)) (hv : Th K G v x) : EvD K (tCB (rIsiT K) (tCons (tVar i) (tCons (tTup (tCons (tC (.ty "list")) (tCons (tC (.ty "tuple")) tNil))) tNil))) σ G (.bool (isLT x)) := fun H s Q q => by
  refine ⟨v, h, by show 2 ≤ sizeLine; decide, fun tp htp => ?_⟩
  have n := Nx.lay (o := .tup [.ty "list", .ty "tuple"]) s htp
  exact ⟨v, tp, [.ty "list", .ty "tuple"], .type (tyOf x), [.type "list", .type "tuple"], _, rfl, upd_same, .cons (.ty "list") (.cons (.ty "tuple") .nil), hv.ty n.gh, kit_lt x, q _ _ _ n (.bl _)⟩
end
/-- isinstance of an own class: not for what is of a built-in kind -/
theorem kit_own {K : PySem.W.Frag} {C : Addr} {T : String} (hc : (PySem.W.clsIn K C).isSome = true) (ht : PySem.W.typeIn K (.ref C) = some (.type "type")) (hs : PySem.W.subIn K (.type T) (.ref C) = some false) : PySem.W.kitOne K (.type T) (.ref C) = some false := by
  have e1 : (Value.type T == Value.ref C) = false := by
    rw [beq_eq_false_iff_ne]; exact fun z => nomatch z
  have e2 : ((PySem.W.clsIn K C).isSome && PySem.W.typeIn K (.ref C) == some (.type "type")) = true := by rw [hc, ht] <;> rfl
  show (if (Value.type T == Value.ref C) = true then some true else if ((PySem.W.clsIn K C).isSome && PySem.W.typeIn K (.ref C) == some (.type "type")) = true then PySem.W.subIn K (.type T) (.ref C) else none) = some false
  rw [e1, if_neg Bool.false_ne_true, if_pos e2]
  exact hs
/-- what the top has written of an own class without bases -/
structure OwnC (K : PySem.W.Frag) (C : Addr) : Prop where
  cl : Cls K C
  ci : (PySem.W.clsIn K C).isSome = true
  ty : PySem.W.typeIn K (.ref C) = some (.type "type")
  ha : PySem.W.findIn K (.ref C) "__class__" = some (some (.builtin "object.__class__"))
  hn : PySem.W.specialIn K (.builtin "object.__class__") "__get__" = some (some (.builtin "getset_descriptor.__get__"))
  ht : PySem.W.takesIn K (.builtin "object.__class__") = some true
  hm : PySem.W.mroIn K C (.type "object") = some true
  no : PySem.W.subIn K (.type "NoneType") (.ref C) = some false
  bo : PySem.W.subIn K (.type "bool") (.ref C) = some false
  int : PySem.W.subIn K (.type "int") (.ref C) = some false
  st : PySem.W.subIn K (.type "str") (.ref C) = some false
  li : PySem.W.subIn K (.type "list") (.ref C) = some false
  tu : PySem.W.subIn K (.type "tuple") (.ref C) = some false
  di : PySem.W.subIn K (.type "dict") (.ref C) = some false
theorem OwnC.sub {K : PySem.W.Frag} {C : Addr} (O : OwnC K C) : ∀ x : PyData, PySem.W.subIn K (.type (tyOf x)) (.ref C) = some false
  | .none => O.no
  | .bool _ => O.bo
  | .int _ => O.int
  | .str _ => O.st
  | .list _ => O.li
  | .tuple _ => O.tu
  | .dict _ => O.di
theorem OwnC.kit {K : PySem.W.Frag} {C : Addr} (O : OwnC K C) (x : PyData) : PySem.W.kitOne K (.type (tyOf x)) (.ref C) = some false := kit_own O.ci O.ty (O.sub x)
theorem OwnC.nf {K : PySem.W.Frag} {C : Addr} (O : OwnC K C) (x : PyData) : PySem.W.notFirst K C (.type (tyOf x)) = true := by
  show (_ || PySem.W.subIn K (.type (tyOf x)) (.ref C) == some false) = true
  rw [O.sub x]; simp
theorem OwnC.me {K : PySem.W.Frag} {C : Addr} (O : OwnC K C) : PySem.W.kitOne K (.ref C) (.ref C) = some true := if_pos (beq_self_eq_true _)
theorem OwnC.tyx {K : PySem.W.Frag} {C a dx : Addr} {H : Hp} {fs : List (Str × V)} (O : OwnC K C) (h : H a = some (.ins C dx fs)) : TyX K H (.ref a) (.ref C) := .base (.ins h O.cl O.ha O.hn O.ht O.hm)
section
variable {K : PySem.W.Frag} {σ : L2.St} {G H : Hp} {tt : TT} {t u : TS} {D : Ends} {te : TE} {d : PyData}
theorem seq_ifB {b : Bool} (h : EvB K tt σ G b) (s : Same G H) (k1 : b = true → ∀ G1 H1, Nx G H G1 H1 → t { D with nx := u D } σ H1) (k0 : b = false → ∀ G1 H1, Nx G H G1 H1 → u D σ H1) : tSeq (tIfS tt t tNext) u D σ H := h H s _ fun G1 H1 n => by
  cases b with
  | true => exact if_on rfl (k1 rfl G1 H1 n)
  | false => exact if_off rfl (k0 rfl G1 H1 n)
theorem ed_isiC {i : Nat} {v : V} {ty : Value} {b : Bool} {C : Addr} (h : σ[i]? = some (some v)) (hty : ∀ H, Same G H → TyX K H v ty) (hk : PySem.W.kitOne K ty (.ref C) = some b) : EvD K (tCB (rIsi K) (tCons (tVar i) (tCons (tC (.ref C)) tNil))) σ G (.bool b) := fun H s Q q =>
  ⟨v, h, v, .ref C, ty, .ref C, b, rfl, .own C, hty H s, hk, q _ G H (Nx.refl s) (.bl b)⟩
theorem ed_fld {i : Nat} {g C dx : Addr} {fs : List (Str × V)} {f : Str} {v : V} (h : σ[i]? = some (some (.ref g))) (hg : G g = some (.ins C dx fs)) (cl : Cls K C) (na : NoAttr K C f) (hf : fs.lookup f = some v) (hd : Dp K G v d) : EvD K (tFld K (tVar i) f) σ G d := fun H s Q q =>
  ⟨_, h, g, C, dx, fs, v, rfl, s _ _ hg, cl, na, hf, q v G H (Nx.refl s) hd⟩
end
end Gw
namespace Gw
open PySem PySem.Spec PyProof.Rows L2 LamX
/-! ### the law's own call where the law holds lambdas: what runs around is known, the law's table of codes is empty -/
structure LawT (P : Program) (w : World) (K : PySem.W.Frag) (mg : Str → Option Value) (x : Str) (st : Stmt) (N : List Str) (k : Nat) (f c Pt : Addr) : Prop where
  S : FnScope N ["script"] (defScope st)
  lk : ∃ (oc kV doc pm ct : Value) (od an : Option Addr) (osl : Array (Option Value)), K.lookup f = some ⟨oc, od, .func (PySem.W.fnOf x x (defArgs st) (defBody st) (defScope st) .none kV doc pm an (.ref c) ct), osl⟩ ∧ L2.Binds K (PySem.W.fnOf x x (defArgs st) (defBody st) (defScope st) .none kV doc pm an (.ref c) ct) ["script"] []
  cd : PySem.W.codeIn K (.ref c) x = true
  ch : PySem.W.codeHdIn K c Pt = true
  np : K.lookup Pt = none
  body : ∀ (base : Heap), K.In base → base.Ns mainGlobals mg → TabB base mg c Pt → ∀ (s : Shared) (H : Hp) (a : Addr) (ns : List Int), Room k (callerA.deeper (envOfC x (defScope st) s.heap.objs.size f (.ref c))) → SqL K H a (ns.map V.int) → ns.length ≤ 63 → H Pt = some (.tbl #[]) →
    ∃ t, PSs (cxOf CX0 P w K mg base N x (defScope st) f (.ref c) callerA [] s H E0).nox (defBody st) t ∧ t { nx := fun _ _ => V.non = V.bl true, rt := fun v _ => v = .bl true } (start N [.ref a]) H
/-- what may be told of where the law begins: the script, the table -/
def BegHp (H : Hp) (a Pt : Addr) (o : Obj) (ns : List Int) : Prop := H Pt = some (.tbl #[]) ∧ ∀ b u, H b = some u → (b = a ∧ u = .frz o (.lst (ns.map V.int))) ∨ (b = Pt ∧ u = .tbl #[])
theorem lawT_at {P : Program} {w : World} {K : PySem.W.Frag} {mg mb : Str → Option Value} {x : Str} {st : Stmt} {N : List Str} {k : Nat} {f a c Pt : Addr} {s1 : Shared} {vs : List Value} {ns : List Int}
    (KX : K.In s1.heap) (hns : s1.heap.Ns mainGlobals mg) (hb : s1.heap.Ns builtinsNs mb) (hbb : ∀ y : Str, y ≠ "__name__" → mb y = bootBuiltins y) (hlim : s1.heap.NoLimit) (hgen : s1.gens = #[])
    (hT : s1.heap.get? Pt = some { cls := .none, data := .fields #[] }) (hbm : ∃ (bm : Addr) (ob : Obj), mg "__builtins__" = some (.ref bm) ∧ bm ≠ builtinsNs ∧ s1.heap.get? bm = some ob ∧ ob.cls = .type "module" ∧ ob.dict = some builtinsNs ∧ ob.data = .plain)
    (ha : s1.heap.get? a = some { cls := .type "list", data := .seq vs.toArray }) (hi : IntsAre vs ns) (h63 : ns.length ≤ 63) (hr : Room (k + 1) callerA) (L : LawT P w K mg x st N k f c Pt) :
    codeAny (model P w) callerA (.call (.ref f) ⟨[.ref a], []⟩) (fun r s' => r = .ok (.ret (.bool true)) ∧ OldK s1.heap s'.heap ∧ s'.os = s1.os ∧ AllBare s'.gens) s1 := by
  have rv := vals_ints hi
  have lv := hi.length
  have hz : (ns.map V.int).length ≤ sizeLine := by rw [List.length_map]; exact Nat.le_trans h63 (by decide)
  have haP : a ≠ Pt := fun z => by rw [z, hT] at ha; cases ha
  have main : ∀ H : Hp, BegHp H a Pt { cls := .type "list", data := .seq vs.toArray } ns → SqL K H a (ns.map V.int) → (H a ≠ none → K.lookup a = none) →
      codeAny (model P w) callerA (.call (.ref f) ⟨[.ref a], []⟩) (fun r s' => r = .ok (.ret (.bool true)) ∧ OldK s1.heap s'.heap ∧ s'.os = s1.os ∧ AllBare s'.gens) s1 := by
    intro H hH hS hK
    have ok : HOk P w H s1.heap := fun b u q => by
      rcases hH.2 b u q with ⟨rfl, rfl⟩ | ⟨rfl, rfl⟩
      · exact ⟨ha, hz, vs, 0, rv, ha⟩
      · exact hT
    have out : ∀ {b : Addr} {o : Obj}, s1.heap.get? b = some o → (b = a → H a = none) → b ≠ Pt → (hidT s1.heap H).get? b = some o := fun {b o} e n n2 => hidT_get e (by
      cases q : H b with
      | none => rfl
      | some u =>
        rcases hH.2 b u q with ⟨e2, _⟩ | ⟨e2, _⟩
        · rw [e2, n e2] at q; cases q
        · exact absurd e2 n2)
    have kin : K.In (hidT s1.heap H) := fun b o e => out (KX b o e) (fun z => by
      cases q : H a with
      | none => rfl
      | some u =>
        have z2 := hK (by rw [q]; exact fun z => nomatch z)
        rw [z, z2] at e
        cases e) fun z => by rw [z, L.np] at e; cases e
    have nsp : ∀ {b : Addr} {m : Str → Option Value}, s1.heap.Ns b m → (hidT s1.heap H).Ns b m := fun {b m} ⟨o, es, ep, e, d, r⟩ => ⟨o, es, ep, out e (fun z => by
      rw [z, ha] at e
      cases e
      cases d) (fun z => by
      rw [z, hT] at e
      cases e
      cases d), d, r⟩
    have mod : Mod K mg (hidT s1.heap H) := ⟨kin, nsp hns, ⟨mb, nsp hb, hbb⟩, let ⟨mc, h1, h2⟩ := hlim; ⟨mc, nsp h1, h2⟩⟩
    have tab : TabB (hidT s1.heap H) mg c Pt := by
      refine ⟨PySem.W.codeHd_of_K kin L.ch, ?_, fun z => ?_⟩
      · obtain ⟨bm, ob, b1, b2, b3, b4, b5, b6⟩ := hbm
        refine ⟨bm, ob, b1, b2, fun z => ?_, fun z => ?_, out b3 (fun z => ?_) fun z => ?_, b4, b5, b6⟩
        · obtain ⟨o, es, ep, e, d, r⟩ := hns
          rw [z, e] at b3
          cases b3
          rw [d] at b6
          cases b6
        · rw [z, hT] at b3
          cases b3
          cases b6
        · rw [z, ha] at b3
          cases b3
          cases b6
        · rw [z, hT] at b3
          cases b3
          cases b6
      · obtain ⟨o, es, ep, e, d, r⟩ := hns
        rw [z, hT] at e
        cases e
        cases d
    have e0 : Env0 P w K mg (hidT s1.heap H) callerA [] s1 H := ⟨rfl, mod, fun _ _ e => of_hidT e, Nat.le_of_eq (hidT_size _ _), trivial, fun b z => absurd (show b ∈ ([] : List Addr) from z) List.not_mem_nil, ok, .of_eq hgen⟩
    obtain ⟨oc, kV, doc, pm, ct, od, an, osl, lk, B⟩ := L.lk
    have bt := B s1 [.ref a] KX rfl
    refine codeAny_mono (LamX.run_ofS (CX := CX0) (Q := fun v _ => v = .bl true) (E := E0) lk L.cd L.S hr e0 bt (.cons rfl .nil : Vals [.ref a] [.ref a]) rfl fun hr2 => ?_) fun r s' hq => ?_
    · obtain ⟨t, h1, h2⟩ := L.body _ kin (nsp hns) tab s1 H a ns hr2 hS h63 hH.1
      exact ⟨t, h1.nox, h2⟩
    · cases r with
      | error e => exact (show False from hq).elim
      | ok fl =>
        cases fl with
        | next => exact (show False from hq).elim
        | brk => exact (show False from hq).elim
        | cont => exact (show False from hq).elim
        | ret u =>
          obtain ⟨v, H2, hos, bare, un, ok2, ru, e⟩ := hq
          have e : v = .bl true := e
          subst e
          cases ru
          obtain ⟨more, gr⟩ := un.tbls Pt #[] hH.1
          have gr2 : s'.heap.get? Pt = some { cls := .none, data := .fields (#[] ++ more) } := ok2 Pt _ gr
          have other : ∀ b o, b ≠ Pt → s1.heap.get? b = some o → s'.heap.get? b = some o := fun b o nb eb => by
            cases q : H b with
            | none => exact un.keep b o eb q (fun z => nomatch z) (fun z => nomatch z)
            | some u =>
              rcases hH.2 b u q with ⟨rfl, rfl⟩ | ⟨rfl, rfl⟩
              · obtain ⟨g1, _⟩ := ok _ _ q
                obtain ⟨g2, _⟩ := ok2 _ _ (un.frzs _ _ _ q)
                rw [eb] at g1
                cases g1
                exact g2
              · exact absurd rfl nb
          refine ⟨rfl, ⟨fun b o eb => ?_, fun b o eb => ?_⟩, hos, bare⟩
          · by_cases hbP : b = Pt
            · subst hbP
              rw [hT] at eb
              cases eb
              exact .inr (.inl ⟨((PySem.W.codeHd_of_K KX L.ch).tab hT).isCodeTable, rfl, #[], more, rfl, gr2⟩)
            · exact .inl (other b o hbP eb)
          · by_cases hbP : b = Pt
            · subst hbP; exact ⟨_, gr2⟩
            · exact ⟨o, other b o hbP eb⟩
  cases hk : K.lookup a with
  | some o =>
    have e := KX a o hk
    rw [ha] at e
    cases e
    refine main (fun b => if b = Pt then some (.tbl #[]) else none) ⟨if_pos rfl, fun b u q => ?_⟩ (.inr ⟨_, vs.toArray, _, hk, rfl, rfl, rfl, by rw [List.size_toArray, lv]; exact Nat.le_trans h63 (by decide), by simpa using rv⟩) (fun z => absurd (if_neg haP) z)
    by_cases hbP : b = Pt
    · have q : (if b = Pt then some (HO.tbl #[]) else none) = some u := q
      rw [if_pos hbP] at q
      cases q
      exact .inr ⟨hbP, rfl⟩
    · have q : (if b = Pt then some (HO.tbl #[]) else none) = some u := q
      rw [if_neg hbP] at q
      cases q
  | none =>
    refine main (fun b => if b = Pt then some (.tbl #[]) else if b = a then some (.frz { cls := .type "list", data := .seq vs.toArray } (.lst (ns.map V.int))) else none) ⟨if_pos rfl, fun b u q => ?_⟩ (.inl (.inr ⟨_, (if_neg haP).trans (if_pos rfl)⟩)) fun _ => hk
    have q : (if b = Pt then some (HO.tbl #[]) else if b = a then some (HO.frz { cls := .type "list", data := .seq vs.toArray } (.lst (ns.map V.int))) else none) = some u := q
    by_cases hbP : b = Pt
    · rw [if_pos hbP] at q
      cases q
      exact .inr ⟨hbP, rfl⟩
    · rw [if_neg hbP] at q
      by_cases hba : b = a
      · rw [if_pos hba] at q
        cases q
        exact .inl ⟨hba, rfl⟩
      · rw [if_neg hba] at q
        cases q
/-- the goal that the head leaves, with the tables that it tells of -/
theorem walk_atT {l : PySem.W.OpenLaw} {k : Nat} {q : Program} {loose : List Str} {XP : (Str → Option Value) → Heap → Prop} {YP : World → Heap → Prop} {d : DefRec} {K : Params → PySem.W.Frag} {st : Stmt} {N : List Str} {ts : List Addr} (hn : l.most = some 63) (hdf : d.params.defaults = []) (hr : Room (k + 1) callerA)
    (hY : ∀ (w : World) (h : Heap), YP w h → (K w.params).In h ∧ ∀ Pt ∈ ts, h.get? Pt = some { cls := .none, data := .fields #[] })
    (F : ∀ (w : World) (mg : Str → Option Value) (fa : Addr) (h : Heap), (K w.params).In h → h.Ns mainGlobals mg → mg d.name = some (.ref fa) → ∃ c Pt, Pt ∈ ts ∧ LawT l.prog w (K w.params) mg d.name st N k fa c Pt) :
    PySem.W.WalkO q loose XP YP l.row.toRowW d [] (fun f vs => PySem.call f vs) := by
  refine Att.attach_call hn hdf fun w s0 s1 mg mb fa o pm cd doc a vs ns G Y ho hd hcd hmg hobj hints hlen hg => ?_
  obtain ⟨KX, YT⟩ := hY w _ Y
  obtain ⟨c, Pt, hPt, L⟩ := F w mg fa _ KX G.T.g hmg
  exact lawT_at KX G.T.g G.T.b G.T.builtins G.T.nolimit hg (YT Pt hPt) G.T.bmain hobj hints hlen hr L
end Gw
namespace Gw
open PySem PySem.Spec PyProof.Rows L2
def top (i : Nat) : Stmt := PySem.Challenge.pw_gatewords_k61_whole_changes_of_groups.main.body.getD i (.Pass ⟨0, 0, 0, 0⟩)
def clsM (c : Stmt) (j : Nat) : Stmt := match c with
  | .ClassDef _ _ _ b _ _ _ _ _ _ _ => b.getD j (.Pass ⟨0, 0, 0, 0⟩)
  | _ => .Pass ⟨0, 0, 0, 0⟩
abbrev s_is_number : Stmt := top 8
abbrev N_is_number : List Str := ["thing"]
abbrev P_is_number : List Str := ["thing"]
theorem sc_is_number : FnScope N_is_number P_is_number (defScope s_is_number) := ⟨rfl, rfl, rfl, by decide +kernel, rfl, by decide +kernel, by decide +kernel⟩
abbrev s_is_number_in : Stmt := top 9
abbrev N_is_number_in : List Str := ["thing", "least", "most"]
abbrev P_is_number_in : List Str := ["thing", "least", "most"]
theorem sc_is_number_in : FnScope N_is_number_in P_is_number_in (defScope s_is_number_in) := ⟨rfl, rfl, rfl, by decide +kernel, rfl, by decide +kernel, by decide +kernel⟩
abbrev s_is_list : Stmt := top 10
abbrev N_is_list : List Str := ["thing"]
abbrev P_is_list : List Str := ["thing"]
theorem sc_is_list : FnScope N_is_list P_is_list (defScope s_is_list) := ⟨rfl, rfl, rfl, by decide +kernel, rfl, by decide +kernel, by decide +kernel⟩
abbrev s_is_pair : Stmt := top 11
abbrev N_is_pair : List Str := ["thing"]
abbrev P_is_pair : List Str := ["thing"]
theorem sc_is_pair : FnScope N_is_pair P_is_pair (defScope s_is_pair) := ⟨rfl, rfl, rfl, by decide +kernel, rfl, by decide +kernel, by decide +kernel⟩
abbrev s_is_row : Stmt := top 12
abbrev N_is_row : List Str := ["many", "thing", "x"]
abbrev P_is_row : List Str := ["many", "thing"]
theorem sc_is_row : FnScope N_is_row P_is_row (defScope s_is_row) := ⟨rfl, rfl, rfl, by decide +kernel, rfl, by decide +kernel, by decide +kernel⟩
abbrev s_is_short_row : Stmt := top 13
abbrev N_is_short_row : List Str := ["many", "thing", "most"]
abbrev P_is_short_row : List Str := ["many", "thing", "most"]
theorem sc_is_short_row : FnScope N_is_short_row P_is_short_row (defScope s_is_short_row) := ⟨rfl, rfl, rfl, by decide +kernel, rfl, by decide +kernel, by decide +kernel⟩
abbrev s_is_back : Stmt := top 14
abbrev N_is_back : List Str := ["thing", "letter", "back"]
abbrev P_is_back : List Str := ["thing"]
theorem sc_is_back : FnScope N_is_back P_is_back (defScope s_is_back) := ⟨rfl, rfl, rfl, by decide +kernel, rfl, by decide +kernel, by decide +kernel⟩
abbrev s_want_letters : Stmt := top 15
abbrev N_want_letters : List Str := ["back", "word"]
abbrev P_want_letters : List Str := ["back", "word"]
theorem sc_want_letters : FnScope N_want_letters P_want_letters (defScope s_want_letters) := ⟨rfl, rfl, rfl, by decide +kernel, rfl, by decide +kernel, by decide +kernel⟩
abbrev s_turned_back : Stmt := top 16
abbrev N_turned_back : List Str := ["back", "word", "letter"]
abbrev P_turned_back : List Str := ["back", "word"]
theorem sc_turned_back : FnScope N_turned_back P_turned_back (defScope s_turned_back) := ⟨rfl, rfl, rfl, by decide +kernel, rfl, by decide +kernel, by decide +kernel⟩
abbrev s_is_rule : Stmt := top 20
abbrev N_is_rule : List Str := ["many", "thing", "side"]
abbrev P_is_rule : List Str := ["many", "thing"]
theorem sc_is_rule : FnScope N_is_rule P_is_rule (defScope s_is_rule) := ⟨rfl, rfl, rfl, by decide +kernel, rfl, by decide +kernel, by decide +kernel⟩
abbrev s_are_rules : Stmt := top 21
abbrev N_are_rules : List Str := ["many", "thing", "rule"]
abbrev P_are_rules : List Str := ["many", "thing"]
theorem sc_are_rules : FnScope N_are_rules P_are_rules (defScope s_are_rules) := ⟨rfl, rfl, rfl, by decide +kernel, rfl, by decide +kernel, by decide +kernel⟩
abbrev s_want_group : Stmt := top 23
abbrev N_want_group : List Str := ["group"]
abbrev P_want_group : List Str := ["group"]
theorem sc_want_group : FnScope N_want_group P_want_group (defScope s_want_group) := ⟨rfl, rfl, rfl, by decide +kernel, rfl, by decide +kernel, by decide +kernel⟩
abbrev s_is_change : Stmt := top 25
abbrev N_is_change : List Str := ["thing", "kind", "side"]
abbrev P_is_change : List Str := ["thing"]
theorem sc_is_change : FnScope N_is_change P_is_change (defScope s_is_change) := ⟨rfl, rfl, rfl, by decide +kernel, rfl, by decide +kernel, by decide +kernel⟩
abbrev s_with_rule : Stmt := top 26
abbrev N_with_rule : List Str := ["group", "one", "other", "many"]
abbrev P_with_rule : List Str := ["group", "one", "other"]
theorem sc_with_rule : FnScope N_with_rule P_with_rule (defScope s_with_rule) := ⟨rfl, rfl, rfl, by decide +kernel, rfl, by decide +kernel, by decide +kernel⟩
abbrev s_without_rule : Stmt := top 27
abbrev N_without_rule : List Str := ["group", "place"]
abbrev P_without_rule : List Str := ["group", "place"]
theorem sc_without_rule : FnScope N_without_rule P_without_rule (defScope s_without_rule) := ⟨rfl, rfl, rfl, by decide +kernel, rfl, by decide +kernel, by decide +kernel⟩
abbrev s_with_letters : Stmt := top 28
abbrev N_with_letters : List Str := ["group", "word", "many"]
abbrev P_with_letters : List Str := ["group", "word"]
theorem sc_with_letters : FnScope N_with_letters P_with_letters (defScope s_with_letters) := ⟨rfl, rfl, rfl, by decide +kernel, rfl, by decide +kernel, by decide +kernel⟩
abbrev s_place_of_meaning : Stmt := top 29
abbrev N_place_of_meaning : List Str := ["group", "first", "place", "one", "other"]
abbrev P_place_of_meaning : List Str := ["group"]
theorem sc_place_of_meaning : FnScope N_place_of_meaning P_place_of_meaning (defScope s_place_of_meaning) := ⟨rfl, rfl, rfl, by decide +kernel, rfl, by decide +kernel, by decide +kernel⟩
abbrev s_replaced : Stmt := top 30
abbrev N_replaced : List Str := ["back", "meaning", "word", "first", "letters", "letter"]
abbrev P_replaced : List Str := ["back", "meaning", "word"]
theorem sc_replaced : FnScope N_replaced P_replaced (defScope s_replaced) := ⟨rfl, rfl, rfl, by decide +kernel, rfl, by decide +kernel, by decide +kernel⟩
abbrev s_meaning_of_last : Stmt := top 31
abbrev N_meaning_of_last : List Str := ["group", "many", "place"]
abbrev P_meaning_of_last : List Str := ["group"]
theorem sc_meaning_of_last : FnScope N_meaning_of_last P_meaning_of_last (defScope s_meaning_of_last) := ⟨rfl, rfl, rfl, by decide +kernel, rfl, by decide +kernel, by decide +kernel⟩
abbrev s_without_letters : Stmt := top 32
abbrev N_without_letters : List Str := ["group", "place", "meaning", "rules", "one", "other", "rule", "side"]
abbrev P_without_letters : List Str := ["group"]
theorem sc_without_letters : FnScope N_without_letters P_without_letters (defScope s_without_letters) := ⟨rfl, rfl, rfl, by decide +kernel, rfl, by decide +kernel, by decide +kernel⟩
abbrev s_changed : Stmt := top 33
abbrev N_changed : List Str := ["group", "change", "kind"]
abbrev P_changed : List Str := ["group", "change"]
theorem sc_changed : FnScope N_changed P_changed (defScope s_changed) := ⟨rfl, rfl, rfl, by decide +kernel, rfl, by decide +kernel, by decide +kernel⟩
abbrev s_changed_word : Stmt := top 34
abbrev N_changed_word : List Str := ["group", "change", "word", "_", "meaning"]
abbrev P_changed_word : List Str := ["group", "change", "word"]
theorem sc_changed_word : FnScope N_changed_word P_changed_word (defScope s_changed_word) := ⟨rfl, rfl, rfl, by decide +kernel, rfl, by decide +kernel, by decide +kernel⟩
abbrev s_law_begun : Stmt := top 36
abbrev N_law_begun : List Str := ["script", "large", "grain"]
abbrev P_law_begun : List Str := ["script"]
theorem sc_law_begun : FnScope N_law_begun P_law_begun (defScope s_law_begun) := ⟨rfl, rfl, rfl, by decide +kernel, rfl, by decide +kernel, by decide +kernel⟩
abbrev s_law_mixed : Stmt := top 37
abbrev N_law_mixed : List Str := ["draw", "turn", "found", "great", "blend", "grain"]
abbrev P_law_mixed : List Str := ["draw"]
theorem sc_law_mixed : FnScope N_law_mixed P_law_mixed (defScope s_law_mixed) := ⟨rfl, rfl, rfl, by decide +kernel, rfl, by decide +kernel, by decide +kernel⟩
abbrev s_law_take : Stmt := top 38
abbrev N_law_take : List Str := ["draw", "amount", "found"]
abbrev P_law_take : List Str := ["draw", "amount"]
theorem sc_law_take : FnScope N_law_take P_law_take (defScope s_law_take) := ⟨rfl, rfl, rfl, by decide +kernel, rfl, by decide +kernel, by decide +kernel⟩
abbrev s_law_pick : Stmt := top 39
abbrev N_law_pick : List Str := ["draw", "some"]
abbrev P_law_pick : List Str := ["draw", "some"]
theorem sc_law_pick : FnScope N_law_pick P_law_pick (defScope s_law_pick) := ⟨rfl, rfl, rfl, by decide +kernel, rfl, by decide +kernel, by decide +kernel⟩
abbrev s_law_caught : Stmt := top 40
abbrev N_law_caught : List Str := ["work", "caught", "error"]
abbrev P_law_caught : List Str := ["work"]
theorem sc_law_caught : FnScope N_law_caught P_law_caught (defScope s_law_caught) := ⟨rfl, rfl, rfl, by decide +kernel, rfl, by decide +kernel, by decide +kernel⟩
abbrev s_law_word : Stmt := top 41
abbrev N_law_word : List Str := ["draw", "back_here", "most", "k"]
abbrev P_law_word : List Str := ["draw", "back_here", "most"]
theorem sc_law_word : FnScope N_law_word P_law_word (defScope s_law_word) := ⟨rfl, rfl, rfl, by decide +kernel, rfl, by decide +kernel, by decide +kernel⟩
abbrev s_law_undoing : Stmt := top 42
abbrev N_law_undoing : List Str := ["back_here", "word_here", "letter"]
abbrev P_law_undoing : List Str := ["back_here", "word_here"]
theorem sc_law_undoing : FnScope N_law_undoing P_law_undoing (defScope s_law_undoing) := ⟨rfl, rfl, rfl, by decide +kernel, rfl, by decide +kernel, by decide +kernel⟩
abbrev s_law_small_moves : Stmt := top 43
abbrev N_law_small_moves : List Str := ["back_here", "points_here", "every", "lap", "more", "line", "point", "found", "letter", "other", "chosen"]
abbrev P_law_small_moves : List Str := ["back_here", "points_here"]
theorem sc_law_small_moves : FnScope N_law_small_moves P_law_small_moves (defScope s_law_small_moves) := ⟨rfl, rfl, rfl, by decide +kernel, rfl, by decide +kernel, by decide +kernel⟩
abbrev s_law_moved_point : Stmt := top 44
abbrev N_law_moved_point : List Str := ["moves_here", "point", "word_here", "letter"]
abbrev P_law_moved_point : List Str := ["moves_here", "point", "word_here"]
theorem sc_law_moved_point : FnScope N_law_moved_point P_law_moved_point (defScope s_law_moved_point) := ⟨rfl, rfl, rfl, by decide +kernel, rfl, by decide +kernel, by decide +kernel⟩
abbrev s_law_alike_moves : Stmt := top 45
abbrev N_law_alike_moves : List Str := ["moves_here", "one", "other", "point"]
abbrev P_law_alike_moves : List Str := ["moves_here", "one", "other"]
theorem sc_law_alike_moves : FnScope N_law_alike_moves P_law_alike_moves (defScope s_law_alike_moves) := ⟨rfl, rfl, rfl, by decide +kernel, rfl, by decide +kernel, by decide +kernel⟩
abbrev s_law_keeps : Stmt := top 46
abbrev N_law_keeps : List Str := ["moves_here", "rules_here", "one", "other"]
abbrev P_law_keeps : List Str := ["moves_here", "rules_here"]
theorem sc_law_keeps : FnScope N_law_keeps P_law_keeps (defScope s_law_keeps) := ⟨rfl, rfl, rfl, by decide +kernel, rfl, by decide +kernel, by decide +kernel⟩
abbrev s_law_spelled : Stmt := top 47
abbrev N_law_spelled : List Str := ["word_here", "low", "told_here", "other_here", "found", "letter"]
abbrev P_law_spelled : List Str := ["word_here", "low", "told_here", "other_here"]
theorem sc_law_spelled : FnScope N_law_spelled P_law_spelled (defScope s_law_spelled) := ⟨rfl, rfl, rfl, by decide +kernel, rfl, by decide +kernel, by decide +kernel⟩
abbrev s_law_letter_rule : Stmt := top 48
abbrev N_law_letter_rule : List Str := ["back_here", "rules_here", "low", "place", "one", "other", "letter"]
abbrev P_law_letter_rule : List Str := ["back_here", "rules_here"]
theorem sc_law_letter_rule : FnScope N_law_letter_rule P_law_letter_rule (defScope s_law_letter_rule) := ⟨rfl, rfl, rfl, by decide +kernel, rfl, by decide +kernel, by decide +kernel⟩
abbrev s_law_changed : Stmt := top 49
abbrev N_law_changed : List Str := ["back_here", "rules_here", "change_here", "many", "kind_here", "letter", "place", "told_here", "left_here", "undo", "one", "other"]
abbrev P_law_changed : List Str := ["back_here", "rules_here", "change_here"]
theorem sc_law_changed : FnScope N_law_changed P_law_changed (defScope s_law_changed) := ⟨rfl, rfl, rfl, by decide +kernel, rfl, by decide +kernel, by decide +kernel⟩
abbrev s_law_carried : Stmt := top 50
abbrev N_law_carried : List Str := ["back_here", "rules_here", "change_here", "word_here", "told_here"]
abbrev P_law_carried : List Str := ["back_here", "rules_here", "change_here", "word_here"]
theorem sc_law_carried : FnScope N_law_carried P_law_carried (defScope s_law_carried) := ⟨rfl, rfl, rfl, by decide +kernel, rfl, by decide +kernel, by decide +kernel⟩
abbrev s_law_some_group : Stmt := top 51
abbrev N_law_some_group : List Str := ["draw", "back_here", "rules_here", "told_here", "k", "place"]
abbrev P_law_some_group : List Str := ["draw"]
theorem sc_law_some_group : FnScope N_law_some_group P_law_some_group (defScope s_law_some_group) := ⟨rfl, rfl, rfl, by decide +kernel, rfl, by decide +kernel, by decide +kernel⟩
abbrev s_law_some_change : Stmt := top 52
abbrev N_law_some_change : List Str := ["draw", "back_here", "rules_here", "choice", "wide"]
abbrev P_law_some_change : List Str := ["draw", "back_here", "rules_here"]
theorem sc_law_some_change : FnScope N_law_some_change P_law_some_change (defScope s_law_some_change) := ⟨rfl, rfl, rfl, by decide +kernel, rfl, by decide +kernel, by decide +kernel⟩
abbrev s_law_change_right : Stmt := top 53
abbrev N_law_change_right : List Str := ["back_here", "rules_here", "change_here", "words_here", "group_here", "due", "work", "caught", "word_here", "new", "item"]
abbrev P_law_change_right : List Str := ["back_here", "rules_here", "change_here", "words_here"]
theorem sc_law_change_right : FnScope N_law_change_right P_law_change_right (defScope s_law_change_right) := ⟨rfl, rfl, rfl, by decide +kernel, rfl, by decide +kernel, by decide +kernel⟩
abbrev s_law_kept_lists : Stmt := top 54
abbrev N_law_kept_lists : List Str := ["back_here", "rules_here", "item"]
abbrev P_law_kept_lists : List Str := ["back_here", "rules_here"]
theorem sc_law_kept_lists : FnScope N_law_kept_lists P_law_kept_lists (defScope s_law_kept_lists) := ⟨rfl, rfl, rfl, by decide +kernel, rfl, by decide +kernel, by decide +kernel⟩
abbrev s_law_full_group : Stmt := top 55
abbrev N_law_full_group : List Str := ["draw", "choice", "many", "back_here", "k", "more", "other"]
abbrev P_law_full_group : List Str := ["draw"]
theorem sc_law_full_group : FnScope N_law_full_group P_law_full_group (defScope s_law_full_group) := ⟨rfl, rfl, rfl, by decide +kernel, rfl, by decide +kernel, by decide +kernel⟩
abbrev s_law : Stmt := top 56
abbrev N_law : List Str := "script" :: "draw" :: "turn" :: "back_here" :: "rules_here" :: "change_here" :: "words_here" :: "k" :: "due" :: "some" :: "wrong" :: "item" :: "work" :: "caught" :: []
abbrev P_law : List Str := ["script"]
theorem sc_law : FnScope N_law P_law (defScope s_law) := ⟨rfl, rfl, rfl, by decide +kernel, rfl, by decide +kernel, by decide +kernel⟩
abbrev s_Groupinit : Stmt := clsM (top 22) 0
abbrev N_Groupinit : List Str := ["self", "back", "rules"]
abbrev P_Groupinit : List Str := ["self", "back", "rules"]
theorem sc_Groupinit : FnScope N_Groupinit P_Groupinit (defScope s_Groupinit) := ⟨rfl, rfl, rfl, by decide +kernel, rfl, by decide +kernel, by decide +kernel⟩
abbrev s_Groupeq : Stmt := clsM (top 22) 1
abbrev N_Groupeq : List Str := ["self", "other"]
abbrev P_Groupeq : List Str := ["self", "other"]
theorem sc_Groupeq : FnScope N_Groupeq P_Groupeq (defScope s_Groupeq) := ⟨rfl, rfl, rfl, by decide +kernel, rfl, by decide +kernel, by decide +kernel⟩

section
variable {P : Program} {w : World} {K : PySem.W.Frag} {mg : Str → Option Value} {base : Heap} {f : Addr} {fd : FuncData}

def R_is_number : List PyData → PyData → Prop := fun ds d => ∃ x, ds = [x] ∧ d = .bool (isNum x)
theorem ok_is_number (D : DefAt K mg "is_number" s_is_number P_is_number f fd) (T : Bt mg) : Ok P w K mg base "is_number" P_is_number 1 (SpD K R_is_number) := by
  refine D.ok (okD D.F sc_is_number (fun ds d h => ?_) fun cdv A outer s H hr => ?_)
  · obtain ⟨x, rfl, _⟩ := h; rfl
  have S := sc_is_number
  refine ⟨_, (pss_one (ps_ret (pe_and (pe_callB (q_isi K rfl) (by rfl) T.isinstance (by decide +kernel) (pa_cons (pv 0) (pa_cons (pe_bltn (v := .ty "int") (by rfl) T.int (by decide +kernel) rfl) pa_nil))) (pe_one (pe_not (pe_callB (q_isi K rfl) (by rfl) T.isinstance (by decide +kernel) (pa_cons (pv 0) (pa_cons (pe_bltn (v := .ty "bool") (by rfl) T.bool (by decide +kernel) rfl) pa_nil)))))))), fun G ds d vs hR ha H0 hs D' q _ => ?_⟩
  obtain ⟨x, rfl, rfl⟩ := hR
  obtain _ | ⟨hv, _ | _⟩ := ha
  refine (RtD.cast (rd_ret (ed_and (ed_isi (ed_var (i := 0) rfl hv) (kit_int x)) fun hb => ed_not (ed_isi (ed_var (i := 0) rfl hv) (kit_bool x)))) ?_) H0 hs D' q
  cases x <;> rfl

def R_is_number_in : List PyData → PyData → Prop := fun ds d => ∃ x lo hi, ds = [x, .int lo, .int hi] ∧ d = .bool (inR lo hi x)
theorem ok_is_number_in (D : DefAt K mg "is_number_in" s_is_number_in P_is_number_in f fd) (T : Bt mg) (h_is_number : Ok P w K mg base "is_number" P_is_number 1 (SpD K R_is_number)) :
    Ok P w K mg base "is_number_in" P_is_number_in 2 (SpD K R_is_number_in) := by
  refine D.ok (okD D.F sc_is_number_in (fun ds d h => ?_) fun cdv A outer s H hr => ?_)
  · obtain ⟨x, lo, hi, rfl, _⟩ := h; rfl
  have S := sc_is_number_in
  refine ⟨_, (pss_one (ps_ret (pe_and (pe_ok h_is_number (hr.mono (by decide)) (by rfl) (pa_cons (pv 0) pa_nil)) (pe_one (pe_chain op_le op_le (pv 1) (pv 0) (pv 2)))))), fun G ds d vs hR ha H0 hs D' q _ => ?_⟩
  obtain ⟨x, lo, hi, rfl, rfl⟩ := hR
  obtain _ | ⟨hv, _ | ⟨hl, _ | ⟨hh, _ | _⟩⟩⟩ := ha
  cases x with
  | int i => exact (RtD.cast (rd_ret (ed_and (ed_call (R := R_is_number) (E := E0) (ea_cons (ed_var (i := 0) rfl hv) ea_nil) ⟨_, rfl, rfl⟩) fun _ => ed_chain (ed_var (i := 1) rfl hl) (ed_var (i := 0) rfl hv) ro_b (fun _ => ed_var (i := 2) rfl hh) (fun _ => ro_b))) (by rfl)) H0 hs D' q
  | _ => exact (RtD.cast (rd_ret (ed_and (b := false) (ed_call (R := R_is_number) (E := E0) (ea_cons (ed_var (i := 0) rfl hv) ea_nil) ⟨_, rfl, rfl⟩) fun z => nomatch z)) (by rfl)) H0 hs D' q

def R_is_row : List PyData → PyData → Prop := fun ds d => ∃ n x, ds = [.int n, x] ∧ Sized x ∧ d = .bool (isRow n x)
theorem ok_is_row (D : DefAt K mg "is_row" s_is_row P_is_row f fd) (T : Bt mg) (h_is_number_in : Ok P w K mg base "is_number_in" P_is_number_in 2 (SpD K R_is_number_in)) :
    Ok P w K mg base "is_row" P_is_row 3 (SpD K R_is_row) := by
  refine D.ok (okD D.F sc_is_row (fun ds d h => ?_) fun cdv A outer s H hr => ?_)
  · obtain ⟨n, x, rfl, _⟩ := h; rfl
  have S := sc_is_row
  refine ⟨_, (pss_one (ps_ret (pe_and (pe_callB (q_isi K rfl) (by rfl) T.isinstance (by decide +kernel) (pa_cons (pv 1) (pa_cons (pe_bltn (v := .ty "tuple") (by rfl) T.tuple (by decide +kernel) rfl) pa_nil))) (pe_one (pe_callB (q_all K rfl rfl) (by rfl) T.all (by decide +kernel) (pa_cons (pe_lc (own := [("x", 2)]) (g := gName 2) (by rfl) S.nd  (q_iT K rfl (pv 1)) (blkOk_by (N := N_is_row) (sc := defScope s_is_row) (by decide +kernel)) (fun _ _ _ _ _ => (pg_name (i := 2) S.nd rfl (by first | exact .inl rfl | exact .inr rfl))) (fun _ _ _ _ _ => pts_nil) (fun _ _ _ _ _ => (pe_ok h_is_number_in (hr.mono (by decide)) (by rfl) (pa_cons (pv 2) (pa_cons pe_int (pa_cons (pe_op op_sub (pv 0) pe_int) pa_nil)))))) pa_nil)))))), fun G ds d vs hR ha H0 hs D' q _ => ?_⟩
  obtain ⟨n, x, rfl, hz, rfl⟩ := hR
  obtain _ | ⟨hn, _ | ⟨hx, _ | _⟩⟩ := ha
  cases x with
  | tuple xs =>
    refine (RtD.cast (rd_ret (ed_and (b := xs.all (inR 0 (n - 1))) (ed_isi (ed_var (i := 1) rfl hx) (kit_tup _)) fun _ => ?_)) (by rfl)) H0 hs D' q
    refine EvD.cast (ed_cb (ea_cons (EvN.toD (en_lcT1 (fun d => .bool (inR 0 (n - 1) d)) (ed_var (i := 1) rfl hx) (fun _ => rfl) hz fun d v Gi _ g hd => ?_)) ea_nil) (z := .bool ((xs.map (inR 0 (n - 1))).all id)) ?_) ?_
    · exact ed_call (ea_cons (ed_var (i := 2) rfl hd) (ea_cons ed_int (ea_cons (ed_op (ed_var (i := 0) rfl (dp_mono g _ hn)) ed_int ro_i) ea_nil))) ⟨d, 0, n - 1, rfl, rfl⟩
    · have h := rcl_all (K := K) (bs := xs.map (inR 0 (n - 1)))
      rw [List.map_map] at h
      exact h
    · rw [List.all_map]; rfl
  | _ => exact (RtD.cast (rd_ret (ed_and (b := false) (ed_isi (ed_var (i := 1) rfl hx) (kit_tup _)) fun z => nomatch z)) (by rfl)) H0 hs D' q

def R_is_short_row : List PyData → PyData → Prop := fun ds d => ∃ n x m, ds = [.int n, x, .int m] ∧ Sized x ∧ d = .bool (isShort n m x)
theorem ok_is_short_row (D : DefAt K mg "is_short_row" s_is_short_row P_is_short_row f fd) (T : Bt mg) (h_is_row : Ok P w K mg base "is_row" P_is_row 3 (SpD K R_is_row)) :
    Ok P w K mg base "is_short_row" P_is_short_row 4 (SpD K R_is_short_row) := by
  refine D.ok (okD D.F sc_is_short_row (fun ds d h => ?_) fun cdv A outer s H hr => ?_)
  · obtain ⟨n, x, m, rfl, _⟩ := h; rfl
  have S := sc_is_short_row
  refine ⟨_, (pss_one (ps_ret (pe_and (pe_callB (q_isi K rfl) (by rfl) T.isinstance (by decide +kernel) (pa_cons (pv 1) (pa_cons (pe_bltn (v := .ty "tuple") (by rfl) T.tuple (by decide +kernel) rfl) pa_nil))) (pe_and (pe_cmpR op_le (pe_callB (q_len K rfl) (by rfl) T.len PySem.boot_len (pa_cons (pv 1) pa_nil)) (pv 2) (nomark _)) (pe_one (pe_ok h_is_row (hr.mono (by decide)) (by rfl) (pa_cons (pv 0) (pa_cons (pv 1) pa_nil)))))))), fun G ds d vs hR ha H0 hs D' q _ => ?_⟩
  obtain ⟨n, x, m, rfl, hz, rfl⟩ := hR
  obtain _ | ⟨hn, _ | ⟨hx, _ | ⟨hm, _ | _⟩⟩⟩ := ha
  cases x with
  | tuple xs =>
    refine (RtD.cast (rd_ret (ed_and (b := decide ((xs.length : Int) ≤ m) && xs.all (inR 0 (n - 1))) (ed_isi (ed_var (i := 1) rfl hx) (kit_tup _)) fun _ => ?_)) (by rfl)) H0 hs D' q
    exact ed_and (ed_op (ed_cb (ea_cons (ed_var (i := 1) rfl hx) ea_nil) rcl_len) (ed_var (i := 2) rfl hm) ro_b) fun _ => ed_call (ea_cons (ed_var (i := 0) rfl hn) (ea_cons (ed_var (i := 1) rfl hx) ea_nil)) ⟨n, .tuple xs, rfl, hz, rfl⟩
  | _ => exact (RtD.cast (rd_ret (ed_and (b := false) (ed_isi (ed_var (i := 1) rfl hx) (kit_tup _)) fun z => nomatch z)) (by rfl)) H0 hs D' q
end
end Gw
namespace Gw
open PySem PySem.Spec PyProof.Rows L2
section
variable {P : Program} {w : World} {K : PySem.W.Frag} {mg : Str → Option Value} {base : Heap} {f : Addr} {fd : FuncData}
/-- a def whose body is told by its reading -/
theorem ok_law_mixed (D : DefAt K mg "_law_mixed" s_law_mixed P_law_mixed f fd) (T : Bt mg) : Ok P w K mg base "_law_mixed" P_law_mixed 1 spMixed := by
  refine D.ok (D.F.ok sc_law_mixed (fun vs H Q E h => ?_) fun cdv A outer s H vs Q E hr h => ?_)
  · obtain ⟨d, l, c, rfl, _⟩ := h; rfl
  have S := sc_law_mixed
  obtain ⟨d, l, c, rfl, Dw, q⟩ := h
  refine ⟨_, (pss_cons (ps_dput (hu_of hr) (pv 0) pe_str (pe_op op_add (pe_dget (hu_of hr) (pv 0) pe_str (fun _ _ => rfl)) pe_int) rfl)
  (pss_cons (ps_par (i := 1) (j := 2) rfl S.nd rfl rfl (by decide) rfl rfl (pa_cons (pe_callTy call_int1 (by rfl) T.int (by decide +kernel) (pa_cons (pe_dget (hu_of hr) (pv 0) pe_str (fun _ _ => rfl)) pa_nil)) (pa_cons pe_int pa_nil)) (by rfl))
  (pss_cons (ps_for PassesOwn.never rfl (q_iL K rfl (pe_lst (pa_cons pe_int (pa_cons pe_int (pa_cons pe_int pa_nil))))) (pg_name (i := 3) S.nd rfl (by first | exact .inl rfl | exact .inr rfl)) (pss_cons (ps_set (i := 4) S.nd rfl (by first | exact .inl rfl | exact .inr rfl) (pe_op op_modN (pe_op op_add (pe_op op_mul (pv 1) pe_int) (pe_op op_fdivN (pv 3) pe_int)) (pv 3)))
  (pss_cons (ps_for PassesOwn.never rfl (q_iL K rfl (pe_dget (hu_of hr) (pv 0) pe_str (fun _ _ => rfl))) (pg_name (i := 5) S.nd rfl (by first | exact .inl rfl | exact .inr rfl)) (pss_one (ps_set (i := 4) S.nd rfl (by first | exact .inl rfl | exact .inr rfl) (pe_op op_modN (pe_op op_add (pe_op op_mul (pv 4) pe_int) (pe_callTy call_int1 (by rfl) T.int (by decide +kernel) (pa_cons (pv 5) pa_nil))) (pv 3)))))
  (pss_one (ps_set (i := 2) S.nd rfl (by first | exact .inl rfl | exact .inr rfl) (pe_op op_add (pe_op op_mul (pv 2) pe_int) (pe_op op_modN (pe_op op_pow (pv 4) pe_int) (pv 3))))))))
  (pss_one (ps_ret (pv 2)))))), ?_⟩
  obtain ⟨r, t, ls, cs, h1, h2, h3, h4, h5⟩ := Dw.at'
  obtain ⟨ndl, ndc⟩ := Dw.dl
  refine ⟨_, rfl, d, _, rfl, gD_turn h1, t, 1, rfl, rfl, _, rfl, d, _, rfl, uD_turn h1, ?_⟩
  have e1 : upd H d (.dK (kvD l c r (t + 1))) d = some (.dK (kvD l c r (t + 1))) := upd_same
  refine ⟨_, rfl, d, _, rfl, gD_turn e1, .inl ⟨_, rfl, _, _, rfl, ?_⟩⟩
  refine ⟨by show 3 ≤ sizeLine; decide, fun p hp => ?_⟩
  have hpd : d ≠ p := ne_of_none e1 hp
  have hpc : c ≠ p := ne_of_none (o := .lst (cs.map V.int)) (by rw [upd_ne (Ne.symm ndc)]; exact h3) hp
  have hpl : l ≠ p := ne_of_none (o := .lst (ls.map V.int)) (by rw [upd_ne (Ne.symm ndl)]; exact h2) hp
  generalize hH1 : upd (upd H d (.dK (kvD l c r (t + 1)))) p (.lst [.int 2147483629, .int 2147483587, .int 2147483579]) = H1
  have g1 : H1 d = some (.dK (kvD l c r (t + 1))) := by rw [← hH1, upd_ne hpd]; exact e1
  have g3 : H1 c = some (.lst (cs.map V.int)) := by rw [← hH1, upd_ne hpc, upd_ne (Ne.symm ndc)]; exact h3
  have g2 : H1 l = some (.lst (ls.map V.int)) := by rw [← hH1, upd_ne hpl, upd_ne (Ne.symm ndl)]; exact h2
  have gp : H1 p = some (.lst [.int 2147483629, .int 2147483587, .int 2147483579]) := by rw [← hH1]; exact upd_same
  refine ⟨p, rfl, ⟨_, SqL.of gp⟩, for_list (K := K) (a := p) (xs := [.int 2147483629, .int 2147483587, .int 2147483579]) (fun i σ Hc => H1 = Hc ∧ ∃ fo x3 x4 x5, σ = [some (.ref d), some (.int (t + 1)), some (.int fo), x3, x4, x5]) ⟨rfl, 0, none, none, none, rfl⟩ (fun i σ Hc _ hp => hp.1 ▸ SqL.of gp) ?_ ?_⟩
  · rintro i x σ Hc hi ⟨rfl, fo, x3, x4, x5, rfl⟩
    obtain ⟨g, rfl, hg0, hg1⟩ : ∃ g : Int, x = .int g ∧ 0 < g ∧ g < 2 ^ 32 := by
      have hm := List.mem_of_getElem? hi
      rcases List.mem_cons.mp hm with rfl | hm
      · exact ⟨_, rfl, by decide, by decide⟩
      rcases List.mem_cons.mp hm with rfl | hm
      · exact ⟨_, rfl, by decide, by decide⟩
      rw [List.mem_singleton.mp hm]
      exact ⟨_, rfl, by decide, by decide⟩
    refine ⟨_, rfl, _, _, rfl, rfl, .inr ⟨by decide, by decide⟩, _, rfl, _, _, rfl, rfl, ⟨by decide, by decide⟩, _, _, rfl, rfl, _, rfl, _, _, rfl, rfl, by omega, ?_⟩
    refine ⟨_, rfl, d, _, rfl, gD_cells g1, c, rfl, ⟨_, SqL.of g3⟩, for_list (K := K) (a := c) (xs := cs.map V.int) (fun j σ Hc => H1 = Hc ∧ ∃ (b : Int) (y5 : Option V), 0 ≤ b ∧ b < g ∧ σ = [some (.ref d), some (.int (t + 1)), some (.int fo), some (.int g), some (.int b), y5]) ⟨rfl, _, x5, (fmod_in hg0).1, (fmod_in hg0).2, rfl⟩ (fun j σ Hc _ hp => hp.1 ▸ SqL.of g3) ?_ ?_⟩
    · rintro j x σ Hc hj ⟨rfl, b, y5, hb0, hb1, rfl⟩
      obtain ⟨n, rfl⟩ : ∃ n, x = .int n := by
        rw [List.getElem?_map] at hj
        cases e : cs[j]? with
        | none => rw [e] at hj; cases hj
        | some n => rw [e] at hj; exact ⟨n, (Option.some.inj hj).symm⟩
      exact ⟨_, rfl, _, _, rfl, rfl, .inr ⟨by decide, by decide⟩, _, rfl, .inl ⟨_, rfl, _, _, rfl, rfl, _, rfl, _, _, rfl, rfl, by omega, rfl, _, _, (fmod_in hg0).1, (fmod_in hg0).2, rfl⟩⟩
    · rintro σ Hc ⟨rfl, b, y5, hb0, hb1, rfl⟩
      refine ⟨_, rfl, _, _, rfl, rfl, .inr ⟨by decide, by decide⟩, _, rfl, _, _, rfl, rfl, ⟨by decide, by decide, by omega⟩, _, rfl, _, _, rfl, rfl, by omega, _, _, rfl, rfl, rfl, _, _, _, _, rfl⟩
  · rintro σ Hc ⟨rfl, fo, x3, x4, x5, rfl⟩
    refine ⟨_, rfl, q _ _ ⟨fun a o n1 n2 e => ?_⟩ ⟨Dw.ne, r, t + 1, ls, cs, g1, g2, g3, h4, h5⟩⟩
    have hap : a ≠ p := ne_of_none (o := o) (by rw [upd_ne n1]; exact e) hp
    rw [← hH1, upd_ne hap, upd_ne n1]
    exact e

theorem ok_law_take (D : DefAt K mg "_law_take" s_law_take P_law_take f fd) (T : Bt mg) (h__law_mixed : Ok P w K mg base "_law_mixed" P_law_mixed 1 spMixed) : Ok P w K mg base "_law_take" P_law_take 2 spTake := by
  refine D.ok (D.F.ok sc_law_take (fun vs H Q E h => ?_) fun cdv A outer s H vs Q E hr h => ?_)
  · obtain ⟨d, l, c, n, rfl, _⟩ := h; rfl
  have S := sc_law_take
  obtain ⟨d, l, c, n, rfl, Dw, hn0, hn1, q⟩ := h
  refine ⟨_, (pss_cons (ps_if (pt_cmpR op_eq (pe_dget (hu_of hr) (pv 0) pe_str (fun _ _ => rfl)) pe_int (nomark _)) (pss_one (ps_dput (hu_of hr) (pv 0) pe_str (pe_ifExp (pt_cmpR (q_neD K rfl hr.units) (pe_dget (hu_of hr) (pv 0) pe_str (fun _ _ => rfl)) (pe_lst pa_nil) (nomark _)) (pe_bm PySem.F.plainAttrs_list PySem.F.slot_list_pop PySem.F.type_list_pop mt_popAt (pe_dget (hu_of hr) (pv 0) pe_str (fun _ _ => rfl)) (pa_cons pe_int pa_nil)) (pe_ok h__law_mixed (hr.mono (by decide)) (by rfl) (pa_cons (pv 0) pa_nil))) rfl)) pss_nil)
  (pss_cons (ps_set (i := 2) S.nd rfl (by first | exact .inl rfl | exact .inr rfl) (pe_op op_modN (pe_callTy call_int1 (by rfl) T.int (by decide +kernel) (pa_cons (pe_dget (hu_of hr) (pv 0) pe_str (fun _ _ => rfl)) pa_nil)) (pv 1)))
  (pss_cons (ps_dput (hu_of hr) (pv 0) pe_str (pe_op op_fdivN (pe_callTy call_int1 (by rfl) T.int (by decide +kernel) (pa_cons (pe_dget (hu_of hr) (pv 0) pe_str (fun _ _ => rfl)) pa_nil)) (pv 1)) rfl)
  (pss_one (ps_ret (pv 2)))))), ?_⟩
  refine seq_cut (fun σ' H' => σ' = [some (.ref d), some (.int n), none] ∧ Nd d l H H' ∧ Drw H' d l c) ?_ (fun fin => ?_)
  · rintro σ H2 ⟨rfl, n2, D2⟩
    obtain ⟨r, t, ls, cs, h1, h2, h3, h4, h5⟩ := D2.at'
    obtain ⟨ndl, ndc⟩ := D2.dl
    refine ⟨_, rfl, d, _, rfl, gD_rest h1, .inl ⟨_, rfl, _, rfl, _, _, rfl, rfl, by omega, ?_⟩⟩
    refine ⟨_, rfl, d, _, rfl, gD_rest h1, .inl ⟨_, rfl, _, rfl, _, _, rfl, rfl, ⟨by omega, by omega⟩, ?_⟩⟩
    refine ⟨_, rfl, d, _, rfl, uD_rest h1, _, rfl, ?_⟩
    refine q _ _ (fmod_in hn0).1 (fmod_in hn0).2 (n2.trans Nd.updD) ⟨D2.ne, _, t, ls, cs, upd_same, ?_, ?_, h4, h5⟩
    · rw [upd_ne (Ne.symm ndl)]; exact h2
    · rw [upd_ne (Ne.symm ndc)]; exact h3
  · obtain ⟨r, t, ls, cs, h1, h2, h3, h4, h5⟩ := Dw.at'
    obtain ⟨ndl, ndc⟩ := Dw.dl
    refine ⟨_, rfl, d, _, rfl, gD_rest h1, rfl, _, rfl, ite2 (fun _ => ?_) (fun _ => ?_)⟩
    · -- the large ones first
      refine ⟨_, rfl, d, _, rfl, gD_large h1, Nat.zero_le _, fun p hp => ?_⟩
      have hpl : l ≠ p := ne_of_none h2 hp
      have hpd : d ≠ p := ne_of_none h1 hp
      have hpc : c ≠ p := ne_of_none h3 hp
      have k2 : upd H p (.lst []) l = some (.lst (ls.map V.int)) := by rw [upd_ne hpl]; exact h2
      have kd : upd H p (.lst []) d = some (.dK (kvD l c r t)) := by rw [upd_ne hpd]; exact h1
      have kc : upd H p (.lst []) c = some (.lst (cs.map V.int)) := by rw [upd_ne hpc]; exact h3
      have nd0 : Nd d l H (upd H p (.lst [])) := ⟨fun a o _ _ e => by rw [upd_ne (ne_of_none e hp)]; exact e⟩
      refine ⟨.list (ls.map .int), .list [], .lst (SqL.of k2) (dpa_ints ls), .lst (SqL.of upd_same) .nil, ?_, by decide, ?_⟩
      · have e1 : ∀ zs : List Int, PyData.canLayAll0 (zs.map .int) = true := fun zs => by
          induction zs with
          | nil => rfl
          | cons z zs ih => rw [List.map_cons, PyData.canLayAll0, ih]; rfl
        have e2 : ∀ zs : List Int, PyData.depthAll (zs.map .int) = 0 := fun zs => by
          induction zs with
          | nil => rfl
          | cons z zs ih => rw [List.map_cons, PyData.depthAll, ih]; rfl
        unfold SeqAt.shaped
        rw [Bool.and_eq_true]
        refine ⟨?_, decide_eq_true ?_⟩
        · rw [PyData.canLay0]; exact e1 ls
        · rw [PyData.depth, e2 ls]; decide
      refine ⟨_, rfl, ?_⟩
      cases ls with
      | nil =>
        refine iteF ?_
        exact ⟨_, rfl, d, l, c, rfl, ⟨Dw.ne, r, t, [], cs, kd, k2, kc, h4, h5⟩, fun i H3 n3 D3 => by
          obtain ⟨r3, t3, ls3, cs3, g1, g2, g3, g4, g5⟩ := D3.at'
          obtain ⟨m1, m2⟩ := D3.dl
          exact ⟨_, rfl, d, _, rfl, uD_rest g1, fin _ _ ⟨rfl, (nd0.trans n3).trans Nd.updD, D3.ne, _, t3, ls3, cs3, upd_same, by rw [upd_ne (Ne.symm m1)]; exact g2, by rw [upd_ne (Ne.symm m2)]; exact g3, g4, g5⟩⟩⟩
      | cons z zs =>
        refine iteT ?_
        refine ⟨_, rfl, d, _, rfl, gD_large kd, .inl ⟨rfl, _, SqL.of k2⟩, l, _, 0, 0, V.int z, rfl, rfl, k2, by decide, by decide, ?_, rfl, ?_⟩
        · exact seqIx (k := 0) (by rw [List.map_cons, List.length_cons]; omega)
        have k4 : upd (upd H p (.lst [])) l (.lst (zs.map V.int)) d = some (.dK (kvD l c r t)) := by rw [upd_ne ndl]; exact kd
        refine ⟨_, rfl, d, _, rfl, uD_rest k4, fin _ _ ⟨rfl, (nd0.trans Nd.updL).trans Nd.updD, Dw.ne, _, t, zs, cs, upd_same, ?_, ?_, ?_, h5⟩⟩
        · rw [upd_ne (Ne.symm ndl)]; exact upd_same
        · rw [upd_ne (Ne.symm ndc), upd_ne (Ne.symm Dw.ne)]; exact kc
        · rw [List.length_cons] at h4; omega
    · exact fin _ _ ⟨rfl, Nd.refl, Dw⟩
theorem ok_law_pick (D : DefAt K mg "_law_pick" s_law_pick P_law_pick f fd) (T : Bt mg) (h__law_take : Ok P w K mg base "_law_take" P_law_take 2 spTake) : Ok P w K mg base "_law_pick" P_law_pick 3 (spPick K) := by
  refine D.ok (D.F.ok sc_law_pick (fun vs H Q E h => ?_) fun cdv A outer s H vs Q E hr h => ?_)
  · obtain ⟨d, l, c, a, xs, rfl, _⟩ := h; rfl
  have S := sc_law_pick
  obtain ⟨d, l, c, a, xs, rfl, Dw, hal, hS, hx0, hx1, q⟩ := h
  refine ⟨_, (pss_one (ps_ret (pe_ix (q_ixL K rfl) (pv 1) (pe_ok h__law_take (hr.mono (by decide)) (by rfl) (pa_cons (pv 0) (pa_cons (pe_callB (q_len K rfl) (by rfl) T.len PySem.boot_len (pa_cons (pv 1) pa_nil)) pa_nil))) (fun _ _ => rfl)))), ?_⟩
  refine ⟨_, rfl, _, rfl, _, rfl, a, xs, rfl, .inl hS, d, l, c, (xs.length : Int), rfl, Dw, by omega, by omega, fun k H2 hk0 hk1 n2 D2 => ?_⟩
  obtain ⟨j, rfl⟩ : ∃ j : Nat, k = (j : Int) := ⟨k.toNat, by omega⟩
  have hj : j < xs.length := by omega
  have hS2 : SqL K H2 a xs := by
    obtain ⟨r, t, ls, cs, h1, h2, h3, h4, h5⟩ := Dw.at'
    rcases hS with (e | ⟨o, e⟩) | e
    · exact SqL.of (n2.hh a _ (ne_of e h1 (fun z => nomatch z)) hal e)
    · exact .inl (.inr ⟨o, n2.hh a _ (ne_of e h1 (fun z => nomatch z)) hal e⟩)
    · exact .inr e
  exact ⟨a, xs, (j : Int), xs[j], rfl, rfl, hS2, atI_nat (List.getElem?_eq_getElem hj), q _ _ (List.getElem_mem hj) n2 D2⟩
end
end Gw
namespace Gw
open PySem PySem.Spec PyProof.Rows L2
section
variable {P : Program} {w : World} {K : PySem.W.Frag} {mg : Str → Option Value} {base : Heap} {f : Addr} {fd : FuncData}
theorem ok_law_begun (D : DefAt K mg "_law_begun" s_law_begun P_law_begun f fd) (T : Bt mg) : Ok P w K mg base "_law_begun" P_law_begun 1 (spBegun K) := by
  refine D.ok (D.F.ok sc_law_begun (fun vs H Q E h => ?_) fun cdv A outer s H vs Q E hr h => ?_)
  · obtain ⟨a, ns, rfl, _⟩ := h; rfl
  have S := sc_law_begun
  obtain ⟨a, ns, rfl, hS, h63, q⟩ := h
  refine ⟨_, (pss_cons (ps_setLc (i := 1) (own := [("grain", 2)]) (g := gName 2) (by rfl) S.nd rfl rfl (sw_true rfl rfl rfl (by decide +kernel)) (q_iL K rfl (pv 0)) (blkOk_by (N := N_law_begun) (sc := defScope s_law_begun) (by decide +kernel)) (fun _ _ _ _ _ => (pg_name (i := 2) S.nd rfl (by first | exact .inl rfl | exact .inr rfl))) (fun _ _ _ _ _ => (pts_one (pt_cmpR op_ge (pe_callB call_abs (by rfl) T.abs (by decide +kernel) (pa_cons (pv 2) pa_nil)) (pe_op op_pow pe_int pe_int) (nomark _)))) (fun _ _ _ _ _ => (pe_op op_sub (pe_callB call_abs (by rfl) T.abs (by decide +kernel) (pa_cons (pv 2) pa_nil)) (pe_op op_pow pe_int pe_int))))
  (pss_one (ps_ret (pe_disp (pps_cons pe_str (pv 1) (pps_cons pe_str pe_int (pps_cons pe_str (pe_lc (own := [("grain", 2)]) (g := gName 2) (by rfl) S.nd  (q_iL K rfl (pv 0)) (blkOk_by (N := N_law_begun) (sc := defScope s_law_begun) (by decide +kernel)) (fun _ _ _ _ _ => (pg_name (i := 2) S.nd rfl (by first | exact .inl rfl | exact .inr rfl))) (fun _ _ _ _ _ => pts_nil) (fun _ _ _ _ _ => (pe_callB call_abs (by rfl) T.abs (by decide +kernel) (pa_cons (pv 2) pa_nil)))) (pps_cons pe_str pe_int pps_nil)))) (by rfl) (by rfl) (fun z => by cases z) (by decide))))), ?_⟩
  have hin : ∀ {G : Hp}, Same H G → Dp K G (.ref a) (.list (ns.map .int)) := fun s => .lst (s.seq hS) (dpa_ints ns)
  have hz : (ns.map PyData.int).length ≤ sizeLine := by rw [List.length_map]; exact Nat.le_trans h63 (by decide)
  -- the large ones
  refine seq_asg ?_
  refine (en_lcL (K := K) (σ := L2.start N_law_begun [.ref a]) (vs := [2]) (i := 2) (G := H) (fun d => match d with | .int i => if (10 : Int) ^ 18 ≤ ((i.natAbs : Nat) : Int) then some (.int (((i.natAbs : Nat) : Int) - 10 ^ 18)) else none | _ => none) (ed_var (i := 0) rfl (hin (Same.refl H))) (fun _ => rfl) hz ?_ ?_) H (Same.refl H) _ ?_
  · intro d v Gi hm g hd
    obtain ⟨i, _, rfl⟩ := List.mem_map.mp hm
    refine EvB.cast (eb_test (ed_op (z := .bool (decide ((10 : Int) ^ 18 ≤ ((i.natAbs : Nat) : Int)))) (ed_cb (z := .int ((i.natAbs : Nat) : Int)) (ea_cons (ed_var (i := 2) rfl hd) ea_nil) ?_) (ed_op ed_int ed_int (ro_ic (f := fun i j => i ^ j.toNat) (C := CPow) ⟨by decide, by decide, by decide⟩)) (ro_b (f := fun i j => decide (j ≤ i))))) ?_
    · intro G H s vs hv Q q
      obtain _ | ⟨h1, _ | _⟩ := hv
      refine ⟨i, by rw [dp_int h1], ?_⟩
      rw [abs_if]
      exact q _ G H (Nx.refl s) (.int _)
    · dsimp only
      by_cases hc : (10 : Int) ^ 18 ≤ ((i.natAbs : Nat) : Int)
      · rw [if_pos hc, decide_eq_true hc]; rfl
      · rw [if_neg hc, decide_eq_false hc]; rfl
  · intro d v e Gi hm he g hd
    obtain ⟨i, _, rfl⟩ := List.mem_map.mp hm
    dsimp only at he
    by_cases hc : (10 : Int) ^ 18 ≤ ((i.natAbs : Nat) : Int)
    · rw [if_pos hc] at he
      cases he
      refine ed_op (ed_cb (z := .int ((i.natAbs : Nat) : Int)) (ea_cons (ed_var (i := 2) rfl hd) ea_nil) ?_) (ed_op ed_int ed_int (ro_ic (f := fun i j => i ^ j.toNat) (C := CPow) ⟨by decide, by decide, by decide⟩)) (ro_i (f := fun i j => i - j))
      intro G H s vs hv Q q
      obtain _ | ⟨h1, _ | _⟩ := hv
      refine ⟨i, by rw [dp_int h1], ?_⟩
      rw [abs_if]
      exact q _ G H (Nx.refl s) (.int _)
    · rw [if_neg hc] at he
      cases he
  intro p vs G1 H1 n1 hp gp e1 ha
  obtain ⟨ls, rfl, hls⟩ : ∃ ls : List Int, vs = ls.map V.int ∧ ls.length ≤ 63 := by
    have hlen := dpa_length ha
    have hle : vs.length ≤ 63 := by
      rw [hlen]
      exact Nat.le_trans (List.length_filterMap_le _ _) (by rw [List.length_map]; exact h63)
    have : ∀ (ds : List PyData) (vs : List V), DpAll K G1 vs ds → (∀ d ∈ ds, ∃ i, d = .int i) → ∃ ls : List Int, vs = ls.map V.int := by
      intro ds
      induction ds with
      | nil => intro vs h _; cases h; exact ⟨[], rfl⟩
      | cons d ds ih =>
        intro vs h hd
        obtain _ | ⟨h1, h2⟩ := h
        obtain ⟨i, rfl⟩ := hd d List.mem_cons_self
        obtain ⟨ls, rfl⟩ := ih _ h2 fun d hm => hd d (List.mem_cons_of_mem _ hm)
        exact ⟨i :: ls, by rw [dp_int h1]; rfl⟩
    obtain ⟨ls, e⟩ := this _ _ ha fun d hm => by
      obtain ⟨x, hx, he⟩ := List.mem_filterMap.mp hm
      obtain ⟨i, _, rfl⟩ := List.mem_map.mp hx
      dsimp only at he
      by_cases hc : (10 : Int) ^ 18 ≤ ((i.natAbs : Nat) : Int)
      · rw [if_pos hc] at he; cases he; exact ⟨_, rfl⟩
      · rw [if_neg hc] at he; cases he
    refine ⟨ls, e, ?_⟩
    rw [e, List.length_map] at hle
    exact hle
  -- the dict
  intro d hd
  have hpd : p ≠ d := ne_of_none e1 hd
  have s2 : Same H1 (upd H1 d (.dK [])) := fun b o e => by rw [upd_ne (ne_of_none e hd)]; exact e
  refine tp_c ⟨_, rfl, tp_cc (tp_c ?_)⟩
  refine (en_lcL1 (K := K) (σ := [some (.ref a), some (.ref p), none]) (vs := [2]) (i := 2) (G := H) (fun d => match d with | .int i => .int ((i.natAbs : Nat) : Int) | _ => .none) (ed_var (i := 0) rfl (hin (Same.refl H))) (fun _ => rfl) hz ?_) (upd H1 d (.dK [])) (n1.hh.trans s2) _ ?_
  · intro d v Gi hm g hd
    obtain ⟨i, _, rfl⟩ := List.mem_map.mp hm
    refine ed_cb (ea_cons (ed_var (i := 2) rfl hd) ea_nil) ?_
    intro G H s vs hv Q q
    obtain _ | ⟨h1, _ | _⟩ := hv
    refine ⟨i, by rw [dp_int h1], ?_⟩
    rw [abs_if]
    exact q _ G H (Nx.refl s) (.int _)
  intro c vs G3 H3 n3 hc gc e3 hac
  have hcs : vs = (ns.map fun i => ((i.natAbs : Nat) : Int)).map V.int := by
    refine dpa_ints_inv (K := K) (H := G3) ?_
    rw [List.map_map] at hac ⊢
    exact hac
  have hpc : c ≠ p := fun z => by rw [z, upd_ne hpd, e1] at hc; cases hc
  have hdc : c ≠ d := fun z => by rw [z, upd_same] at hc; cases hc
  have kd : H3 d = some (.dK []) := n3.hh _ _ upd_same
  refine ⟨kd, kvD p c 0 0, rfl, (by decide : 4 ≤ 15), ?_⟩
  rw [merge_kvD]
  have hH0 : ∀ b, H1 b = none → H b = none := fun b => n1.hh.free
  refine q d p c _ (fun b o e => ?_) (n1.hh.free hd) hp (n1.hh.free (by rw [upd_ne hdc] at hc; exact hc)) ⟨Ne.symm hpc, 0, 0, ls, ns.map fun i => ((i.natAbs : Nat) : Int), upd_same, ?_, ?_, hls, by rw [List.length_map]; exact h63⟩
  · have hbd : b ≠ d := ne_of_none e (n1.hh.free hd)
    rw [upd_ne hbd]
    exact n3.hh _ _ (s2 _ _ (n1.hh _ _ e))
  · rw [upd_ne hpd]; exact n3.hh _ _ (s2 _ _ e1)
  · rw [upd_ne hdc, e3, hcs]
theorem ok_law_word (D : DefAt K mg "_law_word" s_law_word P_law_word f fd) (T : Bt mg) (h__law_take : Ok P w K mg base "_law_take" P_law_take 2 spTake) : Ok P w K mg base "_law_word" P_law_word 3 (spWord K) := by
  refine D.ok (D.F.ok sc_law_word (fun vs H Q E h => ?_) fun cdv A outer s H vs Q E hr h => ?_)
  · obtain ⟨d, l, c, b, xs, m, rfl, _⟩ := h; rfl
  have S := sc_law_word
  obtain ⟨d, l, c, b, xs, m, rfl, Dw, hB, hx0, hx1, hm0, hm1, q⟩ := h
  refine ⟨_, (pss_one (ps_ret (pe_callTy (q_tuple K rfl) (by rfl) T.tuple (by decide +kernel) (pa_cons (pe_lc (own := [("k", 3)]) (g := gName 3) (by rfl) S.nd  (pi_range1 (by rfl) T.range (pa_cons (pe_ok h__law_take (hr.mono (by decide)) (by rfl) (pa_cons (pv 0) (pa_cons (pe_op op_add (pv 2) pe_int) pa_nil))) pa_nil)) (blkOk_by (N := N_law_word) (sc := defScope s_law_word) (by decide +kernel)) (fun _ _ _ _ _ => (pg_name (i := 3) S.nd rfl (by first | exact .inl rfl | exact .inr rfl))) (fun _ _ _ _ _ => pts_nil) (fun _ _ _ _ _ => (pe_ok h__law_take (hr.mono (by decide)) (by rfl) (pa_cons (pv 0) (pa_cons (pe_callB (q_len K rfl) (by rfl) T.len PySem.boot_len (pa_cons (pv 1) pa_nil)) pa_nil))))) pa_nil)))), ?_⟩
  refine ⟨_, rfl, _, rfl, _, _, rfl, rfl, d, l, c, m + 1, rfl, Dw, by omega, by omega, fun j H1 hj0 hj1 n1 D1 => ?_⟩
  refine ⟨j, rfl, by omega, by omega, fun p hp => ?_⟩
  have hp0 : H p = none := by
    cases e : H p with
    | none => rfl
    | some o =>
      obtain ⟨z1, z2, z3⟩ := D1.off hp
      rw [n1.hh p o z1 z2 e] at hp
      cases hp
  obtain ⟨o1, o2, o3⟩ := D1.off hp
  refine lc_range (lo := 0) (n := j.toNat) (fun k Hc => ∃ acc : List Int, Hc p = some (.lst (acc.map V.int)) ∧ acc.length = k ∧ Letters xs.length acc ∧ Nd d l H Hc ∧ Drw Hc d l c) ⟨[], upd_same, rfl, (fun x z => nomatch z), ⟨fun a o h1 h2 e => by rw [upd_ne (ne_of_none e hp0)]; exact n1.hh a o h1 h2 e⟩, D1.upd o1 o2 o3⟩ (fun k Hc hk hP => ?_) fun Hc hP => ?_
  · obtain ⟨acc, e1, e2, e3, e4, e5⟩ := hP
    refine ⟨rfl, tyes ?_⟩
    refine ⟨_, rfl, _, rfl, b, xs, rfl, .inr (e4.seqT Dw hB), d, l, c, (xs.length : Int), rfl, e5, by omega, by omega, fun y H2 hy0 hy1 n2 D2 => ?_⟩
    have e6 : H2 p = some (.lst (acc.map V.int)) := n2.hh _ _ o1 o2 e1
    refine ⟨_, e6, ?_, acc ++ [y], ?_, ?_, ?_, ?_, D2.upd o1 o2 o3⟩
    · rw [List.length_map, e2]
      have : k < 200000 := by omega
      exact Nat.lt_of_lt_of_le this (by decide)
    · rw [upd_same, List.map_append]; rfl
    · rw [List.length_append, e2]; rfl
    · intro x hx
      rcases List.mem_append.mp hx with hx | hx
      · exact e3 x hx
      · rw [List.mem_singleton.mp hx]; exact ⟨hy0, hy1⟩
    · exact ⟨fun a o h1 h2 e => by rw [upd_ne (ne_of_none e hp0)]; exact (e4.trans n2).hh a o h1 h2 e⟩
  · obtain ⟨acc, e1, e2, e3, e4, e5⟩ := hP
    refine ⟨p, _, rfl, .inl ⟨SqL.of e1, fun z hz => ?_⟩⟩
    have hz0 : H z = none := by
      cases e : H z with
      | none => rfl
      | some o =>
        obtain ⟨z1, z2, z3⟩ := e5.off hz
        rw [e4.hh z o z1 z2 e] at hz
        cases hz
    obtain ⟨u1, u2, u3⟩ := e5.off hz
    exact q z acc _ (by rw [e2]; omega) e3 hz0 upd_same ⟨fun a o h1 h2 e => by rw [upd_ne (ne_of_none e hz0)]; exact e4.hh a o h1 h2 e⟩ (e5.upd u1 u2 u3)
end
end Gw
namespace Gw
open PySem PySem.Spec PyProof.Rows L2 LamX
theorem takes_len {X : Cx} {W : WX} (tk : Takes X W) : Takes X (fun cls d σ H => σ.length = X.N.length → W cls d σ H) := fun u s' ⟨a, B, sI, pins, σ, H, cls, d, e, I, nb, up, sky, na, os, ag, w⟩ =>
  tk u s' ⟨a, B, sI, pins, σ, H, cls, d, e, I, nb, up, sky, na, os, ag, w I.len⟩
/-- what _law_caught makes of a piece of work -/
def TTc (K : PySem.W.Frag) (CS : Addr) : (XK → Hp → VK → Prop) → Hp → VK → Prop := fun tl H Q =>
  tl (fun cls d H' => ∃ b, PySem.W.exmOne K cls (.ref CS) = some b ∧ (b = true → ∀ a, H' a = none → Q (.ref a) (upd H' a (ErrO cls d a))) ∧ (b = false → False)) H (fun _ H' => ∃ v, (some (some V.non) : Option (Option V)) = some (some v) ∧ Q v H')
theorem caught_gives {X : Cx} {q : Str} {g CS : Addr} {cdg : Value} (hme : X.mg "GroupError" = some (.ref CS)) : GivesTo X N_law_caught "_law_caught" (defScope s_law_caught) g cdg (defBody s_law_caught) "work" q (TTc X.K CS) := by
  intro f c' s H Q tl act hc h
  have S := sc_law_caught
  refine ⟨_, pss_cons (ps_set (i := 1) S.nd rfl (.inl rfl) pe_non) (pss_cons (ps_keep (X := (cxOf C8.CX0 X.prog X.w X.K X.mg X.base N_law_caught "_law_caught" (defScope s_law_caught) g cdg X.A X.stack s H C8.E0).nox) (c := .ref CS) (i := 2) (j := 1)
    (tb := fun W D σ H => ∃ Ech : XK, (∀ cls d σ' H', Ech cls d H' → σ'.length = 3 → W cls d σ' H') ∧ σ[0]? = some (some (.ref f)) ∧ H c' = some (CodeO c' q) ∧ tl Ech H (fun _ H' => D.nx σ H'))
    rfl rfl rfl S.nd rfl rfl rfl rfl (.inl rfl) rfl rfl (fun Y e => by rfl) (show 2 < N_law_caught.length by decide) ⟨rfl, by decide, .inl hme⟩ L2.takes0 (fun W pn xe tk _ => ?_)) (pss_one (ps_ret (pv 1)))), ?_⟩
  · refine ⟨fun pins s' σ H' D I h' => ?_⟩
    obtain ⟨Ech, hW, h1, h2, h3⟩ := h'
    exact (pss_one (ps_expr (act _ pn xe Ech _ _ (takes_len tk) hW))).run pins s' σ H' D I ⟨h1, h2, h3⟩
  · refine ⟨fun cls d H' => ∃ b, PySem.W.exmOne X.K cls (.ref CS) = some b ∧ (b = true → ∀ a, H' a = none → Q (.ref a) (upd H' a (ErrO cls d a))) ∧ (b = false → False), fun cls d σ' H' hE hl => ?_, rfl, hc, ?_⟩
    · obtain ⟨b, e1, e2, e3⟩ := hE
      refine ⟨b, e1, fun hb a na => ?_, fun hb => e3 hb⟩
      match σ', hl with
      | [x0, x1, x2], _ => exact ⟨.ref a, rfl, e2 hb a na⟩
    · exact h
end Gw
namespace Gw
open PySem PySem.Spec PyProof.Rows L2 LamX
section
variable {P : Program} {w : World} {K : PySem.W.Frag} {mg : Str → Option Value} {base : Heap} {f : Addr} {fd : FuncData}
def R_is_back : List PyData → PyData → Prop := fun ds d => ∃ x, ds = [x] ∧ Sized x ∧ d = .bool (isBackD x)
theorem ok_is_back (D : DefAt K mg "is_back" s_is_back P_is_back f fd) (T : Bt mg) {t12 : Tok} (c_MOST_BACK : mg "MOST_BACK" = some (.int 12 t12)) (h_is_row : Ok P w K mg base "is_row" P_is_row 3 (SpD K R_is_row)) :
    OkF P w K mg base "is_back" s_is_back P_is_back 4 (SpD K R_is_back) := by
  refine D.okF (okD D.F sc_is_back (fun ds d h => ?_) fun cdv A outer s H hr => ?_)
  · obtain ⟨x, rfl, _⟩ := h; rfl
  have S := sc_is_back
  refine ⟨_, (pss_cons (ps_if (PW.pt (pw_or (pt_not (pt_val (pe_callB (q_isi K rfl) (by rfl) T.isinstance (by decide +kernel) (pa_cons (pv 0) (pa_cons (pe_bltn (v := .ty "tuple") (by rfl) T.tuple (by decide +kernel) rfl) pa_nil))))) (pw_or1 (pt_not (pt_chain op_le op_le pe_int (pe_callB (q_len K rfl) (by rfl) T.len PySem.boot_len (pa_cons (pv 0) pa_nil)) (pe_glob (v := .int 12) (by rfl) c_MOST_BACK ⟨_, rfl⟩)))))) (pss_one (ps_ret pe_bl)) pss_nil)
  (pss_cons (ps_if (pt_not (pt_val (pe_ok h_is_row (hr.mono (by decide)) (by rfl) (pa_cons (pe_callB (q_len K rfl) (by rfl) T.len PySem.boot_len (pa_cons (pv 0) pa_nil)) (pa_cons (pv 0) pa_nil))))) (pss_one (ps_ret pe_bl)) pss_nil)
  (pss_one (ps_ret (pe_callB (q_all K rfl rfl) (by rfl) T.all (by decide +kernel) (pa_cons (pe_lc (own := [("letter", 1), ("back", 2)])  (by rfl) S.nd  (q_iEnT K rfl (by rfl) T.enumerate (pa_cons (pv 0) pa_nil)) (blkOk_by (N := N_is_back) (sc := defScope s_is_back) (by decide +kernel)) (fun _ _ _ _ _ => (q_gT K 2 rfl rfl (pgs_cons (pg_name (i := 1) S.nd rfl (by first | exact .inl rfl | exact .inr rfl)) (pgs_cons (pg_name (i := 2) S.nd rfl (by first | exact .inl rfl | exact .inr rfl)) pgs_nil)))) (fun _ _ _ _ _ => pts_nil) (fun _ _ _ _ _ => (pe_cmpR (q_eqD K rfl hr.units) (pe_ix (q_ixT K rfl) (pv 0) (pv 2) (fun _ _ => rfl)) (pv 1) (nomark _)))) pa_nil)))))), fun G ds d vs hR ha H0 hs D' q _ => ?_⟩
  obtain ⟨x, rfl, hz, rfl⟩ := hR
  obtain _ | ⟨hx, _ | _⟩ := ha
  cases x with
  | tuple xs =>
    have hz : xs.length ≤ sizeLine := hz
    have hlen := rcl_len (K := K) (ds := xs)
    refine (rd_seqIf (b := !(decide (2 ≤ (xs.length : Int)) && decide ((xs.length : Int) ≤ 12))) ?_ (fun hb => ?_) fun hb => ?_) H0 hs D' q
    · refine EvB.cast (eb_or (eb_not (eb_B (ed_isi (ed_var (i := 0) rfl hx) (kit_tup _)))) fun _ => eb_not (eb_test (ed_chain ed_int (ed_cb (ea_cons (ed_var (i := 0) rfl hx) ea_nil) hlen) (ro_b (f := fun i j => decide (i ≤ j))) (fun _ => ed_int) (fun _ => ro_b (f := fun i j => decide (i ≤ j)))))) (by rfl)
    · refine (rd_ret ed_bl).cast ?_
      have : (decide (2 ≤ (xs.length : Int)) && decide ((xs.length : Int) ≤ 12)) = false := not_t hb
      show PyData.bool false = .bool (decide (2 ≤ xs.length) && decide (xs.length ≤ 12) && _)
      have e : (decide (2 ≤ xs.length) && decide (xs.length ≤ 12)) = false := by
        rw [← this]
        congr 1 <;> exact decide_eq_decide.mpr (by omega)
      rw [e, Bool.false_and]
    · have hc : (decide (2 ≤ (xs.length : Int)) && decide ((xs.length : Int) ≤ 12)) = true := not_f hb
      rw [Bool.and_eq_true, decide_eq_true_eq, decide_eq_true_eq] at hc
      have e : isBackD (.tuple xs) = (xs.all (inR 0 ((xs.length : Int) - 1)) && (xs.mapIdx (bkAt xs)).all id) := by
        show (decide (2 ≤ xs.length) && decide (xs.length ≤ 12) && _) = _
        rw [decide_eq_true (by omega : 2 ≤ xs.length), decide_eq_true (by omega : xs.length ≤ 12)]
        rfl
      rw [e]
      refine rd_seqIf (b := !xs.all (inR 0 ((xs.length : Int) - 1))) (eb_not (eb_B (ed_call (ea_cons (ed_cb (ea_cons (ed_var (i := 0) rfl hx) ea_nil) hlen) (ea_cons (ed_var (i := 0) rfl hx) ea_nil)) ⟨_, _, rfl, hz, rfl⟩))) (fun hb => ?_) fun hb => ?_
      · have h1 : xs.all (inR 0 ((xs.length : Int) - 1)) = false := not_t hb
        rw [h1]
        exact rd_ret ed_bl
      · have h1 : xs.all (inR 0 ((xs.length : Int) - 1)) = true := not_f hb
        rw [h1, Bool.true_and]
        have hin := List.all_eq_true.mp h1
        refine rd_ret (ed_cb (ea_cons (EvN.toD (en_lcEn (fun k d => .bool (bkAt xs k d)) (ed_var (i := 0) rfl hx) (fun _ _ => rfl) hz fun k d v Gi hk g hd => ?_)) ea_nil) ?_)
        · have hm : d ∈ xs := List.mem_of_getElem? hk
          obtain ⟨i, rfl, h0, h9⟩ := inR_int (hin d hm)
          have hi : i.toNat < xs.length := by omega
          have hat : xs[i.toNat]? = some (xs.getD i.toNat .none) := by rw [List.getD_eq_getElem?_getD, List.getElem?_eq_getElem hi]; rfl
          obtain ⟨j, ej, _, _⟩ := inR_int (hin _ (List.mem_of_getElem? hat))
          refine ed_op (ed_op (ed_var (i := 0) rfl (dp_mono g _ hx)) (ed_var (i := 2) rfl hd) (ro_ixT (k := i.toNat) (by omega) hat)) (ed_var (i := 1) (d := .int (k : Int)) rfl (.int _)) (ro_eqD ?_ (shaped_int _))
          rw [ej]; exact shaped_int _
        · have h := rcl_all (K := K) (bs := xs.mapIdx (bkAt xs))
          rw [mapIdx_then] at h
          exact h
  | _ =>
    refine (rd_seqIf (b := true) (EvB.cast (eb_or (a := true) (b := true) (eb_not (eb_B (b := false) (ed_isi (ed_var (i := 0) rfl hx) (kit_tup _)))) fun z => nomatch z) (by rfl)) (fun _ => (rd_ret ed_bl).cast (by rfl)) fun z => nomatch z) H0 hs D' q
/-! ### lists, pairs, rules -/
def spIsL (K : PySem.W.Frag) : Sp := fun vs H Q _ => ∃ (G : Hp) (v : V) (x : PyData), Same G H ∧ vs = [v] ∧ Th K G v x ∧ ∀ G' H', Nx G H G' H' → Q (.bl (isLT x)) H'
theorem ok_is_list (D : DefAt K mg "is_list" s_is_list P_is_list f fd) (T : Bt mg) : Ok P w K mg base "is_list" P_is_list 1 (spIsL K) := by
  refine D.ok (D.F.ok sc_is_list (fun vs H Q E h => ?_) fun cdv A outer s H vs Q E hr h => ?_)
  · obtain ⟨G, v, x, _, rfl, _⟩ := h; rfl
  have S := sc_is_list
  obtain ⟨G, v, x, hs, rfl, hv, q⟩ := h
  refine ⟨_, (pss_one (ps_ret (pe_callB (q_isiT K rfl) (by rfl) T.isinstance (by decide +kernel) (pa_cons (pv 0) (pa_cons (pe_tup (pa_cons (pe_bltn (v := .ty "list") (by rfl) T.list (by decide +kernel) rfl) (pa_cons (pe_bltn (v := .ty "tuple") (by rfl) T.tuple (by decide +kernel) rfl) pa_nil))) pa_nil))))), ?_⟩
  exact (rd_ret (K := K) (d := .bool (isLT x)) (ed_isiLT (i := 0) rfl hv)) H hs _ fun u G' H' n1 hd => by rw [dp_bl hd]; exact q G' H' n1
theorem ed_isL {σ : L2.St} {G : Hp} {i : Nat} {v : V} {x : PyData} (h : σ[i]? = some (some v)) (hv : Th K G v x) : EvD K (tCall (spIsL K) [] E0 (tCons (tVar i) tNil)) σ G (.bool (isLT x)) := fun H s Q q => ⟨v, h, G, v, x, s, rfl, hv, fun G' H' n => q _ G' H' n (.bl _)⟩
def isPairD : PyData → Bool | .tuple ds => decide (ds.length = 2) | _ => false
def isRuleD (n : Int) : PyData → Bool | .tuple ds => decide (ds.length = 2) && ds.all (isShort n 40) | _ => false
def rulesD (n : Int) (ds : List PyData) : Bool := decide (ds.length ≤ 40) && ds.all (isRuleD n)
def itemsOf : PyData → List PyData | .list ds => ds | .tuple ds => ds | _ => []
def areR (n : Int) (x : PyData) : Bool := isLT x && rulesD n (itemsOf x)
/-- what may stand as a rule: the items' items fit -/
def SzI (d : PyData) : Prop := ∀ ds, d = .tuple ds → ds.length ≤ 1000 ∧ ∀ e ∈ ds, Sized e
def SzR (x : PyData) : Prop := (itemsOf x).length ≤ 1000 ∧ ∀ d ∈ itemsOf x, SzI d
def R_is_pair : List PyData → PyData → Prop := fun ds d => ∃ x, ds = [x] ∧ d = .bool (isPairD x)
theorem ok_is_pair (D : DefAt K mg "is_pair" s_is_pair P_is_pair f fd) (T : Bt mg) : Ok P w K mg base "is_pair" P_is_pair 1 (SpD K R_is_pair) := by
  refine D.ok (okD D.F sc_is_pair (fun ds d h => ?_) fun cdv A outer s H hr => ?_)
  · obtain ⟨x, rfl, _⟩ := h; rfl
  have S := sc_is_pair
  refine ⟨_, (pss_one (ps_ret (pe_and (pe_callB (q_isi K rfl) (by rfl) T.isinstance (by decide +kernel) (pa_cons (pv 0) (pa_cons (pe_bltn (v := .ty "tuple") (by rfl) T.tuple (by decide +kernel) rfl) pa_nil))) (pe_one (pe_cmpR op_eq (pe_callB (q_len K rfl) (by rfl) T.len PySem.boot_len (pa_cons (pv 0) pa_nil)) pe_int (nomark _)))))), fun G ds d vs hR ha H0 hs D' q _ => ?_⟩
  obtain ⟨x, rfl, rfl⟩ := hR
  obtain _ | ⟨hx, _ | _⟩ := ha
  cases x with
  | tuple xs =>
    refine (RtD.cast (rd_ret (ed_and (b := decide ((xs.length : Int) = 2)) (ed_isi (ed_var (i := 0) rfl hx) (kit_tup _)) fun _ => ed_op (ed_cb (ea_cons (ed_var (i := 0) rfl hx) ea_nil) rcl_len) ed_int ro_eqI)) ?_) H0 hs D' q
    show PyData.bool (true && decide ((xs.length : Int) = 2)) = .bool (decide (xs.length = 2))
    rw [Bool.true_and]
    exact congrArg PyData.bool (decide_eq_decide.mpr (by omega))
  | _ => exact (RtD.cast (rd_ret (ed_and (b := false) (ed_isi (ed_var (i := 0) rfl hx) (kit_tup _)) fun z => nomatch z)) (by rfl)) H0 hs D' q
def R_is_rule : List PyData → PyData → Prop := fun ds d => ∃ n x, ds = [.int n, x] ∧ SzI x ∧ d = .bool (isRuleD n x)
theorem ok_is_rule (D : DefAt K mg "is_rule" s_is_rule P_is_rule f fd) (T : Bt mg) {t40 : Tok} (c_MOST_SIDE : mg "MOST_SIDE" = some (.int 40 t40)) (h_is_pair : Ok P w K mg base "is_pair" P_is_pair 1 (SpD K R_is_pair)) (h_is_short_row : Ok P w K mg base "is_short_row" P_is_short_row 4 (SpD K R_is_short_row)) :
    Ok P w K mg base "is_rule" P_is_rule 5 (SpD K R_is_rule) := by
  refine D.ok (okD D.F sc_is_rule (fun ds d h => ?_) fun cdv A outer s H hr => ?_)
  · obtain ⟨n, x, rfl, _⟩ := h; rfl
  have S := sc_is_rule
  refine ⟨_, (pss_one (ps_ret (pe_and (pe_ok h_is_pair (hr.mono (by decide)) (by rfl) (pa_cons (pv 1) pa_nil)) (pe_one (pe_callB (q_all K rfl rfl) (by rfl) T.all (by decide +kernel) (pa_cons (pe_lc (own := [("side", 2)]) (g := gName 2) (by rfl) S.nd  (q_iT K rfl (pv 1)) (blkOk_by (N := N_is_rule) (sc := defScope s_is_rule) (by decide +kernel)) (fun _ _ _ _ _ => (pg_name (i := 2) S.nd rfl (by first | exact .inl rfl | exact .inr rfl))) (fun _ _ _ _ _ => pts_nil) (fun _ _ _ _ _ => (pe_ok h_is_short_row (hr.mono (by decide)) (by rfl) (pa_cons (pv 0) (pa_cons (pv 2) (pa_cons (pe_glob (v := .int 40) (by rfl) c_MOST_SIDE ⟨_, rfl⟩) pa_nil)))))) pa_nil)))))), fun G ds d vs hR ha H0 hs D' q _ => ?_⟩
  obtain ⟨n, x, rfl, hz, rfl⟩ := hR
  obtain _ | ⟨hn, _ | ⟨hx, _ | _⟩⟩ := ha
  cases x with
  | tuple xs =>
    obtain ⟨hz1, hz2⟩ := hz xs rfl
    refine (RtD.cast (rd_ret (ed_and (b := xs.all (isShort n 40)) (ed_call (R := R_is_pair) (E := E0) (ea_cons (ed_var (i := 1) rfl hx) ea_nil) ⟨_, rfl, rfl⟩) fun _ => ?_)) (by rfl)) H0 hs D' q
    refine EvD.cast (ed_cb (ea_cons (EvN.toD (en_lcT1 (fun d => .bool (isShort n 40 d)) (ed_var (i := 1) rfl hx) (fun _ => rfl) (Nat.le_trans hz1 (by decide)) fun d v Gi hm g hd => ?_)) ea_nil) (z := .bool ((xs.map (isShort n 40)).all id)) ?_) ?_
    · exact ed_call (ea_cons (ed_var (i := 0) rfl (dp_mono g _ hn)) (ea_cons (ed_var (i := 2) rfl hd) (ea_cons (ed_c (.int 40)) ea_nil))) ⟨n, d, 40, rfl, hz2 d hm, rfl⟩
    · have h := rcl_all (K := K) (bs := xs.map (isShort n 40))
      rw [List.map_map] at h
      exact h
    · rw [List.all_map]; rfl
  | _ => exact (RtD.cast (rd_ret (ed_and (b := false) (ed_call (R := R_is_pair) (E := E0) (ea_cons (ed_var (i := 1) rfl hx) ea_nil) ⟨_, rfl, rfl⟩) fun z => nomatch z)) (by rfl)) H0 hs D' q
def spAR (K : PySem.W.Frag) : Sp := fun vs H Q _ => ∃ (G : Hp) (n : Int) (v : V) (x : PyData), Same G H ∧ vs = [.int n, v] ∧ Th K G v x ∧ SzR x ∧ ∀ G' H', Nx G H G' H' → Q (.bl (areR n x)) H'
theorem ok_are_rules (D : DefAt K mg "are_rules" s_are_rules P_are_rules f fd) (T : Bt mg) {t40 : Tok} (c_MOST_RULES : mg "MOST_RULES" = some (.int 40 t40)) (h_is_list : Ok P w K mg base "is_list" P_is_list 1 (spIsL K)) (h_is_rule : Ok P w K mg base "is_rule" P_is_rule 5 (SpD K R_is_rule)) :
    Ok P w K mg base "are_rules" P_are_rules 6 (spAR K) := by
  refine D.ok (D.F.ok sc_are_rules (fun vs H Q E h => ?_) fun cdv A outer s H vs Q E hr h => ?_)
  · obtain ⟨G, n, v, x, _, rfl, _⟩ := h; rfl
  have S := sc_are_rules
  obtain ⟨G, n, v, x, hs, rfl, hv, hz, q⟩ := h
  refine ⟨_, (pss_one (ps_ret (pe_and (pe_ok h_is_list (hr.mono (by decide)) (by rfl) (pa_cons (pv 1) pa_nil)) (pe_and (pe_cmpR op_le (pe_callB (q_len K rfl) (by rfl) T.len PySem.boot_len (pa_cons (pv 1) pa_nil)) (pe_glob (v := .int 40) (by rfl) c_MOST_RULES ⟨_, rfl⟩) (nomark _)) (pe_one (pe_callB (q_all K rfl rfl) (by rfl) T.all (by decide +kernel) (pa_cons (pe_lc (own := [("rule", 2)]) (g := gName 2) (by rfl) S.nd  (q_iE K rfl (pv 1)) (blkOk_by (N := N_are_rules) (sc := defScope s_are_rules) (by decide +kernel)) (fun _ _ _ _ _ => (pg_name (i := 2) S.nd rfl (by first | exact .inl rfl | exact .inr rfl))) (fun _ _ _ _ _ => pts_nil) (fun _ _ _ _ _ => (pe_ok h_is_rule (hr.mono (by decide)) (by rfl) (pa_cons (pv 0) (pa_cons (pv 2) pa_nil))))) pa_nil))))))), ?_⟩
  refine (rd_ret (K := K) (d := .bool (areR n x)) ?_) H hs _ fun u G' H' n1 hd => (by rw [dp_bl hd]; exact q G' H' n1)
  have all_of : ∀ ds : List PyData, (ds.map (isRuleD n)).all id = ds.all (isRuleD n) := fun ds => by rw [List.all_map]; rfl
  have le40 : ∀ ds : List PyData, decide ((ds.length : Int) ≤ 40) = decide (ds.length ≤ 40) := fun ds => decide_eq_decide.mpr (by omega)
  have rc : ∀ ds : List PyData, RCl K (rAll K) [.list (ds.map fun d => .bool (isRuleD n d))] (.bool ((ds.map (isRuleD n)).all id)) := fun ds => by
    have h := rcl_all (K := K) (bs := ds.map (isRuleD n))
    rw [List.map_map] at h
    exact h
  cases x with
  | list ds =>
    have hd0 : Dp K G v (.list ds) := hv.elim id fun z => nomatch z.1
    refine EvD.cast (ed_and (b := decide ((ds.length : Int) ≤ 40) && (ds.map (isRuleD n)).all id) (ed_isL (i := 1) rfl hv) fun _ => ed_and (ed_op (ed_cb (ea_cons (ed_var (i := 1) rfl hd0) ea_nil) rcl_lenL) (ed_c (.int 40)) (ro_b (f := fun i j => decide (i ≤ j)))) fun _ => ?_) ?_
    · refine ed_cb (ea_cons (EvN.toD (en_iL (en_lcL1 (fun d => .bool (isRuleD n d)) (ed_var (i := 1) rfl hd0) (fun _ => rfl) (Nat.le_trans hz.1 (by decide)) fun d u Gi hm g hd => ?_))) ea_nil) (rc ds)
      exact ed_call (ea_cons (ed_var (i := 0) rfl (.int n)) (ea_cons (ed_var (i := 2) rfl hd) ea_nil)) ⟨n, d, rfl, hz.2 d hm, rfl⟩
    · rw [all_of, le40]; rfl
  | tuple ds =>
    have hd0 : Dp K G v (.tuple ds) := hv.tup
    refine EvD.cast (ed_and (b := decide ((ds.length : Int) ≤ 40) && (ds.map (isRuleD n)).all id) (ed_isL (i := 1) rfl hv) fun _ => ed_and (ed_op (ed_cb (ea_cons (ed_var (i := 1) rfl hd0) ea_nil) rcl_len) (ed_c (.int 40)) (ro_b (f := fun i j => decide (i ≤ j)))) fun _ => ?_) ?_
    · refine ed_cb (ea_cons (EvN.toD (en_iT (en_lcT1 (fun d => .bool (isRuleD n d)) (ed_var (i := 1) rfl hd0) (fun _ => rfl) (Nat.le_trans hz.1 (by decide)) fun d u Gi hm g hd => ?_))) ea_nil) (rc ds)
      exact ed_call (ea_cons (ed_var (i := 0) rfl (.int n)) (ea_cons (ed_var (i := 2) rfl hd) ea_nil)) ⟨n, d, rfl, hz.2 d hm, rfl⟩
    · rw [all_of, le40]; rfl
  | _ => exact EvD.cast (ed_and (b := false) (ed_isL (i := 1) rfl hv) fun z => nomatch z) (by rfl)
end
end Gw
namespace Gw
open PySem PySem.Spec PyProof.Rows L2 LamX
section
variable {P : Program} {w : World} {K : PySem.W.Frag} {mg : Str → Option Value} {base : Heap} {f : Addr} {fd : FuncData} {CG CB fB : Addr}
/-! ### Group -/
def lenOf : PyData → Nat | .tuple xs => xs.length | _ => 0
def gF (b r : V) : List (Str × V) := [(("back" : Str), b), (("rules" : Str), r)]
def eF (x : V) : List (Str × V) := [(("part" : Str), x)]
def spGI (K : PySem.W.Frag) (CG CB : Addr) : Sp := fun vs H Q E => ∃ (G : Hp) (g dx : Addr) (b r : V) (y x : PyData), Same G H ∧ vs = [.ref g, b, r] ∧ G g = none ∧ H g = some (.ins CG dx []) ∧ Dp K G b y ∧ Sized y ∧ Th K G r x ∧ SzR x ∧
  (isBackD y = true → areR (lenOf y) x = true → ∀ t G' H', Same G G' → Same G' H' → H' g = some (.ins CG dx (gF b t)) → Dp K G' t (.tuple (itemsOf x)) → (∀ a o, a ≠ g → H a = some o → H' a = some o) → (∀ a, H a ≠ none → G' a = G a) → Q .non H') ∧
  (isBackD y = false → ∀ d H', Same H H' → H' d = some (.xd (eF (.str "back"))) → E (.ref CB) (some d) H') ∧
  (isBackD y = true → areR (lenOf y) x = false → ∀ d H', Same H H' → H' d = some (.xd (eF (.str "rules"))) → E (.ref CB) (some d) H')
theorem upd_off {H : Hp} {g : Addr} {o : HO} : ∀ a u, a ≠ g → H a = some u → upd H g o a = some u := fun a u n e => (upd_ne n).trans e
theorem ok_Groupinit (F : Fun K "__init__" "Group.__init__" s_Groupinit f fd) (T : Bt mg) (t_BadGroup : PySem.SupX.SupTxt P K mg "BadGroup" "part" CB fB) (cl : Cls K CG) (na : NoAttr K CG "back") (nr : NoAttr K CG "rules") (h_is_back : OkF P w K mg base "is_back" s_is_back P_is_back 4 (SpD K R_is_back)) (h_are_rules : Ok P w K mg base "are_rules" P_are_rules 6 (spAR K)) :
    FnOk P w K mg base (L2.CX P w) 7 f fd P_Groupinit (spGI K CG CB) := by
  refine F.okX sc_Groupinit (fun vs H Q E h => ?_) fun cdv A outer s H vs Q E hr h => ?_
  · obtain ⟨G, g, dx, b, r, y, x, _, rfl, _⟩ := h; rfl
  have S := sc_Groupinit
  obtain ⟨G, g, dx, b, r, y, x, hs, rfl, hg0, hg, hb, hy, hv, hz, q1, q2, q3⟩ := h
  refine ⟨_, (pss_cons (ps_if (pt_not (pt_val (pe_ok h_is_back.ok (hr.mono (by decide)) (by rfl) (pa_cons (pv 1) pa_nil)))) (pss_one (ps_raise rfl (takes_of rfl rfl rfl rfl) (pmk_sup t_BadGroup hr (pa_cons pe_str pa_nil) (by rfl)))) pss_nil)
  (pss_cons (ps_if (pt_not (pt_val (pe_ok h_are_rules (hr.mono (by decide)) (by rfl) (pa_cons (pe_callB (q_len K rfl) (by rfl) T.len PySem.boot_len (pa_cons (pv 1) pa_nil)) (pa_cons (pv 2) pa_nil))))) (pss_one (ps_raise rfl (takes_of rfl rfl rfl rfl) (pmk_sup t_BadGroup hr (pa_cons pe_str pa_nil) (by rfl)))) pss_nil)
  (pss_cons (ps_fld (pv 0) (pv 1) rfl)
  (pss_one (ps_fld (pv 0) (pe_callTy (q_tuple K rfl) (by rfl) T.tuple (by decide +kernel) (pa_cons (pv 2) pa_nil)) rfl))))), ?_⟩
  have put2 : ∀ t : V, putF "rules" t (putF "back" b []) = (gF b t) := fun t => by rfl
  refine seq_ifB (K := K) (G := G) (b := !isBackD y) (eb_not (eb_B (ed_call (ea_cons (ed_var (i := 1) (σ := L2.start N_Groupinit [.ref g, b, r]) rfl hb) ea_nil) (R := R_is_back) (E := E0) ⟨_, rfl, hy, rfl⟩))) hs (fun hk G1 H1 n1 => ⟨_, rfl, fun d hd => q2 (not_t hk) d _ (n1.hh.trans (same_upd hd)) upd_same⟩) fun hk G1 H1 n1 => ?_
  have hk := not_f hk
  cases y with
  | tuple ds =>
    cases hb with
    | @tup p xs _ hp ha =>
      have lx := dpa_length ha
      refine ⟨_, rfl, p, xs, rfl, .inr (same_tup (n1.gg.trans n1.gh) hp), _, rfl, G1, _, _, x, n1.gh, rfl, hv.mono n1.gg, hz, fun G2 H2 n2 => ⟨_, rfl, ?_⟩⟩
      rw [lx]
      have n12 := n1.trans n2
      have g2 : G2 g = none := (n12.fr g (ne_none hg)).trans hg0
      have hg2 : H2 g = some (.ins CG dx []) := n12.hh _ _ hg
      cases ht : areR ds.length x with
      | false => exact if_on rfl ⟨_, rfl, fun d hd => q3 hk ht d _ (n12.hh.trans (same_upd hd)) upd_same⟩
      | true =>
      refine if_off rfl (nx_of ?_)
      dsimp only
      refine ⟨_, rfl, _, rfl, g, CG, dx, [], rfl, hg2, cl, na, by decide, ?_⟩
      dsimp only
      have off : ∀ {G' H' : Hp} {o : HO}, Same G' H' → G' g = none → Same G' (upd H' g o) := fun s e a u z => (upd_ne (fun w => by rw [w, e] at z; cases z)).trans (s a u z)
      generalize hH3 : upd H2 g (.ins CG dx (putF "back" (.ref p) [])) = H3
      have s3 : Same G2 H3 := by rw [← hH3]; exact off n2.gh g2
      have hg3 : H3 g = some (.ins CG dx (putF "back" (.ref p) [])) := by rw [← hH3]; exact upd_same
      have keep3 : ∀ a o, a ≠ g → H a = some o → H3 a = some o := fun a o n e => by rw [← hH3, upd_ne n]; exact n12.hh _ _ e
      refine ⟨_, rfl, ?_⟩
      cases x with
      | list ys =>
        cases hv.elim id fun z => nomatch z.1 with
        | @lst pl vl _ hl hal =>
          refine ⟨pl, vl, rfl, .inl ⟨s3.seq (n12.gg.seq hl), fun l hl3 => ?_⟩⟩
          have gl : G2 l = none := s3.free hl3
          have lg : g ≠ l := ne_of_none hg3 hl3
          have sG := same_upd (o := .tup vl) gl
          refine ⟨_, rfl, g, CG, dx, _, rfl, (upd_ne lg).trans hg3, cl, nr, (by show 1 < 1000; decide), ?_⟩
          refine q1 hk ht (.ref l) (upd G2 l (.tup vl)) _ (n12.gg.trans sG) (fun a u e => ?_) ?_ (.tup (SqT.of upd_same) (dpa_mono (n12.gg.trans sG) _ hal)) (fun a o n e => ?_) fun a na => ?_
          · by_cases hal : a = l
            · subst hal
              rw [upd_same] at e
              rw [upd_ne (Ne.symm lg), upd_same]
              exact e
            · rw [upd_ne hal] at e
              have hag : a ≠ g := fun z => by rw [z, g2] at e; cases e
              rw [upd_ne hag, upd_ne hal]
              exact s3 _ _ e
          · rw [put2]; exact upd_same
          · rw [upd_ne n]
            exact (same_upd hl3) _ _ (keep3 a o n e)
          · have nl : a ≠ l := fun z => by
              have : H2 a ≠ none := same_none n12.hh na
              rw [z] at this
              by_cases hgl : l = g
              · exact lg hgl.symm
              · rw [← hH3, upd_ne hgl] at hl3
                exact this hl3
            exact (upd_ne nl).trans (n12.fr a na)
      | tuple ys =>
        cases hv.tup with
        | @tup pl vl _ hl hal =>
          refine ⟨pl, vl, rfl, .inr ⟨same_tup s3 (same_tup n12.gg hl), ?_⟩⟩
          refine ⟨_, rfl, g, CG, dx, _, rfl, hg3, cl, nr, (by show 1 < 1000; decide), ?_⟩
          refine q1 hk ht (.ref pl) G2 _ n12.gg (off s3 g2) ?_ (.tup (same_tup n12.gg hl) (dpa_mono n12.gg _ hal)) (fun a o n e => ?_) fun a na => n12.fr a na
          · rw [put2]; exact upd_same
          · rw [upd_ne n]; exact keep3 a o n e
      | _ => cases ht
  | _ => cases hk
/-! ### == of groups -/
/-- at g stands a group of these letters and rules -/
def GrpAt (K : PySem.W.Frag) (CG : Addr) (G : Hp) (g : Addr) (bs rs : List PyData) : Prop := ∃ dx vb vr, G g = some (.ins CG dx (gF vb vr)) ∧ Dp K G vb (.tuple bs) ∧ Dp K G vr (.tuple rs)
theorem GrpAt.mono {G G' : Hp} {g : Addr} {bs rs : List PyData} (h : GrpAt K CG G g bs rs) (s : Same G G') : GrpAt K CG G' g bs rs := by
  obtain ⟨dx, vb, vr, h1, h2, h3⟩ := h
  exact ⟨dx, vb, vr, s _ _ h1, dp_mono s _ h2, dp_mono s _ h3⟩
theorem look_back {b r : V} : (gF b r).lookup ("back" : Str) = some b := by simp [gF, List.lookup]
theorem look_rules {b r : V} : (gF b r).lookup ("rules" : Str) = some r := by
  have e : (("rules" : Str) == ("back" : Str)) = false := by decide
  simp [gF, List.lookup, e]
def spEQ (K : PySem.W.Frag) (CG : Addr) : Sp := fun vs H Q _ => ∃ (G : Hp) (g : Addr) (z : V) (bs rs : List PyData), Same G H ∧ vs = [.ref g, z] ∧ GrpAt K CG G g bs rs ∧
  ((∃ h bs2 rs2, z = .ref h ∧ GrpAt K CG G h bs2 rs2 ∧ SeqAt.shaped (.tuple bs) = true ∧ SeqAt.shaped (.tuple rs) = true ∧ SeqAt.shaped (.tuple bs2) = true ∧ SeqAt.shaped (.tuple rs2) = true ∧ ∀ G' H', Nx G H G' H' → Q (.bl (PyData.eqv (.tuple bs) (.tuple bs2) && PyData.eqv (.tuple rs) (.tuple rs2))) H') ∨
    (∃ x, Th K G z x ∧ ∀ G' H', Nx G H G' H' → Q (.bl false) H'))
theorem ok_Groupeq (F : Fun K "__eq__" "Group.__eq__" s_Groupeq f fd) (T : Bt mg) (g_Group : mg "Group" = some (.ref CG)) (O : OwnC K CG) (na : NoAttr K CG "back") (nr : NoAttr K CG "rules") : FnOk P w K mg base CX0 2 f fd P_Groupeq (spEQ K CG) := by
  refine F.ok sc_Groupeq (fun vs H Q E h => ?_) fun cdv A outer s H vs Q E hr h => ?_
  · obtain ⟨G, g, z, bs, rs, _, rfl, _⟩ := h; rfl
  have S := sc_Groupeq
  obtain ⟨G, g, z, bs, rs, hs, rfl, ⟨dx, vb, vr, hg, hb, hq⟩, h⟩ := h
  refine ⟨_, (pss_one (ps_ret (pe_and (pe_callB (q_isi K rfl) (by rfl) T.isinstance (by decide +kernel) (pa_cons (pv 1) (pa_cons (pe_glob (v := .ref CG) (by rfl) g_Group rfl) pa_nil))) (pe_and (pe_cmpR (q_eqD K rfl hr.units) (pe_fld (pv 0) rfl) (pe_fld (pv 1) rfl) (nomark _)) (pe_one (pe_cmpR (q_eqD K rfl hr.units) (pe_fld (pv 0) rfl) (pe_fld (pv 1) rfl) (nomark _))))))), ?_⟩
  rcases h with ⟨h, bs2, rs2, rfl, ⟨dx2, vb2, vr2, hg2, hb2, hq2⟩, s1, s2, s3, s4, q⟩ | ⟨x, hx, q⟩
  · refine (rd_ret (K := K) (d := .bool (true && (PyData.eqv (.tuple bs) (.tuple bs2) && PyData.eqv (.tuple rs) (.tuple rs2)))) (ed_and (ed_isiC (i := 1) rfl (fun H s => O.tyx (s _ _ hg2)) O.me) fun _ => ed_and (ed_op (ed_fld (i := 0) rfl hg O.cl na look_back hb) (ed_fld (i := 1) rfl hg2 O.cl na look_back hb2) (ro_eqD s1 s3)) fun _ => ed_op (ed_fld (i := 0) rfl hg O.cl nr look_rules hq) (ed_fld (i := 1) rfl hg2 O.cl nr look_rules hq2) (ro_eqD s2 s4))) H hs _ fun u G' H' n1 hd => ?_
    rw [dp_bl hd]
    exact q G' H' n1
  · refine (rd_ret (K := K) (d := .bool (false && false)) (ed_and (ed_isiC (i := 1) rfl (fun H s => hx.ty s) (O.kit x)) fun z => nomatch z)) H hs _ fun u G' H' n1 hd => ?_
    rw [dp_bl hd]
    exact q G' H' n1
/-! ### what is no group -/
def spWG (K : PySem.W.Frag) (CB : Addr) : Sp := fun vs H Q E => ∃ (G : Hp) (v : V) (x : PyData), Same G H ∧ vs = [v] ∧ Dp K G v x ∧ ∀ d H', Same H H' → H' d = some (.xd (eF .non)) → E (.ref CB) (some d) H'
theorem ok_want_group (D : DefAt K mg "want_group" s_want_group P_want_group f fd) (T : Bt mg) (t_BadGroup : PySem.SupX.SupTxt P K mg "BadGroup" "part" CB fB) (g_Group : mg "Group" = some (.ref CG)) (O : OwnC K CG) : OkX P w K mg base "want_group" s_want_group P_want_group 3 (spWG K CB) := by
  refine D.okX (D.F.okX sc_want_group (fun vs H Q E h => ?_) fun cdv A outer s H vs Q E hr h => ?_)
  · obtain ⟨G, v, x, _, rfl, _⟩ := h; rfl
  have S := sc_want_group
  obtain ⟨G, v, x, hs, rfl, hv, q⟩ := h
  refine ⟨_, (pss_one (ps_if (pt_not (pt_val (pe_callB (q_isi K rfl) (by rfl) T.isinstance (by decide +kernel) (pa_cons (pv 0) (pa_cons (pe_glob (v := .ref CG) (by rfl) g_Group rfl) pa_nil))))) (pss_one (ps_raise rfl (takes_of rfl rfl rfl rfl) (pmk_sup t_BadGroup hr (pa_cons pe_non pa_nil) (by rfl)))) pss_nil)), ?_⟩
  exact (eb_not (eb_B (ed_isiC (K := K) (G := G) (i := 0) (σ := L2.start N_want_group [v]) rfl (fun H s => dp_ty s hv) (O.kit x)))) H hs _ fun G1 H1 n1 => if_on rfl ⟨_, rfl, fun d hd => q d _ (n1.hh.trans (same_upd hd)) upd_same⟩
end
end Gw
namespace Gw
open PySem PySem.Spec PyProof.Rows L2 LamX
/-! ### groups made -/
def MkX (P : Program) (w : World) (K : PySem.W.Frag) (mg : Str → Option Value) (base : Heap) (x : Str) (ps ks : List Str) (k : Nat) (C : Addr) (sp : Sp) (g : List Value → List Value → List Value) (gV : List V → List V → List V) : Prop :=
  ∃ (f : Addr) (fd : FuncData), mg x = some (.ref C) ∧ Mk K C f ∧ Binds K fd ps [] ∧ KBn K fd ps 1 ks g gV ∧ FnOk P w K mg base (L2.CX P w) k f fd ps sp
def gR {α : Type} : List α → List α → List α := fun us ws => us ++ ws.reverse
theorem gR_rel {vs : List V} {us : List Value} {zs : List V} {ws : List Value} (h : Vals vs us) (h' : Vals zs ws) : Vals (gR vs zs) (gR us ws) := by
  refine h.append ?_
  induction h' with
  | nil => exact .nil
  | cons a t ih => rw [List.reverse_cons, List.reverse_cons]; exact ih.append (.cons a .nil)
section
variable {X : Cx} {x : Str} {ps ks : List Str} {k : Nat} {sp : Sp} {C : Addr} {p pos : Pos} {e : Expr} {es : List Expr} {kws : List Keyword} {t tk : TA} {g : List Value → List Value → List Value} {gV : List V → List V → List V} {E : XK}
theorem pe_mkX (h : MkX X.prog X.w X.K X.mg X.base x ps ks k C sp g gV) (hx : Passes (L2.CX X.prog X.w) X E) (hr : Room (k + 1) X.A) (hg : Gl X x) (ha : PA X (e :: es) t) (hdb : (x == ("__debug__" : Str)) = false := by decide)
    (he : starEach (e :: es) X.env = (false, eval e X.env) :: starEach es X.env := by rfl) (hpl : (backTo pos (starEach es X.env)).any (·.1) = false := by rfl) : PE X (.Call (.Name x p) (e :: es) [] pos) (tMake C sp [] E t) := by
  obtain ⟨f, fd, hm, M, hb, _, F⟩ := h
  exact pe_make M F hr hg hm hb .nil hx ha hdb he hpl
theorem pe_mkK0 (h : MkX X.prog X.w X.K X.mg X.base x ps ks k C sp g gV) (hx : Passes (L2.CX X.prog X.w) X E) (hr : Room (k + 1) X.A) (hg : Gl X x) (hkw : PK X kws tk) (hall : (backToKw pos (keywordEach kws X.env)).all (·.1.isSome) = true := by rfl)
    (hks : (backToKw pos (keywordEach kws X.env)).filterMap (·.1) = ks := by rfl) (hdb : (x == ("__debug__" : Str)) = false := by decide)
    (hpl : ((backTo pos (starEach [] X.env)).any (·.1) || (backToKw pos (keywordEach kws X.env)).any (·.1.isNone)) = false := by rfl) : PE X (.Call (.Name x p) [] kws pos) (tMakeK C 0 ks.length sp gV E tNil tk) := by
  obtain ⟨f, fd, hm, M, _, hk, F⟩ := h
  exact pe_makeK0 M F hr hg hm hk hx hkw hall hks hdb hpl
end
/-! ### over a view -/
/-- te makes (or is) a group of these letters and rules -/
def EvG (K : PySem.W.Frag) (CG : Addr) (te : TE) (σ : L2.St) (G : Hp) (bs rs : List PyData) : Prop := ∀ H, Same G H → ∀ Q : VK, (∀ g G' H', Nx G H G' H' → GrpAt K CG G' g bs rs → Q (.ref g) H') → te σ H Q
section
variable {K : PySem.W.Frag} {CG CB : Addr} {σ : L2.St} {G H : Hp} {tb tr te : TE} {bs rs bs2 rs2 ds : List PyData} {x d : PyData} {E : XK} {i : Nat} {v : V} {g : Addr}
theorem EvG.mono {G1 : Hp} (h : EvG K CG te σ G bs rs) (g : Same G G1) : EvG K CG te σ G1 bs rs := fun H s Q q => h H (g.trans s) Q fun a G' H' m ha => by
  obtain ⟨G2, n2, s2⟩ := m.over g s
  exact q a G2 H' n2 (ha.mono s2)
theorem eg_var (h : σ[i]? = some (some (.ref g))) (hg : GrpAt K CG G g bs rs) : EvG K CG (tVar i) σ G bs rs := fun H s Q q => ⟨_, h, q g G H (Nx.refl s) hg⟩
/-- __init__ at a new place -/
theorem grp_init {G1 H1 : Hp} {vb vr : V} {Q : VK} (s : Same G1 H1) (hb : Dp K G1 vb (.tuple bs)) (hr : Th K G1 vr x) (hy : isBackD (.tuple bs) = true) (hz : bs.length ≤ 1000) (hx : areR bs.length x = true) (hzr : SzR x)
    (q : ∀ g G' H', Nx G1 H1 G' H' → GrpAt K CG G' g bs (itemsOf x) → Q (.ref g) H') : ∀ a dx, H1 a = none → H1 dx = none → dx ≠ a → spGI K CG CB [.ref a, vb, vr] (upd (upd H1 dx (.own a)) a (.ins CG dx [])) (fun v H2 => v = .non ∧ Q (.ref a) H2) E := fun a dx ha hdx hne => by
  have s1 := same_upd (o := .own a) hdx
  have ha' : upd H1 dx (.own a) a = none := (upd_ne (Ne.symm hne)).trans ha
  have s2 := same_upd (o := .ins CG dx []) ha'
  refine ⟨G1, a, dx, vb, vr, .tuple bs, x, (s.trans s1).trans s2, rfl, s.free ha, upd_same, hb, (show bs.length ≤ sizeLine from Nat.le_trans hz (by decide)), hr, hzr, fun _ _ t G' H' gg gh hg hd keep fr => ⟨rfl, ?_⟩, fun z => absurd (hy.symm.trans z) (by decide), fun _ z => absurd (hx.symm.trans z) (by decide)⟩
  have na : G' a = none := (fr a (ne_none upd_same)).trans (s.free ha)
  have sG := same_upd (o := .ins CG dx (gF vb t)) na
  refine q a (upd G' a (.ins CG dx (gF vb t))) H' ⟨gg.trans sG, fun b o e => ?_, fun b o e => ?_, fun b nb => ?_⟩ ⟨dx, vb, t, upd_same, dp_mono (gg.trans sG) _ hb, dp_mono sG _ hd⟩
  · by_cases hba : b = a
    · subst hba
      rw [upd_same] at e
      cases e
      exact hg
    · rw [upd_ne hba] at e
      exact gh _ _ e
  · have hba : b ≠ a := ne_of_none e ha
    exact keep b o hba (s2 _ _ (s1 _ _ e))
  · have hba : b ≠ a := fun z => nb (by rw [z]; exact ha)
    rw [upd_ne hba]
    refine fr b ?_
    rw [upd_ne hba]
    by_cases hbd : b = dx
    · exact absurd (hbd ▸ hdx) nb
    · rw [upd_ne hbd]; exact nb
theorem eg_make (hb : EvD K tb σ G (.tuple bs)) (hr : EvD K tr σ G x) (hy : isBackD (.tuple bs) = true) (hz : bs.length ≤ 1000) (hx : areR bs.length x = true) (hzr : SzR x) : EvG K CG (tMake CG (spGI K CG CB) [] E (tCons tb (tCons tr tNil))) σ G bs (itemsOf x) := fun H s Q q =>
  hb H s _ fun vb G1 H1 n1 h1 => (hr.mono n1.gg) H1 n1.gh _ fun vr G2 H2 n2 h2 => grp_init n2.gh (dp_mono n2.gg _ h1) (.inl h2) hy hz hx hzr fun g G' H' n ha => q g G' H' ((n1.trans n2).trans n) ha
theorem eg_makeK (hb : EvD K tb σ G (.tuple bs)) (hr : EvD K tr σ G x) (hy : isBackD (.tuple bs) = true) (hz : bs.length ≤ 1000) (hx : areR bs.length x = true) (hzr : SzR x) : EvG K CG (tMakeK CG 0 2 (spGI K CG CB) gR E tNil (tCons tr (tCons tb tNil))) σ G bs (itemsOf x) := fun H s Q q =>
  hr H s _ fun vr G1 H1 n1 h1 => (hb.mono n1.gg) H1 n1.gh _ fun vb G2 H2 n2 h2 => ⟨rfl, rfl, grp_init n2.gh h2 (.inl (dp_mono n2.gg _ h1)) hy hz hx hzr fun g G' H' n ha => q g G' H' ((n1.trans n2).trans n) ha⟩
theorem seq_letG {i : Nat} {u : TS} {D : Ends} (h : EvG K CG te σ G bs rs) (s : Same G H) (k : ∀ g G1 H1, Nx G H G1 H1 → GrpAt K CG G1 g bs rs → u D (σ.set i (some (.ref g))) H1) : tSeq (tAsg te (gName i)) u D σ H := h H s _ fun g G1 H1 n hg => k g G1 H1 n hg
theorem ed_gb (O : OwnC K CG) (na : NoAttr K CG "back") (h : EvG K CG te σ G bs rs) : EvD K (tFld K te "back") σ G (.tuple bs) := fun H s Q q => h H s _ fun g G1 H1 n ⟨dx, vb, vr, h1, h2, h3⟩ =>
  ⟨g, CG, dx, _, vb, rfl, n.gh _ _ h1, O.cl, na, look_back, q vb G1 H1 n h2⟩
theorem ed_gr (O : OwnC K CG) (nr : NoAttr K CG "rules") (h : EvG K CG te σ G bs rs) : EvD K (tFld K te "rules") σ G (.tuple rs) := fun H s Q q => h H s _ fun g G1 H1 n ⟨dx, vb, vr, h1, h2, h3⟩ =>
  ⟨g, CG, dx, _, vr, rfl, n.gh _ _ h1, O.cl, nr, look_rules, q vr G1 H1 n h3⟩
structure ShG (bs rs : List PyData) : Prop where
  b : SeqAt.shaped (.tuple bs) = true
  r : SeqAt.shaped (.tuple rs) = true
def eqG (bs rs bs2 rs2 : List PyData) : Bool := PyData.eqv (.tuple bs) (.tuple bs2) && PyData.eqv (.tuple rs) (.tuple rs2)
/-- group == group -/
theorem ed_gg {t2 : TE} {c : Bool → Bool} (O : OwnC K CG) (h1 : EvG K CG te σ G bs rs) (h2 : EvG K CG t2 σ G bs2 rs2) (w1 : ShG bs rs) (w2 : ShG bs2 rs2) : EvD K (tOp (rOwnEq K CG (spEQ K CG) E c) te t2) σ G (.bool (c (eqG bs rs bs2 rs2))) := fun H s Q q =>
  h1 H s _ fun g G1 H1 n1 hg => (h2.mono n1.gg) H1 n1.gh _ fun g2 G2 H2 n2 hg2 => by
    have hg' := hg.mono n2.gg
    obtain ⟨dx, vb, vr, e1, _⟩ := hg'
    obtain ⟨dx2, vb2, vr2, e2, _⟩ := id hg2
    exact ⟨g, dx, _, _, rfl, n2.gh _ _ e1, O.tyx (n2.gh _ _ e2), (by show (_ || _) = true; rw [Bool.or_eq_true]; left; exact beq_self_eq_true _), G2, g, _, bs, rs, n2.gh, rfl, hg.mono n2.gg, .inl ⟨g2, bs2, rs2, rfl, hg2, w1.b, w1.r, w2.b, w2.r, fun G' H' n => ⟨_, rfl, q _ G' H' ((n1.trans n2).trans n) (.bl _)⟩⟩⟩
/-- group == data -/
theorem ed_gd {t2 : TE} {c : Bool → Bool} (O : OwnC K CG) (h1 : EvG K CG te σ G bs rs) (h2 : EvD K t2 σ G x) : EvD K (tOp (rOwnEq K CG (spEQ K CG) E c) te t2) σ G (.bool (c false)) := fun H s Q q =>
  h1 H s _ fun g G1 H1 n1 hg => (h2.mono n1.gg) H1 n1.gh _ fun v G2 H2 n2 hv => by
    obtain ⟨dx, vb, vr, e1, _⟩ := hg.mono n2.gg
    exact ⟨g, dx, _, _, rfl, n2.gh _ _ e1, dp_ty n2.gh hv, O.nf x, G2, g, v, bs, rs, n2.gh, rfl, hg.mono n2.gg, .inr ⟨x, .inl hv, fun G' H' n => ⟨_, rfl, q _ G' H' ((n1.trans n2).trans n) (.bl _)⟩⟩⟩
theorem ro_neB {a b : Bool} : ROp K rNe (.bool a) (.bool b) (.bool (a != b)) := fun G H s vx vy hx hy Q q => by
  rw [dp_bl hx, dp_bl hy]
  refine ⟨rfl, ?_⟩
  have e : (!decide (V.bl a = V.bl b)) = (a != b) := by cases a <;> cases b <;> rfl
  rw [e]
  exact q _ G H (Nx.refl s) (.bl _)
end
end Gw
namespace Gw
open PySem PySem.Spec PyProof.Rows L2 LamX
/-! ### rows that may be shown -/
def rowD (r : List Int) : PyData := .tuple (r.map .int)
theorem small_len {x : Int} (h : 0 ≤ x ∧ x < 12) : (PyData.shown (.int x)).length ≤ 2 := by
  have e : ∀ k : Fin 12, (PyData.shown (.int (k.val : Int))).length ≤ 2 := by decide +kernel
  have := e ⟨x.toNat, by omega⟩
  rwa [show ((x.toNat : Nat) : Int) = x by omega] at this
theorem piled_small : ∀ {ws : List Int}, Letters 12 ws → piled (PyData.shownAll (ws.map .int)) ≤ 4 * ws.length
  | [], _ => by simp [PyData.shownAll, piled]
  | x :: ws, h => by
    have h1 := small_len (h x List.mem_cons_self)
    have h2 := piled_small (ws := ws) fun y hy => h y (List.mem_cons_of_mem _ hy)
    rw [List.map_cons, PyData.shownAll]
    simp only [piled, List.map_cons, List.sum_cons, List.length_cons] at h2 ⊢
    omega
theorem tuple_len (ts : List Str) : (tupleText ts).length ≤ piled ts + 3 := by
  have hl : ∀ b : Bool, ((if b = true then ",)" else ")" : String) : Str).length ≤ 2 := fun b => by cases b <;> decide
  unfold tupleText
  rw [strLen_append, strLen_append]
  have h1 : ((("(" : String) : Str)).length = 1 := by decide
  have h2 := hl (ts.length == 1)
  cases ts with
  | nil =>
    have : (Str.join ", " []).length = 0 := by decide
    omega
  | cons t r =>
    have := join_length_add (t :: r) (by simp)
    omega
theorem shown_row {ws : List Int} (h : Letters 12 ws) : (rowD ws).shown.length ≤ 4 * ws.length + 3 := by
  have h1 := piled_small h
  have h2 := tuple_len (PyData.shownAll (ws.map .int))
  show (tupleText (PyData.shownAll (ws.map .int))).length ≤ _
  omega
theorem showable_row : ∀ {ws : List Int}, Letters 12 ws → PyData.showableAll (ws.map .int) = true
  | [], _ => by simp [PyData.showableAll]
  | x :: ws, h => by
    have hx := h x List.mem_cons_self
    have h2 := showable_row (ws := ws) fun y hy => h y (List.mem_cons_of_mem _ hy)
    rw [List.map_cons, PyData.showableAll, h2, Bool.and_true]
    show decide (x.natAbs.log2 < 1920) = true
    refine decide_eq_true ?_
    have : x.natAbs.log2 ≤ x.natAbs := Nat.log2_le_self _
    omega
theorem nodict_row : ∀ (ws : List Int), PyData.hasDictAll (ws.map .int) = false
  | [] => by simp [PyData.hasDictAll]
  | x :: ws => by
    rw [List.map_cons, PyData.hasDictAll, nodict_row ws]
    simp [PyData.hasDict]
theorem depth_row : ∀ (ws : List Int), PyData.depthAll (ws.map .int) = 0
  | [] => rfl
  | x :: ws => by
    rw [List.map_cons, PyData.depthAll, depth_row ws]
    rfl
theorem showy_row {ws : List Int} (h : Letters 12 ws) (hl : ws.length ≤ 1000) : Showy (rowD ws) where
  s := by
    show (PyData.tuple (ws.map .int)).showable = true
    simp only [PyData.showable]
    exact showable_row h
  n := by
    show (PyData.tuple (ws.map .int)).hasDict = false
    simp only [PyData.hasDict]
    exact nodict_row ws
  z := by
    have := shown_row h
    exact Nat.le_trans (by omega : _ ≤ 5000) (by decide)
  p := by
    show (PyData.tuple (ws.map .int)).depth ≤ 60
    rw [PyData.depth, depth_row]
    omega
/-! ### rules as data -/
def ruleD (r : List Int × List Int) : PyData := .tuple [.tuple (r.1.map .int), .tuple (r.2.map .int)]
def RulesOk (n : Nat) (rs : List (List Int × List Int)) : Prop := ∀ r ∈ rs, r.1.length ≤ 40 ∧ r.2.length ≤ 40 ∧ Letters n r.1 ∧ Letters n r.2
theorem Letters.le {n m : Nat} {ws : List Int} (h : Letters n ws) (l : n ≤ m) : Letters m ws := fun x hx => by have := h x hx; omega
theorem RulesOk.le {n m : Nat} {rs : List (List Int × List Int)} (h : RulesOk n rs) (l : n ≤ m) : RulesOk m rs := fun r hr => by
  obtain ⟨h1, h2, h3, h4⟩ := h r hr
  exact ⟨h1, h2, h3.le l, h4.le l⟩
theorem RulesOk.app {n : Nat} {rs ss : List (List Int × List Int)} (h : RulesOk n rs) (h' : RulesOk n ss) : RulesOk n (rs ++ ss) := fun r hr => (List.mem_append.mp hr).elim (h r) (h' r)
theorem inR_let {n : Nat} {ws : List Int} (h : Letters n ws) : (ws.map PyData.int).all (inR 0 ((n : Int) - 1)) = true := by
  rw [List.all_eq_true]
  intro d hd
  obtain ⟨z, hz, rfl⟩ := List.mem_map.mp hd
  have := h z hz
  show (decide (0 ≤ z) && decide (z ≤ (n : Int) - 1)) = true
  rw [decide_eq_true (by omega : 0 ≤ z), decide_eq_true (by omega : z ≤ (n : Int) - 1)]
  rfl
theorem isShort_let {n : Nat} {ws : List Int} (h : Letters n ws) (hl : ws.length ≤ 40) : isShort n 40 (.tuple (ws.map .int)) = true := by
  show (decide (((ws.map PyData.int).length : Int) ≤ 40) && (ws.map PyData.int).all (inR 0 ((n : Int) - 1))) = true
  rw [inR_let h, List.length_map, decide_eq_true (by omega : (ws.length : Int) ≤ 40)]
  rfl
theorem isRule_ok {n : Nat} {r : List Int × List Int} (h : r.1.length ≤ 40 ∧ r.2.length ≤ 40 ∧ Letters n r.1 ∧ Letters n r.2) : isRuleD n (ruleD r) = true := by
  obtain ⟨h1, h2, h3, h4⟩ := h
  show (decide (2 = 2) && (isShort n 40 (.tuple (r.1.map .int)) && (isShort n 40 (.tuple (r.2.map .int)) && true))) = true
  rw [isShort_let h3 h1, isShort_let h4 h2]
  rfl
theorem rules_ok {n : Nat} {rs : List (List Int × List Int)} (h : RulesOk n rs) (hl : rs.length ≤ 40) : rulesD n (rs.map ruleD) = true := by
  have e : (rs.map ruleD).all (isRuleD n) = true := by
    rw [List.all_eq_true]
    intro d hd
    obtain ⟨r, hr, rfl⟩ := List.mem_map.mp hd
    exact isRule_ok (h r hr)
  show (decide ((rs.map ruleD).length ≤ 40) && (rs.map ruleD).all (isRuleD n)) = true
  rw [e, List.length_map, decide_eq_true hl]
  rfl
theorem areL_ok {n : Nat} {rs : List (List Int × List Int)} (h : RulesOk n rs) (hl : rs.length ≤ 40) : areR n (.list (rs.map ruleD)) = true := (Bool.true_and _).trans (rules_ok h hl)
theorem areT_ok {n : Nat} {rs : List (List Int × List Int)} (h : RulesOk n rs) (hl : rs.length ≤ 40) : areR n (.tuple (rs.map ruleD)) = true := (Bool.true_and _).trans (rules_ok h hl)
theorem szi_rule {r : List Int × List Int} (h1 : r.1.length ≤ 1000) (h2 : r.2.length ≤ 1000) : SzI (ruleD r) := fun ds e => by
  cases e
  refine ⟨by show 2 ≤ 1000; decide, fun x hx => ?_⟩
  have big : 1000 ≤ sizeLine := by decide
  simp only [List.mem_cons, List.not_mem_nil, or_false] at hx
  rcases hx with rfl | rfl
  · show (r.1.map PyData.int).length ≤ _; rw [List.length_map]; omega
  · show (r.2.map PyData.int).length ≤ _; rw [List.length_map]; omega
theorem szi_rules {n : Nat} {rs : List (List Int × List Int)} (h : RulesOk n rs) : ∀ d ∈ rs.map ruleD, SzI d := fun d hd => by
  obtain ⟨r, hr, rfl⟩ := List.mem_map.mp hd
  obtain ⟨h1, h2, _⟩ := h r hr
  exact szi_rule (by omega) (by omega)
theorem szL {n : Nat} {rs : List (List Int × List Int)} (h : RulesOk n rs) (hl : rs.length ≤ 1000) : SzR (.list (rs.map ruleD)) := ⟨by show (rs.map ruleD).length ≤ _; rw [List.length_map]; exact hl, szi_rules h⟩
theorem szT {n : Nat} {rs : List (List Int × List Int)} (h : RulesOk n rs) (hl : rs.length ≤ 1000) : SzR (.tuple (rs.map ruleD)) := ⟨by show (rs.map ruleD).length ≤ _; rw [List.length_map]; exact hl, szi_rules h⟩
/-! equal -/
theorem eqvAll_ints : ∀ ws : List Int, PyData.eqvAll (ws.map .int) (ws.map .int) = true
  | [] => by simp [PyData.eqvAll]
  | x :: ws => by rw [List.map_cons, PyData.eqvAll, eqvAll_ints ws]; simp [PyData.eqv]
theorem eqvAll_rules : ∀ rs : List (List Int × List Int), PyData.eqvAll (rs.map ruleD) (rs.map ruleD) = true
  | [] => by simp [PyData.eqvAll]
  | r :: rs => by
    rw [List.map_cons, PyData.eqvAll, eqvAll_rules rs]
    simp [ruleD, PyData.eqv, PyData.eqvAll, eqvAll_ints]
theorem eqvAll_len : ∀ {xs ys : List PyData}, xs.length ≠ ys.length → PyData.eqvAll xs ys = false
  | [], [], h => absurd rfl h
  | [], _ :: _, _ => by simp [PyData.eqvAll]
  | _ :: _, [], _ => by simp [PyData.eqvAll]
  | x :: xs, y :: ys, h => by
    rw [PyData.eqvAll, eqvAll_len (xs := xs) (ys := ys) (fun z => h (by rw [List.length_cons, List.length_cons, z]))]
    simp
theorem eqvT (xs ys : List PyData) : PyData.eqv (.tuple xs) (.tuple ys) = PyData.eqvAll xs ys := by rw [PyData.eqv]
theorem eqvL (xs ys : List PyData) : PyData.eqv (.list xs) (.list ys) = PyData.eqvAll xs ys := by rw [PyData.eqv]
/-! shaped -/
theorem lay_rule (r : List Int × List Int) : (ruleD r).canLay0 = true ∧ (ruleD r).depth ≤ 2 := by
  have c1 : ∀ ws : List Int, PyData.canLayAll0 (ws.map .int) = true := fun ws => by
    induction ws with
    | nil => rfl
    | cons x ws ih => rw [List.map_cons, PyData.canLayAll0, ih]; rfl
  constructor
  · simp [ruleD, PyData.canLay0, PyData.canLayAll0, c1]
  · simp only [ruleD, PyData.depth, PyData.depthAll, depth_row]
    decide
theorem shaped_rules (rs : List (List Int × List Int)) : SeqAt.shaped (.tuple (rs.map ruleD)) = true ∧ SeqAt.shaped (.list (rs.map ruleD)) = true := by
  have e1 : PyData.canLayAll0 (rs.map ruleD) = true := by
    induction rs with
    | nil => rfl
    | cons r rs ih => rw [List.map_cons, PyData.canLayAll0, ih, (lay_rule r).1]; rfl
  have e2 : PyData.depthAll (rs.map ruleD) ≤ 2 := by
    induction rs with
    | nil => decide
    | cons r rs ih =>
      have := ih (by
        rw [List.map_cons, PyData.canLayAll0, Bool.and_eq_true] at e1
        exact e1.2)
      rw [List.map_cons, PyData.depthAll]
      exact Nat.max_le.mpr ⟨(lay_rule r).2, this⟩
  constructor
  · simp only [SeqAt.shaped, PyData.canLay0, PyData.depth, e1, Bool.true_and]
    exact decide_eq_true (by omega)
  · simp only [SeqAt.shaped, PyData.canLay0, PyData.depth, e1, Bool.true_and]
    exact decide_eq_true (by omega)
theorem shG (bs : List Int) (rs : List (List Int × List Int)) : ShG (bs.map .int) (rs.map ruleD) := ⟨shaped_intsT bs, (shaped_rules rs).1⟩
/-! shown -/
theorem shown_rule {r : List Int × List Int} (h1 : Letters 12 r.1) (h2 : Letters 12 r.2) : (ruleD r).shown.length ≤ 4 * r.1.length + 4 * r.2.length + 13 := by
  have e1 := shown_row h1
  have e2 := shown_row h2
  have e3 := tuple_len (PyData.shownAll [rowD r.1, rowD r.2])
  have e4 : (ruleD r).shown = tupleText (PyData.shownAll [rowD r.1, rowD r.2]) := rfl
  rw [e4]
  have e5 : piled (PyData.shownAll [rowD r.1, rowD r.2]) = ((rowD r.1).shown.length + 2) + ((rowD r.2).shown.length + 2) := by
    simp [PyData.shownAll, piled]
  omega
theorem piled_rules : ∀ {rs : List (List Int × List Int)}, RulesOk 12 rs → piled (PyData.shownAll (rs.map ruleD)) ≤ 400 * rs.length
  | [], _ => by simp [PyData.shownAll, piled]
  | r :: rs, h => by
    obtain ⟨h1, h2, h3, h4⟩ := h r List.mem_cons_self
    have e1 := shown_rule h3 h4
    have e2 := piled_rules (rs := rs) fun y hy => h y (List.mem_cons_of_mem _ hy)
    rw [List.map_cons, PyData.shownAll]
    simp only [piled, List.map_cons, List.sum_cons, List.length_cons] at e2 ⊢
    omega
theorem showable_rules : ∀ {rs : List (List Int × List Int)}, RulesOk 12 rs → PyData.showableAll (rs.map ruleD) = true
  | [], _ => by simp [PyData.showableAll]
  | r :: rs, h => by
    obtain ⟨h1, h2, h3, h4⟩ := h r List.mem_cons_self
    have e2 := showable_rules (rs := rs) fun y hy => h y (List.mem_cons_of_mem _ hy)
    rw [List.map_cons, PyData.showableAll, e2, Bool.and_true]
    simp [ruleD, PyData.showable, PyData.showableAll, showable_row h3, showable_row h4]
theorem nodict_rules : ∀ (rs : List (List Int × List Int)), PyData.hasDictAll (rs.map ruleD) = false
  | [] => by simp [PyData.hasDictAll]
  | r :: rs => by
    rw [List.map_cons, PyData.hasDictAll, nodict_rules rs]
    simp [ruleD, PyData.hasDict, PyData.hasDictAll, nodict_row]
theorem depth_rules : ∀ (rs : List (List Int × List Int)), PyData.depthAll (rs.map ruleD) ≤ 2
  | [] => by decide
  | r :: rs => by
    rw [List.map_cons, PyData.depthAll]
    exact Nat.max_le.mpr ⟨(lay_rule r).2, depth_rules rs⟩
theorem showy_group {bs : List Int} {rs : List (List Int × List Int)} (hb : Letters 12 bs) (hl : bs.length ≤ 100) (hr : RulesOk 12 rs) (hk : rs.length ≤ 10) : Showy (.tuple [.tuple (bs.map .int), .tuple (rs.map ruleD)]) where
  s := by simp [PyData.showable, PyData.showableAll, showable_row hb, showable_rules hr]
  n := by simp [PyData.hasDict, PyData.hasDictAll, nodict_row, nodict_rules]
  z := by
    have e1 := shown_row hb
    have e2 := tuple_len (PyData.shownAll (rs.map ruleD))
    have e3 := piled_rules hr
    have e4 := tuple_len (PyData.shownAll [rowD bs, .tuple (rs.map ruleD)])
    have e5 : piled (PyData.shownAll [rowD bs, .tuple (rs.map ruleD)]) = ((rowD bs).shown.length + 2) + ((tupleText (PyData.shownAll (rs.map ruleD))).length + 2) := by
      simp [PyData.shownAll, piled, PyData.shown]
    have e6 : (PyData.tuple [.tuple (bs.map .int), .tuple (rs.map ruleD)]).shown = tupleText (PyData.shownAll [rowD bs, .tuple (rs.map ruleD)]) := rfl
    rw [e6]
    exact Nat.le_trans (by omega : _ ≤ 5000) (by decide)
  p := by
    have := depth_rules rs
    simp only [PyData.depth, PyData.depthAll, depth_row]
    omega
/-! backs -/
theorem IsBk.snoc {bs : List Int} (B : IsBk bs) (h : bs.length ≤ 11) : IsBk (bs ++ [(bs.length : Int)]) where
  two := by rw [List.length_append]; have := B.two; omega
  six := by rw [List.length_append]; simp only [List.length_cons, List.length_nil]; omega
  inv := fun k hk => by
    rw [List.length_append] at hk
    simp only [List.length_cons, List.length_nil] at hk
    by_cases hkl : k < bs.length
    · obtain ⟨j, h1, h2⟩ := B.inv k hkl
      have hj : j < bs.length := by
        rcases Nat.lt_or_ge j bs.length with z | z
        · exact z
        · rw [List.getElem?_eq_none z] at h2; cases h2
      exact ⟨j, by rw [List.getElem?_append_left hkl]; exact h1, by rw [List.getElem?_append_left hj]; exact h2⟩
    · have e : k = bs.length := by omega
      subst e
      exact ⟨bs.length, by simp, by simp⟩
/-! ### lists of the heap that are written -/
section
variable {K : PySem.W.Frag} {H : Hp} {p : Addr} {ys : List V} {o : HO}
theorem sqT_updL {a : Addr} {xs : List V} (hp : H p = some (.lst ys)) (h : SqT K H a xs) : SqT K (upd H p o) a xs := by
  rcases h with (h | ⟨u, h⟩) | h
  · exact .inl (.inl ((upd_ne (fun z => by rw [z, hp] at h; cases h)).trans h))
  · exact .inl (.inr ⟨u, (upd_ne (fun z => by rw [z, hp] at h; cases h)).trans h⟩)
  · exact .inr h
mutual
theorem dp_updL (hp : H p = some (.lst ys)) : ∀ (x : PyData) {v : V}, noL x = true → Dp K H v x → Dp K (upd H p o) v x
  | .none, _, _, .non => .non
  | .bool b, _, _, .bl _ => .bl b
  | .int i, _, _, .int _ => .int i
  | .str x, _, _, .str _ => .str x
  | .tuple ds, _, z, .tup hs ha => .tup (sqT_updL hp hs) (dpa_updL hp ds (by rw [noL] at z; exact z) ha)
theorem dpa_updL (hp : H p = some (.lst ys)) : ∀ (ds : List PyData) {vs : List V}, noLA ds = true → DpAll K H vs ds → DpAll K (upd H p o) vs ds
  | [], _, _, .nil => .nil
  | x :: ds, _, z, .cons h t => by
    rw [noLA, Bool.and_eq_true] at z
    exact .cons (dp_updL hp x z.1 h) (dpa_updL hp ds z.2 t)
end
theorem tabs_updL {T : List (Addr × Str)} (t : Tabs T H) (hp : H p = some (.lst ys)) : Tabs T (upd H p o) := fun q hq => by
  obtain ⟨ps, h1, h2, h3⟩ := t q hq
  refine ⟨ps, (upd_ne (fun z => by rw [z, hp] at h1; cases h1)).trans h1, h2, fun pos cv hc => ?_⟩
  obtain ⟨c0, e1, e2⟩ := h3 pos cv hc
  exact ⟨c0, e1, (upd_ne (fun z => by rw [z, hp] at e2; cases e2)).trans e2⟩
theorem noL_rule (r : List Int × List Int) : noL (ruleD r) = true := by simp [ruleD, noL, noLA, noLA_ints]
theorem noLA_rules : ∀ rs : List (List Int × List Int), noLA (rs.map ruleD) = true
  | [] => rfl
  | r :: rs => by rw [List.map_cons, noLA, noLA_rules rs, noL_rule]; rfl
theorem GrpAt.updL {CG g : Addr} {bs rs : List PyData} (hp : H p = some (.lst ys)) (nb : noLA bs = true) (nr : noLA rs = true) (h : GrpAt K CG H g bs rs) : GrpAt K CG (upd H p o) g bs rs := by
  obtain ⟨dx, vb, vr, h1, h2, h3⟩ := h
  exact ⟨dx, vb, vr, (upd_ne (fun z => by rw [z, hp] at h1; cases h1)).trans h1, dp_updL hp _ (by rw [noL]; exact nb) h2, dp_updL hp _ (by rw [noL]; exact nr) h3⟩
end
section
variable {K : PySem.W.Frag} {σ : L2.St} {G : Hp} {te tl tr : TE} {ds es : List PyData} {i : Nat}
theorem en_revL (h : EvD K te σ G (.list ds)) : EvN K (tRevL K te) σ G ds.reverse := fun H s Q q => h H s _ fun v G1 H1 n1 hv => by
  cases hv with
  | @lst a xs _ hs ha => exact ⟨a, xs, rfl, n1.gh.seq hs, fun p hp => q p xs.reverse G1 _ (n1.trans (Nx.lay n1.gh hp)) (n1.hh.free hp) (n1.gh.free hp) upd_same (dpa_reverse ha)⟩
/-- a list of this view and a new one -/
theorem en_cat {l : Addr} {xs : List V} (h : σ[i]? = some (some (.ref l))) (hl : G l = some (.lst xs)) (ha : DpAll K G xs ds) (hr : EvN K tr σ G es) (hz : ds.length + es.length ≤ sizeLine) : EvN K (tOp rCat (tVar i) tr) σ G (ds ++ es) := fun H s Q q =>
  ⟨_, h, hr H s _ fun p vs G' H' n hp gp e hv => ⟨l, p, xs, vs, rfl, rfl, n.hh _ _ (s _ _ hl), e, by rw [dpa_length ha, dpa_length hv]; exact hz, fun p2 hp2 =>
    q p2 (xs ++ vs) G' _ (n.trans (Nx.lay n.gh hp2)) (n.hh.free hp2) (n.gh.free hp2) upd_same (dpa_append (dpa_mono n.gg _ ha) hv)⟩⟩
theorem en_rep {k : Int} (h : EvN K tl σ G ds) (h0 : 0 ≤ k) (h1 : k ≤ 1000) (hz : ds.length ≤ 1000) : EvN K (tOp rRep tl (tC (.int k))) σ G (List.replicate k.toNat ds).flatten := fun H s Q q =>
  h H s _ fun p vs G' H' n hp gp e hv => ⟨p, k, vs, rfl, rfl, e, by omega, by omega, by
    rw [dpa_length hv]
    have h2 : ds.length * k.toNat ≤ 1000 * 1000 := Nat.mul_le_mul hz (by omega)
    exact Nat.le_trans h2 (by decide), fun p2 hp2 => q p2 _ G' _ (n.trans (Nx.lay n.gh hp2)) (n.hh.free hp2) (n.gh.free hp2) upd_same (by
      have rep : ∀ m : Nat, DpAll K G' (List.replicate m vs).flatten (List.replicate m ds).flatten := fun m => by
        induction m with
        | zero => exact .nil
        | succ m ih => rw [List.replicate_succ, List.replicate_succ, List.flatten_cons, List.flatten_cons]; exact dpa_append hv ih
      exact rep _)⟩
end
end Gw
namespace Gw
open PySem PySem.Spec PyProof.Rows L2 LamX
/-! ### groups refused -/
section
variable {K : PySem.W.Frag} {CG CB : Addr} {V0 H : Hp} {vb vr : V} {y x : PyData} {E : XK} {Q : VK} {p : Str}
theorem grp_raise (s : Same V0 H) (hb : Dp K V0 vb y) (hy : Sized y) (hr : Th K V0 vr x) (hz : SzR x) (hc : (isBackD y = false ∧ p = "back") ∨ (isBackD y = true ∧ areR (lenOf y) x = false ∧ p = "rules"))
    (k : ∀ d H', Same H H' → H' d = some (.xd (eF (.str p))) → E (.ref CB) (some d) H') : ∀ a dx, H a = none → H dx = none → dx ≠ a → spGI K CG CB [.ref a, vb, vr] (upd (upd H dx (.own a)) a (.ins CG dx [])) Q E := fun a dx ha hdx hne => by
  have s1 := same_upd (o := .own a) hdx
  have ha' : upd H dx (.own a) a = none := (upd_ne (Ne.symm hne)).trans ha
  have s2 := same_upd (o := .ins CG dx []) ha'
  refine ⟨V0, a, dx, vb, vr, y, x, (s.trans s1).trans s2, rfl, s.free ha, upd_same, hb, hy, hr, hz, fun z1 z2 => ?_, fun z1 d H' sm hd => ?_, fun z1 z2 d H' sm hd => ?_⟩
  · rcases hc with ⟨c1, _⟩ | ⟨c1, c2, _⟩
    · exact absurd (c1.symm.trans z1) (by decide)
    · exact absurd (c2.symm.trans z2) (by decide)
  · rcases hc with ⟨c1, rfl⟩ | ⟨c1, c2, _⟩
    · exact k d H' ((s1.trans s2).trans sm) hd
    · exact absurd (c1.symm.trans z1) (by decide)
  · rcases hc with ⟨c1, _⟩ | ⟨c1, c2, rfl⟩
    · exact absurd (c1.symm.trans z1) (by decide)
    · exact k d H' ((s1.trans s2).trans sm) hd
end
/-! ### what was caught -/
section
variable {K : PySem.W.Frag} {CB ae d : Addr} {H : Hp} {σ : L2.St} {i : Nat} {t : TS} {D : Ends} {p : Str}
theorem chk_part (h : σ[i]? = some (some (.ref ae))) (ha : H ae = some (ErrO (.ref CB) (some d) ae)) (hd : H d = some (.xd (eF (.str p)))) (EB : ExcC K CB) (kB : PySem.W.kitOne K (.ref CB) (.ref CB) = some true) (k : D.nx σ H) :
    tIfS (tOr (tNot (tB (tCB (rIsC2 K) (tCons (tVar i) (tCons (tC (.ref CB)) tNil))))) (tTest (tOp rNe (tErrFld CB "part" (tVar i)) (tC (.str p))))) t tNext D σ H := by
  refine ⟨_, h, .inr ⟨ae, CB, CB, some d, true, rfl, ha, fun dd e => by cases e; exact ⟨_, hd⟩, EB, kB, true, rfl, ?_⟩⟩
  show if (!true) = true then _ else _
  refine iteF ?_
  refine ⟨_, h, ae, d, .str p, rfl, ha, hd, rfl, _, rfl, if_off ?_ (nx_of k)⟩
  simp
theorem chk_none (h : σ[i]? = some (some (.ref ae))) (ha : H ae = some (ErrO (.ref CB) (some d) ae)) (hd : H d = some (.xd (eF .non))) (EB : ExcC K CB) (kB : PySem.W.kitOne K (.ref CB) (.ref CB) = some true) (k : D.nx σ H) :
    tIfS (tOr (tNot (tB (tCB (rIsC2 K) (tCons (tVar i) (tCons (tC (.ref CB)) tNil))))) (tTest (tOp (fun x y H Q => y = .non ∧ Q (.bl (!decide (x = .non))) H) (tErrFld CB "part" (tVar i)) (tC .non)))) t tNext D σ H := by
  refine ⟨_, h, .inr ⟨ae, CB, CB, some d, true, rfl, ha, fun dd e => by cases e; exact ⟨_, hd⟩, EB, kB, true, rfl, ?_⟩⟩
  show if (!true) = true then _ else _
  refine iteF ?_
  refine ⟨_, h, ae, d, .non, rfl, ha, hd, rfl, _, rfl, if_off ?_ (nx_of k)⟩
  simp
end
/-! ### lists of things, one behind the other -/
section
variable {K : PySem.W.Frag} {σ : L2.St} {G : Hp} {te : TE} {tA : TA} {ds es : List PyData} {n : Nat} {i : Nat}
theorem ThA.mono {G' : Hp} {vs : List V} (h : ThA K G vs ds) (s : Same G G') : ThA K G' vs ds := fun i v e => by
  obtain ⟨x, h1, h2⟩ := h i v e
  exact ⟨x, h1, h2.mono s⟩
theorem ThA.append {vs ws : List V} (h : ThA K G vs ds) (l : vs.length = ds.length) (h' : ThA K G ws es) : ThA K G (vs ++ ws) (ds ++ es) := fun i v e => by
  rcases Nat.lt_or_ge i vs.length with z | z
  · rw [List.getElem?_append_left z] at e
    rw [List.getElem?_append_left (by omega)]
    exact h i v e
  · rw [List.getElem?_append_right z] at e
    rw [List.getElem?_append_right (by omega), ← l]
    exact h' _ v e
theorem ThA.noT {vs : List V} (h : ThA K G vs ds) : ThA K (Gw.noT G) vs ds := fun i v e => by
  obtain ⟨x, h1, h2⟩ := h i v e
  exact ⟨x, h1, th_noT h2⟩
theorem seq_letT {j : Nat} {u : TS} {D : Ends} {H : Hp} (h : EvT K tA σ G n ds) (s : Same G H) (hz : n ≤ sizeLine)
    (k : ∀ p vs G1 H1, Nx G H G1 H1 → H1 p = some (.lst vs) → vs.length = n → ThA K G1 vs ds → u D (σ.set j (some (.ref p))) H1) : tSeq (tAsg (tLst tA) (gName j)) u D σ H := h H s _ fun vs G' H' m hl ht => ⟨by rw [hl]; exact hz, fun p hp => by
      have n2 := Nx.new (o := .lst vs) m.gh hp
      exact k p vs _ _ (m.trans n2) upd_same hl fun i v e => by
        obtain ⟨x, e1, e2⟩ := ht i v e
        exact ⟨x, e1, e2.mono n2.gg⟩⟩
/-- for .. in a list of this view and a new one -/
theorem seq_forC {l : Addr} {xs : List V} {g : TG} {tb u : TS} {D : Ends} {H : Hp} (h : σ[i]? = some (some (.ref l))) (hl : G l = some (.lst xs)) (lx : xs.length = ds.length) (ha : ThA K G xs ds) (hr : EvT K tA σ G n es) (s : Same G H) (hz : xs.length + n ≤ sizeLine)
    (k : ∀ p vs G1 H1, Nx G H G1 H1 → H1 p = some (.lst vs) → ThA K G1 vs (ds ++ es) → tFor (iList K (tC (.ref p))) g tb { D with nx := u D } σ H1) : tSeq (tFor (iList K (tOp rCat (tVar i) (tLst tA))) g tb) u D σ H :=
  ⟨_, h, hr H s _ fun vs G' H' m hl2 ht => ⟨by rw [hl2]; omega, fun p hp => by
    have n2 := Nx.new (o := .lst vs) m.gh hp
    refine ⟨l, p, xs, vs, rfl, rfl, (m.trans n2).hh _ _ (s _ _ hl), upd_same, by rw [hl2]; exact hz, fun p2 hp2 => ?_⟩
    have n3 := Nx.new (o := .lst (xs ++ vs)) n2.gh hp2
    have nn := (m.trans n2).trans n3
    exact k p2 (xs ++ vs) _ _ nn upd_same (ThA.append (ha.mono nn.gg) lx (ThA.mono ht (n2.gg.trans n3.gg)))⟩⟩
end
end Gw
namespace Gw
open PySem PySem.Spec PyProof.Rows L2 LamX
/-! ### changes of groups: what is meant -/
abbrev Rl := List Int × List Int
abbrev wD (ws : List Int) : PyData := .tuple (ws.map .int)
def lets (n : Nat) (ws : List Int) : Bool := ws.all fun x => decide (0 ≤ x) && decide (x ≤ (n : Int) - 1)
theorem lets_iff {n : Nat} {ws : List Int} : lets n ws = true ↔ Letters n ws := by
  unfold lets Letters
  rw [List.all_eq_true]
  constructor
  · intro h x hx
    have := h x hx
    simp only [Bool.and_eq_true, decide_eq_true_eq] at this
    omega
  · intro h x hx
    have := h x hx
    simp only [Bool.and_eq_true, decide_eq_true_eq]
    omega
theorem isRow_lets {n : Nat} {ws : List Int} : isRow n (wD ws) = lets n ws := by
  show (ws.map PyData.int).all (inR 0 ((n : Int) - 1)) = _
  rw [List.all_map]
  rfl
def toWs : PyData → List Int | .tuple ds => ds.map toI | _ => []
theorem toWs_ints (ws : List Int) : toWs (.tuple (ws.map .int)) = ws := by
  show (ws.map PyData.int).map toI = ws
  rw [List.map_map]
  exact (List.map_congr_left fun _ _ => rfl).trans (List.map_id ws)
theorem row_ints {n : Nat} {x : PyData} (h : isRow n x = true) : ∃ ws : List Int, x = .tuple (ws.map .int) ∧ Letters n ws := by
  cases x with
  | tuple ds =>
    have h : ds.all (inR 0 ((n : Int) - 1)) = true := h
    refine ⟨ds.map toI, ?_, fun z hz => ?_⟩
    · congr 1
      rw [List.map_map]
      refine ((List.map_id ds).symm.trans (List.map_congr_left fun d hd => ?_))
      obtain ⟨i, rfl, _, _⟩ := inR_int (List.all_eq_true.mp h d hd)
      rfl
    · obtain ⟨d, hd, rfl⟩ := List.mem_map.mp hz
      obtain ⟨i, rfl, h0, h1⟩ := inR_int (List.all_eq_true.mp h d hd)
      show 0 ≤ i ∧ i < (n : Int)
      omega
  | _ => cases h
theorem row_ints12 {x : PyData} (h : isRow 12 x = true) : ∃ ws : List Int, x = wD ws ∧ Letters 12 ws := row_ints (n := 12) h
inductive Chg where
  | put (a b : List Int)
  | drop (k : Nat)
  | letter (a : List Int)
  | unletter
def Chg.d : Chg → PyData
  | .put a b => .tuple [.str "put", wD a, wD b]
  | .drop k => .tuple [.str "drop", .int (k : Int)]
  | .letter a => .tuple [.str "letter", wD a]
  | .unletter => .tuple [.str "unletter"]
def Chg.Ok : Chg → Prop
  | .put a b => (Letters 12 a ∧ a.length ≤ 40) ∧ Letters 12 b ∧ b.length ≤ 40
  | .drop k => k ≤ 39
  | .letter a => Letters 12 a ∧ a.length ≤ 40
  | .unletter => True
def chK (k : Str) (r : List PyData) : Bool := if k = "put" then decide (r.length = 2) && r.all (isShort 12 40) else if k = "letter" then decide (r.length = 1) && isShort 12 40 (r.getD 0 .none) else
  if k = "drop" then decide (r.length = 1) && inR 0 39 (r.getD 0 .none) else decide (k = "unletter") && decide (r.length = 0)
def isChD : PyData → Bool
  | .tuple (.str k :: r) => chK k r
  | _ => false
theorem short_ints {x : PyData} (h : isShort 12 40 x = true) : ∃ ws : List Int, x = wD ws ∧ Letters 12 ws ∧ ws.length ≤ 40 := by
  cases x with
  | tuple ds =>
    have h' : (decide ((ds.length : Int) ≤ 40) && ds.all (inR 0 (12 - 1))) = true := h
    rw [Bool.and_eq_true] at h'
    obtain ⟨ws, e, hl⟩ := row_ints12 (x := .tuple ds) h'.2
    refine ⟨ws, e, hl, ?_⟩
    have h1 := of_decide_eq_true h'.1
    cases e
    rw [List.length_map] at h1
    omega
  | _ => cases h
theorem isChD_ok {x : PyData} (h : isChD x = true) : ∃ c : Chg, x = c.d ∧ c.Ok := by
  cases x with
  | tuple ds =>
    match ds, h with
    | .str k :: r, h =>
      have h : chK k r = true := h
      unfold chK at h
      by_cases h1 : k = "put"
      · rw [if_pos h1, Bool.and_eq_true] at h
        have hl := of_decide_eq_true h.1
        match r, hl, h.2 with
        | [a, b], _, h2 =>
          rw [List.all_cons, List.all_cons, Bool.and_eq_true, Bool.and_eq_true] at h2
          obtain ⟨as, rfl, ha⟩ := short_ints h2.1
          obtain ⟨bs, rfl, hb⟩ := short_ints h2.2.1
          exact ⟨.put as bs, by rw [h1]; rfl, ha, hb⟩
      rw [if_neg h1] at h
      by_cases h2 : k = "letter"
      · rw [if_pos h2, Bool.and_eq_true] at h
        have hl := of_decide_eq_true h.1
        match r, hl, h.2 with
        | [a], _, h3 =>
          obtain ⟨as, e, ha⟩ := short_ints h3
          have e : a = wD as := e
          exact ⟨.letter as, by rw [h2, e]; rfl, ha⟩
      rw [if_neg h2] at h
      by_cases h3 : k = "drop"
      · rw [if_pos h3, Bool.and_eq_true] at h
        have hl := of_decide_eq_true h.1
        match r, hl, h.2 with
        | [a], _, h4 =>
          obtain ⟨i, e, l0, l1⟩ := inR_int h4
          have e : a = .int i := e
          exact ⟨.drop i.toNat, by rw [h3, e]; show _ = PyData.tuple [_, .int ((i.toNat : Nat) : Int)]; rw [Int.toNat_of_nonneg l0], by show i.toNat ≤ 39; omega⟩
      rw [if_neg h3, Bool.and_eq_true] at h
      have hk := of_decide_eq_true h.1
      have hl := of_decide_eq_true h.2
      match r, hl with
      | [], _ => exact ⟨.unletter, by rw [hk]; rfl, trivial⟩
  | _ => cases h
theorem isChD_d {c : Chg} (h : c.Ok) : isChD c.d = true := by
  cases c with
  | put a b =>
    obtain ⟨⟨h1, h2⟩, h3, h4⟩ := h
    have e1 := isShort_let (n := 12) h1 h2
    have e2 := isShort_let (n := 12) h3 h4
    show (decide (2 = 2) && [wD a, wD b].all (isShort 12 40)) = true
    rw [List.all_cons, List.all_cons, List.all_nil]
    have e1 : isShort 12 40 (wD a) = true := e1
    have e2 : isShort 12 40 (wD b) = true := e2
    rw [e1, e2]
    rfl
  | drop k =>
    have h : k ≤ 39 := h
    show (decide (1 = 1) && (decide ((0 : Int) ≤ (k : Int)) && decide ((k : Int) ≤ 39))) = true
    have : decide ((k : Int) ≤ 39) = true := decide_eq_true (by omega)
    rw [this, decide_eq_true (by omega : (0 : Int) ≤ (k : Int))]
    rfl
  | letter a =>
    have e1 : isShort 12 40 (wD a) = true := isShort_let (n := 12) h.1 h.2
    show (decide (1 = 1) && isShort 12 40 (wD a)) = true
    rw [e1]
    rfl
  | unletter => rfl
/-! a group behind a change, or why there is none -/
def undoW (bs ws : List Int) : List Int := ws.reverse.map fun x => bs.getD x.toNat 0
def replW (bs m ws : List Int) : List Int := ws.flatMap fun x => if x < (bs.length : Int) - 2 then [x] else if x = (bs.length : Int) - 2 then m else undoW bs m
def isMeans (n : Nat) (r : Rl) : Bool := decide (r.1 = [(n : Int)]) && lets n r.2
def placeM (n : Nat) (rs : List Rl) : Option Nat := rs.findIdx? (isMeans n)
def replR (bs m : List Int) (r : Rl) : Rl := (replW bs m r.1, replW bs m r.2)
def lastM (bs : List Int) (rs : List Rl) : Except Str Nat :=
  if bs.length < 4 ∨ bs.getD (bs.length - 2) 0 ≠ (bs.length : Int) - 1 then .error "letters" else match placeM (bs.length - 2) rs with | none => .error "rule" | some p => .ok p
def leftR (bs : List Int) (rs : List Rl) (p : Nat) : List Rl := (rs.take p ++ rs.drop (p + 1)).map (replR bs (rs.getD p ([], [])).2)
def chG (bs : List Int) (rs : List Rl) : Chg → Except Str (List Int × List Rl)
  | .put a b => if lets bs.length a && lets bs.length b then if rs.length = 40 then .error "many" else .ok (bs, rs ++ [(a, b)]) else .error "word"
  | .drop k => if rs.length ≤ k then .error "place" else .ok (bs, rs.take k ++ rs.drop (k + 1))
  | .letter a => if 12 < bs.length + 2 then .error "letters" else if lets bs.length a then if rs.length = 40 then .error "many" else .ok (bs ++ [(bs.length : Int) + 1, (bs.length : Int)], rs ++ [([(bs.length : Int)], a)]) else .error "word"
  | .unletter => match lastM bs rs with
    | .error e => .error e
    | .ok p => if (leftR bs rs p).any (fun r => decide (40 < r.1.length) || decide (40 < r.2.length)) then .error "many" else .ok (bs.take (bs.length - 2), leftR bs rs p)
end Gw
namespace Gw
open PySem PySem.Spec PyProof.Rows L2 LamX
/-! ### is_change -/
def isStrK : PyData → Bool | .str _ => true | _ => false
theorem kit_str : ∀ x : PyData, kitB (tyOf x) "str" = some (isStrK x)
  | .none => (by decide +kernel : kitB "NoneType" "str" = some false)
  | .bool _ => (by decide +kernel : kitB "bool" "str" = some false)
  | .int _ => (by decide +kernel : kitB "int" "str" = some false)
  | .str _ => (by decide +kernel : kitB "str" "str" = some true)
  | .list _ => (by decide +kernel : kitB "list" "str" = some false)
  | .tuple _ => (by decide +kernel : kitB "tuple" "str" = some false)
  | .dict _ => (by decide +kernel : kitB "dict" "str" = some false)
section
variable {K : PySem.W.Frag} {σ : L2.St} {G : Hp} {te : TE} {ds : List PyData}
theorem eb_truT (h : EvD K te σ G (.tuple ds)) : EvB K (fun σ H Q => te σ H fun x H' => ∃ k, TruV K x H' k ∧ Q k H') σ G (!ds.isEmpty) := fun H s Q q => h H s _ fun v G1 H1 n1 hv => by
  cases hv with
  | @tup a xs _ hs ha =>
    refine ⟨!xs.isEmpty, .inr (.inl ⟨xs, same_tup n1.gh hs, rfl⟩), ?_⟩
    have e : (!xs.isEmpty) = !ds.isEmpty := by cases ha <;> rfl
    rw [e]
    exact q G1 H1 n1
theorem eb_truL (h : EvD K te σ G (.list ds)) : EvB K (fun σ H Q => te σ H fun x H' => ∃ k, TruV K x H' k ∧ Q k H') σ G (!ds.isEmpty) := fun H s Q q => h H s _ fun v G1 H1 n1 hv => by
  cases hv with
  | @lst a xs _ hs ha =>
    refine ⟨!xs.isEmpty, .inl ⟨xs, n1.gh.seq hs, rfl⟩, ?_⟩
    have e : (!xs.isEmpty) = !ds.isEmpty := by cases ha <;> rfl
    rw [e]
    exact q G1 H1 n1
end
section
variable {P : Program} {w : World} {K : PySem.W.Frag} {mg : Str → Option Value} {base : Heap} {f : Addr} {fd : FuncData} {CG CN : Addr}
def R_is_change : List PyData → PyData → Prop := fun ds d => ∃ x, ds = [x] ∧ SzI x ∧ d = .bool (isChD x)
theorem okF_is_change (D : DefAt K mg "is_change" s_is_change P_is_change f fd) (T : Bt mg) {t12 t40 u40 : Tok} (c_MOST_BACK : mg "MOST_BACK" = some (.int 12 t12)) (c_MOST_SIDE : mg "MOST_SIDE" = some (.int 40 t40)) (c_MOST_RULES : mg "MOST_RULES" = some (.int 40 u40))
    (h_is_short_row : Ok P w K mg base "is_short_row" P_is_short_row 4 (SpD K R_is_short_row)) (h_is_number_in : Ok P w K mg base "is_number_in" P_is_number_in 2 (SpD K R_is_number_in)) : OkF P w K mg base "is_change" s_is_change P_is_change 5 (SpD K R_is_change) := by
  refine D.okF (okD D.F sc_is_change (fun ds d h => ?_) fun cdv A outer s H hr => ?_)
  · obtain ⟨x, rfl, _⟩ := h; rfl
  have S := sc_is_change
  refine ⟨_, (pss_cons (ps_if (PW.pt (pw_or (pt_not (pt_val (pe_callB (q_isi K rfl) (by rfl) T.isinstance (by decide +kernel) (pa_cons (pv 0) (pa_cons (pe_bltn (v := .ty "tuple") (by rfl) T.tuple (by decide +kernel) rfl) pa_nil))))) (pw_or (pt_not (pt_truth (pv 0) (by intro _; rfl))) (pw_or1 (pt_not (pt_val (pe_callB (q_isi K rfl) (by rfl) T.isinstance (by decide +kernel) (pa_cons (pe_ix (q_ixT K rfl) (pv 0) pe_int (fun _ _ => rfl)) (pa_cons (pe_bltn (v := .ty "str") (by rfl) T.str (by decide +kernel) rfl) pa_nil))))))))) (pss_one (ps_ret pe_bl)) pss_nil)
  (pss_cons (ps_set (i := 1) S.nd rfl (by first | exact .inl rfl | exact .inr rfl) (pe_ix (q_ixT K rfl) (pv 0) pe_int (fun _ _ => rfl)))
  (pss_cons (ps_if (pt_cmpR op_eq (pv 1) pe_str (nomark _)) (pss_one (ps_ret (pe_and (pe_cmpR op_eq (pe_callB (q_len K rfl) (by rfl) T.len PySem.boot_len (pa_cons (pv 0) pa_nil)) pe_int (nomark _)) (pe_one (pe_callB (q_all K rfl rfl) (by rfl) T.all (by decide +kernel) (pa_cons (pe_lc (own := [("side", 2)]) (g := gName 2) (by rfl) S.nd  (q_iT K rfl (pe_slice (q_slT K rfl) (pv 0) (po_some pe_int) po_none)) (blkOk_by (N := N_is_change) (sc := defScope s_is_change) (by decide +kernel)) (fun _ _ _ _ _ => (pg_name (i := 2) S.nd rfl (by first | exact .inl rfl | exact .inr rfl))) (fun _ _ _ _ _ => pts_nil) (fun _ _ _ _ _ => (pe_ok h_is_short_row (hr.mono (by decide)) (by rfl) (pa_cons (pe_glob (v := .int 12) (by rfl) c_MOST_BACK ⟨_, rfl⟩) (pa_cons (pv 2) (pa_cons (pe_glob (v := .int 40) (by rfl) c_MOST_SIDE ⟨_, rfl⟩) pa_nil)))))) pa_nil)))))) pss_nil)
  (pss_cons (ps_if (pt_cmpR op_eq (pv 1) pe_str (nomark _)) (pss_one (ps_ret (pe_and (pe_cmpR op_eq (pe_callB (q_len K rfl) (by rfl) T.len PySem.boot_len (pa_cons (pv 0) pa_nil)) pe_int (nomark _)) (pe_one (pe_ok h_is_short_row (hr.mono (by decide)) (by rfl) (pa_cons (pe_glob (v := .int 12) (by rfl) c_MOST_BACK ⟨_, rfl⟩) (pa_cons (pe_ix (q_ixT K rfl) (pv 0) pe_int (fun _ _ => rfl)) (pa_cons (pe_glob (v := .int 40) (by rfl) c_MOST_SIDE ⟨_, rfl⟩) pa_nil)))))))) pss_nil)
  (pss_cons (ps_if (pt_cmpR op_eq (pv 1) pe_str (nomark _)) (pss_one (ps_ret (pe_and (pe_cmpR op_eq (pe_callB (q_len K rfl) (by rfl) T.len PySem.boot_len (pa_cons (pv 0) pa_nil)) pe_int (nomark _)) (pe_one (pe_ok h_is_number_in (hr.mono (by decide)) (by rfl) (pa_cons (pe_ix (q_ixT K rfl) (pv 0) pe_int (fun _ _ => rfl)) (pa_cons pe_int (pa_cons (pe_op op_sub (pe_glob (v := .int 40) (by rfl) c_MOST_RULES ⟨_, rfl⟩) pe_int) pa_nil)))))))) pss_nil)
  (pss_one (ps_ret (pe_and (pe_cmpR op_eq (pv 1) pe_str (nomark _)) (pe_one (pe_cmpR op_eq (pe_callB (q_len K rfl) (by rfl) T.len PySem.boot_len (pa_cons (pv 0) pa_nil)) pe_int (nomark _))))))))))), fun G ds d vs hR ha H0 hs D' q _ => ?_⟩
  obtain ⟨x, rfl, hz, rfl⟩ := hR
  obtain _ | ⟨hx, _ | _⟩ := ha
  cases x with
  | tuple ys =>
    obtain ⟨hz1, hz2⟩ := hz ys rfl
    match ys, hx, hz1, hz2 with
    | [], hx, _, _ =>
      refine RtD.cast (rd_seqIf (b := true) (eb_or (a := false) (b := true) (eb_not (eb_B (ed_isi (ed_var (i := 0) rfl hx) (kit_tup _)))) fun _ => eb_or (a := true) (b := true) (eb_not (eb_truT (ed_var (i := 0) rfl hx))) fun z => nomatch z) (fun _ => rd_ret ed_bl) fun z => nomatch z) (by rfl) H0 hs D' q
    | y :: r, hx, hz1, hz2 =>
      have i0 : ∀ {σ : L2.St} {v : V} {G1 : Hp}, σ[0]? = some (some v) → Dp K G1 v (.tuple (y :: r)) → EvD K (tOp (rIxT K) (tVar 0) (tC (.int 0))) σ G1 y := fun h hv => ed_op (ed_var (i := 0) h hv) ed_int (ro_ixT (k := 0) rfl rfl)
      cases y with
      | str k =>
        refine RtD.cast (d := .bool (chK k r)) (rd_seqIf (b := false) (eb_or (a := false) (b := false) (eb_not (eb_B (ed_isi (ed_var (i := 0) rfl hx) (kit_tup _)))) fun _ => eb_or (a := false) (b := false) (eb_not (eb_truT (ed_var (i := 0) rfl hx))) fun _ => eb_not (eb_B (ed_isi (i0 rfl hx) (kit_str _)))) (fun z => nomatch z) fun _ => ?_) (by rfl) H0 hs D' q
        refine rd_set (i0 rfl hx) fun vk G1 s1 hk => ?_
        have hx := dp_mono s1 _ hx
        have lenE : ∀ {σ : L2.St} (n : Nat), σ[0]? = some (some _) → EvD K (tOp rEq (tCB (fun xs H Q => ∃ p ys, xs = [V.ref p] ∧ (SqL K H p ys ∨ SqT K H p ys) ∧ Q (V.int ys.length) H) (tCons (tVar 0) tNil)) (tC (.int ((n : Nat) + 1 : Int)))) σ G1 (.bool (decide (r.length = n))) := fun {σ} n h => EvD.cast (ed_op (ed_cb (ea_cons (ed_var (i := 0) h hx) ea_nil) rcl_len) ed_int ro_eqI) (by
          rw [List.length_cons]
          exact congrArg PyData.bool (decide_eq_decide.mpr (by omega)))
        refine rd_seqIf (b := decide (k = "put")) (eb_test (ed_op (ed_var (i := 1) rfl hk) ed_str ro_eqS)) (fun hb => ?_) fun hb => ?_
        · have hb := of_decide_eq_true hb
          refine RtD.cast (d := .bool (decide (r.length = 2) && r.all (isShort 12 40))) (rd_ret (ed_and (lenE 2 rfl) fun _ => ?_)) (by unfold chK; rw [if_pos hb])
          refine EvD.cast (ed_cb (ea_cons (EvN.toD (en_lcT1 (i := 2) (fun d => .bool (isShort 12 40 d)) (EvD.cast (ed_slT (lo := some ((1 : Nat) : Int)) (hi := none) (ed_var (i := 0) rfl hx) (eo_some ed_int) eo_none) (by rw [cutD_from]; rfl)) (fun _ => rfl) (Nat.le_trans (by rw [List.length_cons] at hz1; omega : r.length ≤ 1000) (by decide)) fun d v Gi hm g hd => ?_)) ea_nil) (z := .bool ((r.map (isShort 12 40)).all id)) ?_) ?_
          · exact ed_call (ea_cons (ed_c (.int 12)) (ea_cons (ed_var (i := 2) rfl hd) (ea_cons (ed_c (.int 40)) ea_nil))) ⟨12, d, 40, rfl, hz2 d (List.mem_cons_of_mem _ hm), rfl⟩
          · have h := rcl_all (K := K) (bs := r.map (isShort 12 40))
            rw [List.map_map] at h
            exact h
          · rw [List.all_map]; rfl
        have n1 := of_decide_eq_false hb
        refine rd_seqIf (b := decide (k = "letter")) (eb_test (ed_op (ed_var (i := 1) rfl hk) ed_str ro_eqS)) (fun hb => ?_) fun hb => ?_
        · have hb := of_decide_eq_true hb
          refine RtD.cast (d := .bool (decide (r.length = 1) && isShort 12 40 (r.getD 0 .none))) (rd_ret (ed_and (lenE 1 rfl) fun hl => ?_)) (by unfold chK; rw [if_neg n1, if_pos hb])
          match r, of_decide_eq_true hl, hx, hz2 with
          | [a], _, hx, hz2 => exact ed_call (ea_cons (ed_c (.int 12)) (ea_cons (ed_op (ed_var (i := 0) rfl hx) ed_int (ro_ixT (k := 1) rfl rfl)) (ea_cons (ed_c (.int 40)) ea_nil))) (R := R_is_short_row) (E := E0) ⟨12, a, 40, rfl, hz2 a (by simp), rfl⟩
        have n2 := of_decide_eq_false hb
        refine rd_seqIf (b := decide (k = "drop")) (eb_test (ed_op (ed_var (i := 1) rfl hk) ed_str ro_eqS)) (fun hb => ?_) fun hb => ?_
        · have hb := of_decide_eq_true hb
          refine RtD.cast (d := .bool (decide (r.length = 1) && inR 0 39 (r.getD 0 .none))) (rd_ret (ed_and (lenE 1 rfl) fun hl => ?_)) (by unfold chK; rw [if_neg n1, if_neg n2, if_pos hb])
          match r, of_decide_eq_true hl, hx with
          | [a], _, hx => exact ed_call (ea_cons (ed_op (ed_var (i := 0) rfl hx) ed_int (ro_ixT (k := 1) rfl rfl)) (ea_cons ed_int (ea_cons (ed_op (ed_c (.int 40)) ed_int ro_i) ea_nil))) (R := R_is_number_in) (E := E0) ⟨a, 0, 39, rfl, rfl⟩
        have n3 := of_decide_eq_false hb
        refine RtD.cast (d := .bool (decide (k = "unletter") && decide (r.length = 0))) (rd_ret (ed_and (ed_op (ed_var (i := 1) rfl hk) ed_str ro_eqS) fun _ => lenE 0 rfl)) (by unfold chK; rw [if_neg n1, if_neg n2, if_neg n3])
      | _ => exact RtD.cast (rd_seqIf (b := true) (eb_or (a := false) (b := true) (eb_not (eb_B (ed_isi (ed_var (i := 0) rfl hx) (kit_tup _)))) fun _ => eb_or (a := false) (b := true) (eb_not (eb_truT (ed_var (i := 0) rfl hx))) fun _ => eb_not (eb_B (ed_isi (i0 rfl hx) (kit_str _)))) (fun _ => rd_ret ed_bl) fun z => nomatch z) (by rfl) H0 hs D' q
  | _ => exact RtD.cast (rd_seqIf (b := true) (eb_or (a := true) (b := true) (eb_not (eb_B (ed_isi (ed_var (i := 0) rfl hx) (kit_tup _)))) fun z => nomatch z) (fun _ => rd_ret ed_bl) fun z => nomatch z) (by rfl) H0 hs D' q
end
end Gw
namespace Gw
open PySem PySem.Spec PyProof.Rows L2
/-! ### [.. for a, b, c in ..], things turned around -/
section
variable {K : PySem.W.Frag} {σ : L2.St} {G : Hp} {tl te : TE} {ds : List PyData}
theorem en_lcT3 {i j k : Nat} {vs : List Nat} (f : PyData → PyData) (h : EvD K tl σ G (.tuple ds)) (hw : ∀ v1 v2 v3, wipe ((((wipe σ vs).set i (some v1)).set j (some v2)).set k (some v3)) vs = wipe σ vs) (hz : ds.length ≤ sizeLine) (h3 : ∀ d ∈ ds, ∃ x y z, d = .tuple [x, y, z])
    (he : ∀ x y z v1 v2 v3 Gi, PyData.tuple [x, y, z] ∈ ds → Same G Gi → Dp K Gi v1 x → Dp K Gi v2 y → Dp K Gi v3 z → EvD K te ((((wipe σ vs).set i (some v1)).set j (some v2)).set k (some v3)) Gi (f (.tuple [x, y, z]))) :
    EvN K (tLc (iTup K tl) (gTup K 3 (gCons (gName i) (gCons (gName j) (gCons (gName k) gNil)))) tYes te vs) σ G (ds.map f) := fun H s Q q =>
  h H s _ fun v G1 H1 n1 hv => by
    cases hv with
    | @tup a xs _ hs ha =>
      refine ⟨a, rfl, ⟨xs, same_tup n1.gh hs⟩, fun D hD => ?_⟩
      refine lc_tup (K := K) (a := a) (xs := xs) (fun k Hc => LcI K G1 H1 D ((ds.take k).map f) Hc) (LcI.start n1.gh hD) (fun k Hc _ p => ?_) (fun kk x Hc hk p => ?_) fun Hc p => ?_
      · obtain ⟨Gi, acc, n, _⟩ := p.ex
        exact same_tup (n1.gh.trans n.hh) hs
      · obtain ⟨dk, hdk, hdx⟩ := dpa_get ha hk
        have hm : dk ∈ ds := List.mem_of_getElem? hdk
        obtain ⟨x1, x2, x3, rfl⟩ := h3 dk hm
        cases hdx with
        | @tup b ys _ hy hya =>
          obtain _ | ⟨d1, _ | ⟨d2, _ | ⟨d3, _ | _⟩⟩⟩ := hya
          obtain ⟨Gi0, acc0, n0, _⟩ := id p.ex
          refine ⟨b, _, rfl, same_tup (n1.gh.trans n0.hh) hy, rfl, _, _, rfl, _, _, rfl, _, _, rfl, rfl, hw _ _ _, ?_⟩
          refine LcI.turn (b := true) (e := f (.tuple [x1, x2, x3])) hD p ?_ (fun Gi g => eb_yes) (fun _ Gi g => he x1 x2 x3 _ _ _ Gi hm (n1.gg.trans g) (dp_mono g _ d1) (dp_mono g _ d2) (dp_mono g _ d3)) fun H' p' => ?_
          · have := (List.getElem?_eq_some_iff.mp hdk).1
            rw [List.length_map, List.length_take]; omega
          · rw [List.take_succ, hdk, List.map_append]
            exact p'
      · rw [dpa_length ha, List.take_length] at p
        exact p.finN n1 hD q
theorem en_lcL3 {i j k : Nat} {vs : List Nat} (f : PyData → PyData) (h : EvD K tl σ G (.list ds)) (hw : ∀ v1 v2 v3, wipe ((((wipe σ vs).set i (some v1)).set j (some v2)).set k (some v3)) vs = wipe σ vs) (hz : ds.length ≤ sizeLine) (h3 : ∀ d ∈ ds, ∃ x y z, d = .tuple [x, y, z])
    (he : ∀ x y z v1 v2 v3 Gi, PyData.tuple [x, y, z] ∈ ds → Same G Gi → Dp K Gi v1 x → Dp K Gi v2 y → Dp K Gi v3 z → EvD K te ((((wipe σ vs).set i (some v1)).set j (some v2)).set k (some v3)) Gi (f (.tuple [x, y, z]))) :
    EvN K (tLc (iList K tl) (gTup K 3 (gCons (gName i) (gCons (gName j) (gCons (gName k) gNil)))) tYes te vs) σ G (ds.map f) := fun H s Q q =>
  h H s _ fun v G1 H1 n1 hv => by
    cases hv with
    | @lst a xs _ hs ha =>
      refine ⟨a, rfl, ⟨xs, n1.gh.seq hs⟩, fun D hD => ?_⟩
      refine lc_list (K := K) (a := a) (xs := xs) (fun k Hc => LcI K G1 H1 D ((ds.take k).map f) Hc) (LcI.start n1.gh hD) (fun k Hc _ p => ?_) (fun kk x Hc hk p => ?_) fun Hc p => ?_
      · obtain ⟨Gi, acc, n, _⟩ := p.ex
        exact (n1.gh.trans n.hh).seq hs
      · obtain ⟨dk, hdk, hdx⟩ := dpa_get ha hk
        have hm : dk ∈ ds := List.mem_of_getElem? hdk
        obtain ⟨x1, x2, x3, rfl⟩ := h3 dk hm
        cases hdx with
        | @tup b ys _ hy hya =>
          obtain _ | ⟨d1, _ | ⟨d2, _ | ⟨d3, _ | _⟩⟩⟩ := hya
          obtain ⟨Gi0, acc0, n0, _⟩ := id p.ex
          refine ⟨b, _, rfl, same_tup (n1.gh.trans n0.hh) hy, rfl, _, _, rfl, _, _, rfl, _, _, rfl, rfl, hw _ _ _, ?_⟩
          refine LcI.turn (b := true) (e := f (.tuple [x1, x2, x3])) hD p ?_ (fun Gi g => eb_yes) (fun _ Gi g => he x1 x2 x3 _ _ _ Gi hm (n1.gg.trans g) (dp_mono g _ d1) (dp_mono g _ d2) (dp_mono g _ d3)) fun H' p' => ?_
          · have := (List.getElem?_eq_some_iff.mp hdk).1
            rw [List.length_map, List.length_take]; omega
          · rw [List.take_succ, hdk, List.map_append]
            exact p'
      · rw [dpa_length ha, List.take_length] at p
        exact p.finN n1 hD q
/-! [::-1] of a list or a tuple -/
def tRevE (K : PySem.W.Frag) (te : TE) : TE := fun σ H Q => tRevL K te σ H Q ∨ tRevT K te σ H Q
theorem q_revE {X : Cx} (K : PySem.W.Frag) {e : Expr} {te : TE} {k : Nat} {p1 p2 p3 pos : Pos} (ek : X.K = K) (he : PE X e te) : PE X (.Subscript e (.Slice none none (some (.UnaryOp .USub (.Constant (.int 1) k p1) p2)) p3) pos) (tRevE K te) := by
  subst ek
  exact ⟨fun pins s σ H Q I q => q.elim (fun q => (pe_revL he).run pins s σ H Q I q) fun q => (pe_revT he).run pins s σ H Q I q⟩
theorem ed_revEL (h : EvD K tl σ G (.list ds)) : EvD K (tRevE K tl) σ G (.list ds.reverse) := fun H s Q q => .inl (h H s _ fun v G1 H1 n1 hv => by
  cases hv with
  | @lst a xs _ hs ha =>
    refine ⟨a, xs, rfl, n1.gh.seq hs, fun p hp => ?_⟩
    have m := Nx.new (o := .lst xs.reverse) n1.gh hp
    exact q _ _ _ (n1.trans m) (.lst (SqL.of upd_same) (dpa_mono m.gg _ (dpa_reverse ha))))
theorem ed_revET (h : EvD K tl σ G (.tuple ds)) : EvD K (tRevE K tl) σ G (.tuple ds.reverse) := fun H s Q q => .inr (ed_revT h H s Q q)
theorem en_lcL2 {i j : Nat} {vs : List Nat} (f : PyData → PyData) (h : EvD K tl σ G (.list ds)) (hw : ∀ v1 v2, wipe (((wipe σ vs).set i (some v1)).set j (some v2)) vs = wipe σ vs) (hz : ds.length ≤ sizeLine) (h3 : ∀ d ∈ ds, ∃ x y, d = .tuple [x, y])
    (he : ∀ x y v1 v2 Gi, PyData.tuple [x, y] ∈ ds → Same G Gi → Dp K Gi v1 x → Dp K Gi v2 y → EvD K te (((wipe σ vs).set i (some v1)).set j (some v2)) Gi (f (.tuple [x, y]))) :
    EvN K (tLc (iList K tl) (gTup K 2 (gCons (gName i) (gCons (gName j) gNil))) tYes te vs) σ G (ds.map f) := fun H s Q q =>
  h H s _ fun v G1 H1 n1 hv => by
    cases hv with
    | @lst a xs _ hs ha =>
      refine ⟨a, rfl, ⟨xs, n1.gh.seq hs⟩, fun D hD => ?_⟩
      refine lc_list (K := K) (a := a) (xs := xs) (fun k Hc => LcI K G1 H1 D ((ds.take k).map f) Hc) (LcI.start n1.gh hD) (fun k Hc _ p => ?_) (fun kk x Hc hk p => ?_) fun Hc p => ?_
      · obtain ⟨Gi, acc, n, _⟩ := p.ex
        exact (n1.gh.trans n.hh).seq hs
      · obtain ⟨dk, hdk, hdx⟩ := dpa_get ha hk
        have hm : dk ∈ ds := List.mem_of_getElem? hdk
        obtain ⟨x1, x2, rfl⟩ := h3 dk hm
        cases hdx with
        | @tup b ys _ hy hya =>
          obtain _ | ⟨d1, _ | ⟨d2, _ | _⟩⟩ := hya
          obtain ⟨Gi0, acc0, n0, _⟩ := id p.ex
          refine ⟨b, _, rfl, same_tup (n1.gh.trans n0.hh) hy, rfl, _, _, rfl, _, _, rfl, rfl, hw _ _, ?_⟩
          refine LcI.turn (b := true) (e := f (.tuple [x1, x2])) hD p ?_ (fun Gi g => eb_yes) (fun _ Gi g => he x1 x2 _ _ Gi hm (n1.gg.trans g) (dp_mono g _ d1) (dp_mono g _ d2)) fun H' p' => ?_
          · have := (List.getElem?_eq_some_iff.mp hdk).1
            rw [List.length_map, List.length_take]; omega
          · rw [List.take_succ, hdk, List.map_append]
            exact p'
      · rw [dpa_length ha, List.take_length] at p
        exact p.finN n1 hD q
/-! new lists -/
theorem en_cat2 {es : List PyData} {tr : TE} (h1 : EvN K tl σ G ds) (h2 : EvN K tr σ G es) (hz : ds.length + es.length ≤ sizeLine) : EvN K (tOp rCat tl tr) σ G (ds ++ es) := fun H s Q q =>
  h1 H s _ fun p vs G1 H1 n1 hp gp e ha => (h2.mono n1.gg) H1 n1.gh _ fun p2 ws G2 H2 n2 hp2 gp2 e2 ha2 => ⟨p, p2, vs, ws, rfl, rfl, n2.hh _ _ e, e2, by rw [dpa_length ha, dpa_length ha2]; exact hz, fun p3 hp3 =>
    q p3 (vs ++ ws) G2 _ ((n1.trans n2).trans (Nx.lay n2.gh hp3)) ((n1.trans n2).hh.free hp3) (n2.gh.free hp3) upd_same (dpa_append (dpa_mono n2.gg _ ha) ha2)⟩
theorem en_catV {es : List PyData} {tr : TE} {i : Nat} {l : Addr} {xs : List V} (h : σ[i]? = some (some (.ref l))) (hl : G l = some (.lst xs)) (ha : DpAll K G xs ds) (hr : EvN K tr σ G es) (hz : ds.length + es.length ≤ sizeLine) : EvN K (tOp rCat (tVar i) tr) σ G (ds ++ es) := fun H s Q q =>
  ⟨_, h, hr H s _ fun p vs G' H' n hp gp e hv => ⟨l, p, xs, vs, rfl, rfl, n.hh _ _ (s _ _ hl), e, by rw [dpa_length ha, dpa_length hv]; exact hz, fun p2 hp2 =>
    q p2 (xs ++ vs) G' _ (n.trans (Nx.lay n.gh hp2)) (n.hh.free hp2) (n.gh.free hp2) upd_same (dpa_append (dpa_mono n.gg _ ha) hv)⟩⟩
theorem en_listL {i : Nat} {v : V} (h : σ[i]? = some (some v)) (hv : Dp K G v (.list ds)) : EvN K (tCB (rListQ K) (tCons (tVar i) tNil)) σ G ds := fun H s Q q => by
  cases hv with
  | @lst a xs _ hs ha => exact ⟨_, h, a, xs, rfl, .inl (s.seq hs), fun p hp => q p xs G _ (Nx.lay s hp) hp (s.free hp) upd_same ha⟩
theorem rd_setN {i : Nat} {u : TS} {d : PyData} (h : EvN K te σ G ds) (h1 : ∀ p vs G', Same G G' → G' p = some (.lst vs) → DpAll K G' vs ds → RtD K u (σ.set i (some (.ref p))) G' d) : RtD K (tSeq (tAsg te (gName i)) u) σ G d := fun H s D q => h H s _ fun p vs G1 H1 n1 hp gp e ha => by
  obtain ⟨m, gi⟩ := n1.tell hp gp e
  exact h1 p vs _ m.gg upd_same (dpa_mono gi _ ha) H1 m.gh D fun v G2 H2 n2 hd => q v G2 H2 (m.trans n2) hd
end
end Gw
namespace Gw
open PySem PySem.Spec PyProof.Rows L2 LamX
/-! ### a list that grows, over a view -/
structure Grow (K : PySem.W.Frag) (G H : Hp) (p : Addr) (ds : List PyData) (Gi Hc : Hp) : Prop where
  n : Nx G H Gi Hc
  g : Gi p = none
  ex : ∃ acc, Hc p = some (.lst acc) ∧ DpAll K Gi acc ds
section
variable {K : PySem.W.Frag} {G H Gi Hc G2 H2 : Hp} {p : Addr} {ds : List PyData}
theorem Grow.start (s : Same G H) (hp : H p = none) : Grow K G H p [] G (upd H p (.lst [])) := ⟨Nx.lay s hp, s.free hp, [], upd_same, .nil⟩
theorem Grow.step (h : Grow K G H p ds Gi Hc) (n : Nx Gi Hc G2 H2) : Grow K G H p ds G2 H2 := by
  obtain ⟨acc, e, ha⟩ := h.ex
  exact ⟨h.n.trans n, (n.fr p (ne_none e)).trans h.g, acc, n.hh _ _ e, dpa_mono n.gg _ ha⟩
theorem Grow.add (h : Grow K G H p ds Gi Hc) (hp : H p = none) {v : V} {d : PyData} (hd : Dp K Gi v d) {acc : List V} (e : Hc p = some (.lst acc)) : Grow K G H p (ds ++ [d]) Gi (upd Hc p (.lst (acc ++ [v]))) := by
  obtain ⟨acc', e', ha⟩ := h.ex
  rw [e] at e'
  cases e'
  refine ⟨⟨h.n.gg, fun b u q => ?_, fun b u q => ?_, h.n.fr⟩, h.g, acc ++ [v], upd_same, dpa_append ha (.cons hd .nil)⟩
  · rw [upd_ne (ne_of_none q h.g)]; exact h.n.gh b u q
  · rw [upd_ne (ne_of_none q hp)]; exact h.n.hh b u q
end
section
variable {K : PySem.W.Frag} {σ : L2.St} {G H : Hp}
theorem seq_forR {te : TE} {g : TG} {tb u : TS} {D : Ends} {n : Nat} (Pv : Nat → L2.St → Hp → Prop) (h : EvD K te σ G (.int (n : Int))) (s : Same G H) (hz : n ≤ 1000000) (h0 : ∀ G1 H1, Nx G H G1 H1 → Pv 0 σ H1)
    (hs : ∀ (i : Nat) (σ : L2.St) (Hc : Hp), i < n → Pv i σ Hc → g (.int ((0 : Int) + (i : Int))) σ Hc fun σ2 H2 => tb { nx := Pv (i + 1), rt := D.rt, bk := u D, ct := Pv (i + 1) } σ2 H2) (hd : ∀ σ Hc, Pv n σ Hc → u D σ Hc) : tSeq (tFor (iRng1 (tCons te tNil)) g tb) u D σ H :=
  h H s _ fun v G1 H1 n1 hv => ⟨(n : Int), by rw [dp_int hv], by omega, by omega, by
    rw [Int.toNat_natCast]
    exact for_range (lo := 0) (n := n) Pv (h0 G1 H1 n1) hs hd⟩
end
end Gw
namespace Gw
open PySem PySem.Spec PyProof.Rows L2
/-! ### in, for items that are data -/
def rInD (K : PySem.W.Frag) : R2 := fun x y H Q => ∃ d es, Dp K H x d ∧ (Dp K H y (.tuple es) ∨ Dp K H y (.list es)) ∧ SeqAt.shaped d = true ∧ (∀ e ∈ es, SeqAt.shaped e = true) ∧ Q (.bl (es.any fun e => PyData.eqv e d)) H
/-- what an item's answer is, read off the heap -/
noncomputable def hitD (h : Heap) (d : PyData) (u : Value) : Bool := @decide (∃ e as, Reads h u e as ∧ PyData.eqv e d = true) (Classical.propDecidable _)
theorem hitD_of {h : Heap} {d e : PyData} {u : Value} {as : List Addr} (r : Reads h u e as) : hitD h d u = PyData.eqv e d := by
  unfold hitD
  cases q : PyData.eqv e d with
  | true => exact (@decide_eq_true_iff _ (Classical.propDecidable _)).mpr ⟨e, as, r, q⟩
  | false =>
    refine (@decide_eq_false_iff_not _ (Classical.propDecidable _)).mpr fun ⟨e', as', r', q'⟩ => ?_
    have := (reads_det (h := h) (h' := h) (fun _ _ z _ => z) r r').1
    rw [this, q] at q'
    cases q'
section
variable {X : Cx} {pins : List (Addr × Obj)} {σ : L2.St} {H : Hp} {s : Shared}
theorem any_hitD (I : Inv X pins σ H s) {d : PyData} : ∀ {es : List PyData} {xs : List V} {us : List Value}, DpAll X.K H xs es → Vals xs us → us.any (hitD s.heap d) = es.any fun e => PyData.eqv e d
  | [], _, _, .nil, .nil => rfl
  | e :: es, _, _, .cons h t, .cons r rs => by
    obtain ⟨as, q⟩ := Dp.reads I e _ _ h r
    rw [List.any_cons, List.any_cons, hitD_of q, any_hitD I t rs]
theorem mem_hitD {A : Around} {v : Value} {d : PyData} {bs : List Addr} (I : Inv X pins σ H s) (rv : Reads s.heap v d bs) (sd : SeqAt.shaped d = true) (hu : A.in1.units + 64 < cLine) : ∀ {es : List PyData} {xs : List V} {us : List Value}, DpAll X.K H xs es → Vals xs us → (∀ e ∈ es, SeqAt.shaped e = true) → ∀ u ∈ us, SeqAt.EqAt A.in1 s u v (hitD s.heap d u)
  | [], _, _, .nil, .nil, _ => fun u hu => nomatch hu
  | e :: es, _, _, .cons h t, .cons r rs, se => fun u hm => by
    obtain ⟨as, q⟩ := Dp.reads I e _ _ h r
    rcases List.mem_cons.mp hm with rfl | hm
    · rw [hitD_of q]
      exact PySem.W.keq_at q rv (se e List.mem_cons_self) sd hu
    · exact mem_hitD I rv sd hu t rs (fun x hx => se x (List.mem_cons_of_mem _ hx)) u hm
theorem op_inD (hu : X.A.in1.units + 64 < cLine) : OpR X (compareOp .In) (rInD X.K) := by
  intro pins s σ H x y v u Q I rx ry h
  obtain ⟨d, es, hd, hy, sd, se, q⟩ := h
  obtain ⟨bs, rv⟩ := Dp.reads I d x v hd rx
  rcases hy with hy | hy
  · cases hy with
    | @tup p xs _ hs ha =>
      cases ry
      obtain ⟨its, r, pl, hz⟩ := I.tuple hs
      refine SeqAt.in_tupleAt (hitD s.heap d) pl (fun w hw => mem_hitD I rv sd hu ha r se w (by simpa using hw)) ⟨.bl _, H, I, rfl, ?_⟩
      rw [show its.toArray.any (hitD s.heap d) = its.any (hitD s.heap d) by simp, any_hitD I ha r]
      exact q
  · cases hy with
    | @lst p xs _ hs ha =>
      cases ry
      obtain ⟨its, r, pl, hz⟩ := I.list hs
      refine SeqAt.in_listAt (hitD s.heap d) pl.isList (fun w hw => mem_hitD I rv sd hu ha r se w (by simpa using hw)) ⟨.bl _, H, I, rfl, ?_⟩
      rw [show its.toArray.any (hitD s.heap d) = its.any (hitD s.heap d) by simp, any_hitD I ha r]
      exact q
end
theorem q_inD {X : Cx} (K : PySem.W.Frag) (e : X.K = K) (hu : X.A.in1.units + 64 < cLine) : OpR X (compareOp .In) (rInD K) := by subst e; exact op_inD hu
section
variable {K : PySem.W.Frag} {x : PyData} {es : List PyData}
theorem ro_inT (hx : SeqAt.shaped x = true) (he : ∀ e ∈ es, SeqAt.shaped e = true) : ROp K (rInD K) x (.tuple es) (.bool (es.any fun e => PyData.eqv e x)) := fun G H s vx vy dx dy Q q =>
  ⟨x, es, dp_mono s _ dx, .inl (dp_mono s _ dy), hx, he, q _ G H (Nx.refl s) (.bl _)⟩
theorem ro_inL (hx : SeqAt.shaped x = true) (he : ∀ e ∈ es, SeqAt.shaped e = true) : ROp K (rInD K) x (.list es) (.bool (es.any fun e => PyData.eqv e x)) := fun G H s vx vy dx dy Q q =>
  ⟨x, es, dp_mono s _ dx, .inr (dp_mono s _ dy), hx, he, q _ G H (Nx.refl s) (.bl _)⟩
end
end Gw
namespace Gw
open PySem PySem.Spec PyProof.Rows L2
open PySem.AutoSeq1 (wpAny_loadPart')
/-! ### a list extended by a tuple -/
set_option maxHeartbeats 1000000 in
theorem ext_meets (p : Addr) (us : Array Value) (m : Nat) (t : Addr) (ws : Array Value) (k : Nat) (dd : Option Addr) (sl : Array (Option Value)) (short : ¬(!us.isEmpty && Builtin.List.listTooLong (us.size + ws.size)) = true) (fit : us.size ≤ sizeLine) (fits : us.size + ws.size ≤ sizeLine + 1) :
    Meets (Builtin.«list.extend» ⟨[.ref p, .ref t], []⟩)
      (fun _ R s => s.heap.get? p = some { cls := .type "list", dict := none, data := .seq us m, slots := #[] } ∧ s.heap.get? t = some { cls := .type "tuple", dict := dd, data := .seq ws k, slots := sl } ∧ R (.ok (.ret Value.none)) { s with heap := s.heap.update p (Obj.mapSeq fun z => z ++ ws), toks := s.toks }) :=
  .of_wp fun pr w A R s hyp => by
    obtain ⟨hp, g, d, tk, os⟩ := s
    obtain ⟨ep, et, hq⟩ := hyp
    have i1 := PySem.AutoSeq1.idx_int
    have i2 := PySem.AutoSeq1.sub_tuple_tuple
    have i3 := PySem.AutoSeq1.sub_list_list
    have i4 := PySem.AutoSeq1.sub_tuple_list
    have i5 := PySem.AutoSeq1.sub_list_tuple
    have both : (us ++ ws).size ≤ sizeLine + 1 := by
      rw [Array.size_append]
      exact fits
    wp_walk using (wpAny_updateSeq ep rfl (hz := fit) (_hz' := both)), wpAny_loadPart' ep, wpAny_loadPart' et
    exact ⟨_, rfl, hq⟩
def rExtT (K : PySem.W.Frag) : V → List V → Hp → VK → Prop := fun x vs H Q => ∃ (p t : Addr) (xs zs : List V), x = .ref p ∧ vs = [.ref t] ∧ H p = some (.lst xs) ∧ SqT K H t zs ∧ xs.length + zs.length ≤ sizeLine ∧ Q .non (upd H p (.lst (xs ++ zs)))
theorem mt_extT {X : Cx} : MtR X "list.extend" (rExtT X.K) := by
  intro pn s τ H x args v us Q I r1 r2 hyp
  obtain ⟨p, t, xs, zs, rfl, rfl, hp, ht, hlen, q⟩ := hyp
  cases r1
  obtain ⟨u, rfl, ru⟩ := r2.one
  cases ru
  obtain ⟨l1, ps, n, rp, lp, ep⟩ := I.lstM hp
  obtain ⟨ts, rt, tup, l2⟩ := I.tuple ht
  obtain ⟨⟨cl, dd, dt, sl⟩, et, hcl, k, hdt⟩ := tup
  have hcl : cl = .type "tuple" := hcl
  have hdt : dt = .seq ts.toArray k := hdt
  subst hcl hdt
  have lt := rt.length
  have all : ps.toArray.size + ts.toArray.size ≤ sizeLine := by
    rw [List.size_toArray, List.size_toArray]
    omega
  have short : ¬ (!ps.toArray.isEmpty && Builtin.List.listTooLong (ps.toArray.size + ts.toArray.size)) = true := fun z => by
    rw [notLongL all] at z
    simp at z
  have fit : ps.toArray.size ≤ sizeLine := by
    rw [List.size_toArray]
    omega
  refine call_meets PySem.F.slot_list_extend ⟨_, ep, rfl⟩ PySem.F.entry_list_extend (PySem.F.args_list_extend_2 _ _) (ext_meets p ps.toArray n t ts.toArray k dd sl short fit (Nat.le_succ_of_le all)) ⟨ep, et, .non, _, I.lset (its' := ps ++ ts) hp ep (by simp) (rp.append rt) ?_, rfl, q⟩
  have := List.length_append (as := xs) (bs := zs)
  omega
theorem q_extT {X : Cx} (K : PySem.W.Frag) (e : X.K = K) : MtR X "list.extend" (rExtT K) := by subst e; exact mt_extT
/-! ### the first place of a number in a tuple of numbers -/
def rTix (K : PySem.W.Frag) : V → List V → Hp → VK → Prop := fun x vs H Q => ∃ (t : Addr) (ys : List Int) (i : Int) (j : Nat), x = .ref t ∧ vs = [.int i] ∧ SqT K H t (ys.map V.int) ∧ ys[j]? = some i ∧ (∀ m, m < j → ys[m]? ≠ some i) ∧ Q (.int (j : Int)) H
theorem flat_intsV (ys : List Int) : (ys.map V.int).all flatV = true := by
  rw [List.all_map]
  exact List.all_eq_true.mpr fun _ _ => rfl
theorem mt_tix {X : Cx} : MtR X "tuple.index" (rTix X.K) := by
  intro pn s τ H x args v us Q I r1 r2 hyp
  obtain ⟨t, ys, i, j, rfl, rfl, ht, hj, first, q⟩ := hyp
  cases r1
  obtain ⟨u, rfl, ru⟩ := r2.one
  obtain ⟨ts, rt, tup, l2⟩ := I.tuple ht
  obtain ⟨⟨cl, dd, dt, sl⟩, et, hcl, k, hdt⟩ := tup
  have hcl : cl = .type "tuple" := hcl
  have hdt : dt = .seq ts.toArray k := hdt
  subst hcl hdt
  have lt : ys.length = ts.length := by
    have := rt.length
    rw [List.length_map] at this
    exact this
  have item : ∀ (m : Nat) (hm : m < ts.toArray.size), ∃ y, ys[m]? = some y ∧ eqU (.int i) ts.toArray[m] = eqV (.int y) (.int i) := fun m hm => by
    have hm1 : m < ts.length := by simpa using hm
    have hm2 : m < ys.length := by omega
    have g : (ys.map V.int)[m]? = some (.int ys[m]) := by
      rw [List.getElem?_map, List.getElem?_eq_getElem hm2]
      rfl
    obtain ⟨u', hu, ru'⟩ := rt.get g
    have e := (List.getElem?_eq_some_iff.mp hu).2
    refine ⟨ys[m], List.getElem?_eq_getElem hm2, ?_⟩
    have e2 : ts.toArray[m] = u' := by simpa using e
    rw [e2]
    exact eqU_of ru' rfl
  have inside : j < ts.toArray.size := by
    have := (List.getElem?_eq_some_iff.mp hj).1
    rw [List.size_toArray]
    omega
  refine call_meets PySem.F.slot_tuple_index ⟨_, et, rfl⟩ PySem.F.entry_tuple_index (PySem.F.args_tuple_index_2 _ _) (TI.tuple_indexAt t ts.toArray k dd sl u (eqU (.int i)) j inside ?_ fun m hm hmj => ?_) ⟨et, fun y hy => mem_eqAt ru rfl rt (flat_intsV ys) y (by simpa using hy), .int (j : Int), H, I.tok _, ⟨_, rfl⟩, q⟩
  · obtain ⟨y, h1, h2⟩ := item j inside
    rw [hj] at h1
    cases h1
    rw [h2]
    exact beq_self_eq_true i
  · obtain ⟨y, h1, h2⟩ := item m hm
    rw [h2]
    show (y == i) = false
    rw [beq_eq_false_iff_ne]
    exact fun z => first m hmj (by rw [h1, z])
theorem q_tix {X : Cx} (K : PySem.W.Frag) (e : X.K = K) : MtR X "tuple.index" (rTix K) := by subst e; exact mt_tix
end Gw
namespace Gw
open PySem PySem.Spec PyProof.Rows L2 LamX
/-! ### loops over data: what holds at each turn speaks of the names, of a view and of the heap -/
/-- the ends of a turn: the next turn's facts, or what the body hands back -/
def turnE (D : Ends) (u : TS) (N : L2.St → Hp → Prop) : Ends := { nx := N, rt := D.rt, bk := u D, ct := N }
structure LpOk (G H : Hp) (Pv : Nat → L2.St → Hp → Hp → Prop) : Prop where
  gg : ∀ {j σ Gi Hc}, Pv j σ Gi Hc → Same G Gi
  gh : ∀ {j σ Gi Hc}, Pv j σ Gi Hc → Same Gi Hc
section
variable {K : PySem.W.Frag} {σ : L2.St} {G H : Hp} {tl : TE} {g : TG} {tb u : TS} {D : Ends} {ds : List PyData}
theorem seq_forDT (h : EvD K tl σ G (.tuple ds)) (s : Same G H)
    (k : ∀ G1 H1, Nx G H G1 H1 → ∃ Pv : Nat → L2.St → Hp → Hp → Prop, Pv 0 σ G1 H1 ∧ LpOk G1 H1 Pv ∧
      (∀ j d v σ Gi Hc, ds[j]? = some d → Dp K Gi v d → Pv j σ Gi Hc → g v σ Hc fun σ2 H2 => tb (turnE D u fun σ' H' => ∃ G', Pv (j + 1) σ' G' H') σ2 H2) ∧ ∀ σ Gi Hc, Pv ds.length σ Gi Hc → u D σ Hc) : tSeq (tFor (iTup K tl) g tb) u D σ H :=
  h H s _ fun v G1 H1 n1 hv => by
    cases hv with
    | @tup a xs _ hs ha =>
      obtain ⟨Pv, p0, ok, step, fin⟩ := k G1 H1 n1
      have lx := dpa_length ha
      refine ⟨a, rfl, ⟨xs, same_tup n1.gh hs⟩, for_tup (xs := xs) (fun j σ Hc => ∃ Gi, Pv j σ Gi Hc) ⟨G1, p0⟩ (fun j σ Hc _ ⟨Gi, p⟩ => same_tup ((ok.gg p).trans (ok.gh p)) hs) (fun j x σ Hc hj ⟨Gi, p⟩ => ?_) fun σ Hc ⟨Gi, p⟩ => ?_⟩
      · obtain ⟨d, hd, hx⟩ := dpa_get ha hj
        exact step j d x σ Gi Hc hd (dp_mono (ok.gg p) _ hx) p
      · rw [lx] at p
        exact fin σ Gi Hc p
theorem seq_forDL (h : EvD K tl σ G (.list ds)) (s : Same G H)
    (k : ∀ G1 H1, Nx G H G1 H1 → ∃ Pv : Nat → L2.St → Hp → Hp → Prop, Pv 0 σ G1 H1 ∧ LpOk G1 H1 Pv ∧
      (∀ j d v σ Gi Hc, ds[j]? = some d → Dp K Gi v d → Pv j σ Gi Hc → g v σ Hc fun σ2 H2 => tb (turnE D u fun σ' H' => ∃ G', Pv (j + 1) σ' G' H') σ2 H2) ∧ ∀ σ Gi Hc, Pv ds.length σ Gi Hc → u D σ Hc) : tSeq (tFor (iList K tl) g tb) u D σ H :=
  h H s _ fun v G1 H1 n1 hv => by
    cases hv with
    | @lst a xs _ hs ha =>
      obtain ⟨Pv, p0, ok, step, fin⟩ := k G1 H1 n1
      have lx := dpa_length ha
      refine ⟨a, rfl, ⟨xs, n1.gh.seq hs⟩, for_list (xs := xs) (fun j σ Hc => ∃ Gi, Pv j σ Gi Hc) ⟨G1, p0⟩ (fun j σ Hc _ ⟨Gi, p⟩ => ((ok.gg p).trans (ok.gh p)).seq hs) (fun j x σ Hc hj ⟨Gi, p⟩ => ?_) fun σ Hc ⟨Gi, p⟩ => ?_⟩
      · obtain ⟨d, hd, hx⟩ := dpa_get ha hj
        exact step j d x σ Gi Hc hd (dp_mono (ok.gg p) _ hx) p
      · rw [lx] at p
        exact fin σ Gi Hc p
/-- enumerate of a tuple: the pair stands at T -/
theorem seq_forET (h : EvD K tl σ G (.tuple ds)) (s : Same G H)
    (k : ∀ G1 H1, Nx G H G1 H1 → ∃ Pv : Nat → L2.St → Hp → Hp → Prop, Pv 0 σ G1 H1 ∧ LpOk G1 H1 Pv ∧
      (∀ j d v σ Gi Hc T, ds[j]? = some d → Dp K Gi v d → Pv j σ Gi Hc → Hc T = none → g (.ref T) σ (upd Hc T (.tup [.int (j : Nat), v])) fun σ2 H2 => tb (turnE D u fun σ' H' => ∃ G', Pv (j + 1) σ' G' H') σ2 H2) ∧ ∀ σ Gi Hc, Pv ds.length σ Gi Hc → u D σ Hc) : tSeq (tFor (iEnT K (tCons tl tNil)) g tb) u D σ H :=
  h H s _ fun v G1 H1 n1 hv => by
    cases hv with
    | @tup a xs _ hs ha =>
      obtain ⟨Pv, p0, ok, step, fin⟩ := k G1 H1 n1
      have lx := dpa_length ha
      refine ⟨a, xs, rfl, same_tup n1.gh hs, for_it (walk_enT (K := K) (a := a) (xs := xs)) (fun j σ Hc => ∃ Gi, Pv j σ Gi Hc) ⟨G1, p0⟩ (fun j σ Hc _ ⟨Gi, p⟩ => same_tup ((ok.gg p).trans (ok.gh p)) hs) (fun j y σ Hc Hc' hj ⟨Gi, p⟩ hy => ?_) fun σ Hc ⟨Gi, p⟩ => ?_⟩
      · obtain ⟨T, a1, x, rfl, hT, rfl, e1, hx⟩ := hy
        cases e1
        obtain ⟨d, hd, hxd⟩ := dpa_get ha hx
        exact step j d x σ Gi Hc T hd (dp_mono (ok.gg p) _ hxd) p hT
      · rw [lx] at p
        exact fin σ Gi Hc p
theorem seq_forEL (h : EvD K tl σ G (.list ds)) (s : Same G H)
    (k : ∀ G1 H1, Nx G H G1 H1 → ∃ Pv : Nat → L2.St → Hp → Hp → Prop, Pv 0 σ G1 H1 ∧ LpOk G1 H1 Pv ∧
      (∀ j d v σ Gi Hc T, ds[j]? = some d → Dp K Gi v d → Pv j σ Gi Hc → Hc T = none → g (.ref T) σ (upd Hc T (.tup [.int (j : Nat), v])) fun σ2 H2 => tb (turnE D u fun σ' H' => ∃ G', Pv (j + 1) σ' G' H') σ2 H2) ∧ ∀ σ Gi Hc, Pv ds.length σ Gi Hc → u D σ Hc) : tSeq (tFor (iEnum K (tCons tl tNil)) g tb) u D σ H :=
  h H s _ fun v G1 H1 n1 hv => by
    cases hv with
    | @lst a xs _ hs ha =>
      obtain ⟨Pv, p0, ok, step, fin⟩ := k G1 H1 n1
      have lx := dpa_length ha
      refine ⟨a, xs, rfl, n1.gh.seq hs, for_it (walk_enum (K := K) (a := a) (xs := xs)) (fun j σ Hc => ∃ Gi, Pv j σ Gi Hc) ⟨G1, p0⟩ (fun j σ Hc _ ⟨Gi, p⟩ => ((ok.gg p).trans (ok.gh p)).seq hs) (fun j y σ Hc Hc' hj ⟨Gi, p⟩ hy => ?_) fun σ Hc ⟨Gi, p⟩ => ?_⟩
      · obtain ⟨T, a1, x, rfl, hT, rfl, e1, hx⟩ := hy
        cases e1
        obtain ⟨d, hd, hxd⟩ := dpa_get ha hx
        exact step j d x σ Gi Hc T hd (dp_mono (ok.gg p) _ hxd) p hT
      · rw [lx] at p
        exact fin σ Gi Hc p
/-- the usual facts: the names are as told, only new objects came -/
structure Lp (G H : Hp) (Gi Hc : Hp) : Prop where
  n : Nx G H Gi Hc
theorem lp_ok {G H : Hp} {A : Nat → L2.St → Hp → Prop} : LpOk G H fun j σ Gi Hc => Nx G H Gi Hc ∧ A j σ Gi := ⟨fun p => p.1.gg, fun p => p.1.gh⟩
/-- facts of loops in which one list grows -/
theorem gr_ok {G H : Hp} {p : Addr} {f : Nat → List PyData} {A : Nat → L2.St → Hp → Prop} : LpOk G H fun j σ Gi Hc => Grow K G H p (f j) Gi Hc ∧ A j σ Gi := ⟨fun q => q.1.n.gg, fun q => q.1.n.gh⟩
theorem Grow.ext {G H Gi Hc : Hp} {p : Addr} {es : List PyData} (h : Grow K G H p ds Gi Hc) (hp : H p = none) {zs : List V} (hd : DpAll K Gi zs es) {acc : List V} (e : Hc p = some (.lst acc)) : Grow K G H p (ds ++ es) Gi (upd Hc p (.lst (acc ++ zs))) := by
  obtain ⟨acc', e', ha⟩ := h.ex
  rw [e] at e'
  cases e'
  refine ⟨⟨h.n.gg, fun b u q => ?_, fun b u q => ?_, h.n.fr⟩, h.g, acc ++ zs, upd_same, dpa_append ha hd⟩
  · rw [upd_ne (ne_of_none q h.g)]; exact h.n.gh b u q
  · rw [upd_ne (ne_of_none q hp)]; exact h.n.hh b u q
theorem Grow.len {G H Gi Hc : Hp} {p : Addr} (h : Grow K G H p ds Gi Hc) {acc : List V} (e : Hc p = some (.lst acc)) : acc.length = ds.length := by
  obtain ⟨acc', e', ha⟩ := h.ex
  rw [e] at e'
  cases e'
  exact dpa_length ha
/-- the list is done: it comes into the view -/
theorem Grow.done {G H Gi Hc : Hp} {p : Addr} (h : Grow K G H p ds Gi Hc) (hp : H p = none) : Nx G H (upd Gi p (Hc p |>.getD (.lst []))) Hc ∧ Dp K (upd Gi p (Hc p |>.getD (.lst []))) (.ref p) (.list ds) := by
  obtain ⟨acc, e, ha⟩ := h.ex
  rw [e]
  obtain ⟨m, gi⟩ := h.n.tell hp h.g e
  exact ⟨m, .lst (SqL.of upd_same) (dpa_mono gi _ ha)⟩
end
end Gw
namespace Gw
open PySem PySem.Spec PyProof.Rows L2 LamX
/-! ### statements of such bodies -/
section
variable {K : PySem.W.Frag} {σ : L2.St} {G H Gi Hc : Hp} {te : TE} {tt : TT} {t u : TS} {D : Ends} {ds es : List PyData} {d : PyData} {i : Nat} {p : Addr}
theorem if_B {b : Bool} (h : EvB K tt σ G b) (s : Same G H) (k1 : b = true → ∀ G1 H1, Nx G H G1 H1 → t D σ H1) (k0 : b = false → ∀ G1 H1, Nx G H G1 H1 → u D σ H1) : tIfS tt t u D σ H := h H s _ fun G1 H1 n => by
  cases b with
  | true => exact if_on rfl (k1 rfl G1 H1 n)
  | false => exact if_off rfl (k0 rfl G1 H1 n)
theorem app_data (hσ : σ[i]? = some (some (.ref p))) (gr : Grow K G H p ds Gi Hc) (hp : H p = none) (h : EvD K te σ Gi d) (hz : ds.length < sizeLine) (k : ∀ G2 H2, Grow K G H p (ds ++ [d]) G2 H2 → Same Gi G2 → D.nx σ H2) : tDrop (tBM K "list" rAppend (tVar i) (tCons te tNil)) D σ Hc := by
  obtain ⟨acc, e, _⟩ := id gr.ex
  refine ⟨_, hσ, .inl ⟨rfl, _, SqL.of e⟩, h _ gr.n.gh _ fun v G2 H2 n2 hd => ⟨p, acc, v, rfl, rfl, n2.hh _ _ e, by rw [gr.len e]; exact hz, ?_⟩⟩
  exact k G2 _ ((gr.step n2).add hp hd (n2.hh _ _ e)) n2.gg
theorem ext_data (hσ : σ[i]? = some (some (.ref p))) (gr : Grow K G H p ds Gi Hc) (hp : H p = none) (h : EvD K te σ Gi (.tuple es)) (hz : ds.length + es.length ≤ sizeLine) (k : ∀ G2 H2, Grow K G H p (ds ++ es) G2 H2 → Same Gi G2 → D.nx σ H2) : tDrop (tBM K "list" (rExtT K) (tVar i) (tCons te tNil)) D σ Hc := by
  obtain ⟨acc, e, _⟩ := id gr.ex
  refine ⟨_, hσ, .inl ⟨rfl, _, SqL.of e⟩, h _ gr.n.gh _ fun v G2 H2 n2 hd => ?_⟩
  cases hd with
  | @tup a zs _ hs ha =>
    refine ⟨p, a, acc, zs, rfl, rfl, n2.hh _ _ e, same_tup n2.gh hs, by rw [gr.len e, dpa_length ha]; exact hz, ?_⟩
    exact k G2 _ ((gr.step n2).ext hp ha (n2.hh _ _ e)) n2.gg
end
end Gw
namespace Gw
open PySem PySem.Spec PyProof.Rows L2 LamX
/-! ### words turned, words told otherwise -/
section
variable {P : Program} {w : World} {K : PySem.W.Frag} {mg : Str → Option Value} {base : Heap} {f : Addr} {fd : FuncData} {CG CN : Addr}
def R_turned_back : List PyData → PyData → Prop := fun ds d => ∃ bs ws : List Int, ds = [wD bs, wD ws] ∧ Letters bs.length ws ∧ ws.length ≤ 1000 ∧ d = wD (undoW bs ws)
theorem ok_turned_back (D : DefAt K mg "turned_back" s_turned_back P_turned_back f fd) (T : Bt mg) : Ok P w K mg base "turned_back" P_turned_back 1 (SpD K R_turned_back) := by
  refine D.ok (okD D.F sc_turned_back (fun ds d h => ?_) fun cdv A outer s H hr => ?_)
  · obtain ⟨bs, ws, rfl, _⟩ := h; rfl
  have S := sc_turned_back
  refine ⟨_, (pss_one (ps_ret (pe_callTy (q_tuple K rfl) (by rfl) T.tuple (by decide +kernel) (pa_cons (pe_lc (own := [("letter", 2)]) (g := gName 2) (by rfl) S.nd  (q_iT K rfl (q_revT K rfl (pv 1))) (blkOk_by (N := N_turned_back) (sc := defScope s_turned_back) (by decide +kernel)) (fun _ _ _ _ _ => (pg_name (i := 2) S.nd rfl (by first | exact .inl rfl | exact .inr rfl))) (fun _ _ _ _ _ => pts_nil) (fun _ _ _ _ _ => (pe_ix (q_ixT K rfl) (pv 0) (pv 2) (fun _ _ => rfl)))) pa_nil)))), fun G ds d vs hR ha H0 hs D' q _ => ?_⟩
  obtain ⟨bs, ws, rfl, hw, h1000, rfl⟩ := hR
  obtain _ | ⟨hb, _ | ⟨hx, _ | _⟩⟩ := ha
  refine (RtD.cast (rd_ret (ed_cb (ea_cons (EvN.toD (en_lcT1 (fun d => .int (bs.getD (toI d).toNat 0)) (ed_revT (ed_var (i := 1) rfl hx)) (fun _ => rfl) ?_ fun d v Gi hm g hd => ?_)) ea_nil) rcl_tupleL)) ?_) H0 hs D' q
  · rw [List.length_reverse, List.length_map]; exact Nat.le_trans h1000 (by decide)
  · obtain ⟨z, hz, rfl⟩ := List.mem_map.mp (List.mem_reverse.mp hm)
    have hzm := hw z hz
    have hzl : z.toNat < bs.length := by omega
    refine ed_op (ed_var (i := 0) rfl (dp_mono g _ hb)) (ed_var (i := 2) rfl hd) (ro_ixT (k := z.toNat) (by omega) ?_)
    rw [List.getElem?_map, List.getElem?_eq_getElem hzl]
    show some (PyData.int bs[z.toNat]) = some (PyData.int (bs.getD z.toNat 0))
    rw [List.getD_eq_getElem?_getD, List.getElem?_eq_getElem hzl]
    rfl
  · unfold undoW wD
    rw [List.map_map, ← List.map_reverse, List.map_map]
    rfl
theorem ok_law_undoing (D : DefAt K mg "_law_undoing" s_law_undoing P_law_undoing f fd) (T : Bt mg) : Ok P w K mg base "_law_undoing" P_law_undoing 1 (SpD K R_turned_back) := by
  refine D.ok (okD D.F sc_law_undoing (fun ds d h => ?_) fun cdv A outer s H hr => ?_)
  · obtain ⟨bs, ws, rfl, _⟩ := h; rfl
  have S := sc_law_undoing
  refine ⟨_, (pss_one (ps_ret (pe_callTy (q_tuple K rfl) (by rfl) T.tuple (by decide +kernel) (pa_cons (pe_lc (own := [("letter", 2)]) (g := gName 2) (by rfl) S.nd  (q_iT K rfl (q_revT K rfl (pv 1))) (blkOk_by (N := N_law_undoing) (sc := defScope s_law_undoing) (by decide +kernel)) (fun _ _ _ _ _ => (pg_name (i := 2) S.nd rfl (by first | exact .inl rfl | exact .inr rfl))) (fun _ _ _ _ _ => pts_nil) (fun _ _ _ _ _ => (pe_ix (q_ixT K rfl) (pv 0) (pv 2) (fun _ _ => rfl)))) pa_nil)))), fun G ds d vs hR ha H0 hs D' q _ => ?_⟩
  obtain ⟨bs, ws, rfl, hw, h1000, rfl⟩ := hR
  obtain _ | ⟨hb, _ | ⟨hx, _ | _⟩⟩ := ha
  refine (RtD.cast (rd_ret (ed_cb (ea_cons (EvN.toD (en_lcT1 (fun d => .int (bs.getD (toI d).toNat 0)) (ed_revT (ed_var (i := 1) rfl hx)) (fun _ => rfl) ?_ fun d v Gi hm g hd => ?_)) ea_nil) rcl_tupleL)) ?_) H0 hs D' q
  · rw [List.length_reverse, List.length_map]; exact Nat.le_trans h1000 (by decide)
  · obtain ⟨z, hz, rfl⟩ := List.mem_map.mp (List.mem_reverse.mp hm)
    have hzm := hw z hz
    have hzl : z.toNat < bs.length := by omega
    refine ed_op (ed_var (i := 0) rfl (dp_mono g _ hb)) (ed_var (i := 2) rfl hd) (ro_ixT (k := z.toNat) (by omega) ?_)
    rw [List.getElem?_map, List.getElem?_eq_getElem hzl]
    show some (PyData.int bs[z.toNat]) = some (PyData.int (bs.getD z.toNat 0))
    rw [List.getD_eq_getElem?_getD, List.getElem?_eq_getElem hzl]
    rfl
  · unfold undoW wD
    rw [List.map_map, ← List.map_reverse, List.map_map]
    rfl
def stepW (bs m : List Int) (x : Int) : List Int := if x < (bs.length : Int) - 2 then [x] else if x = (bs.length : Int) - 2 then m else undoW bs m
theorem replW_snoc (bs m ws : List Int) (x : Int) : replW bs m (ws ++ [x]) = replW bs m ws ++ stepW bs m x := by
  unfold replW stepW
  rw [List.flatMap_append, List.flatMap_cons, List.flatMap_nil, List.append_nil]
theorem undoW_len (bs m : List Int) : (undoW bs m).length = m.length := by
  unfold undoW; rw [List.length_map, List.length_reverse]
theorem stepW_len (bs m : List Int) (x : Int) : (stepW bs m x).length ≤ m.length + 1 := by
  unfold stepW
  split
  · exact Nat.le_add_left _ _
  · split
    · omega
    · rw [undoW_len]; omega
theorem replW_len (bs m : List Int) : ∀ ws : List Int, (replW bs m ws).length ≤ ws.length * (m.length + 1)
  | [] => Nat.zero_le _
  | x :: ws => by
    have h1 := stepW_len bs m x
    have h2 := replW_len bs m ws
    have e : replW bs m (x :: ws) = stepW bs m x ++ replW bs m ws := by
      unfold replW stepW
      rw [List.flatMap_cons]
    rw [e, List.length_append, List.length_cons, Nat.succ_mul]
    omega
theorem take_snoc {α : Type} {xs : List α} {j : Nat} {x : α} (h : xs[j]? = some x) : xs.take (j + 1) = xs.take j ++ [x] := by
  rw [List.take_add_one, h]
  rfl
def R_replaced : List PyData → PyData → Prop := fun ds d => ∃ bs m ws : List Int, ds = [wD bs, wD m, wD ws] ∧ Letters bs.length m ∧ m.length ≤ 40 ∧ ws.length ≤ 1000 ∧ d = wD (replW bs m ws)
theorem ok_replaced (D : DefAt K mg "replaced" s_replaced P_replaced f fd) (T : Bt mg) (h_turned_back : Ok P w K mg base "turned_back" P_turned_back 1 (SpD K R_turned_back)) : Ok P w K mg base "replaced" P_replaced 2 (SpD K R_replaced) := by
  refine D.ok (okD D.F sc_replaced (fun ds d h => ?_) fun cdv A outer s H hr => ?_)
  · obtain ⟨bs, m, ws, rfl, _⟩ := h; rfl
  have S := sc_replaced
  refine ⟨_, (pss_cons (ps_set (i := 3) S.nd rfl (by first | exact .inl rfl | exact .inr rfl) (pe_op op_sub (pe_callB (q_len K rfl) (by rfl) T.len PySem.boot_len (pa_cons (pv 0) pa_nil)) pe_int))
  (pss_cons (ps_set (i := 4) S.nd rfl (by first | exact .inl rfl | exact .inr rfl) (pe_lst pa_nil))
  (pss_cons (ps_for PassesOwn.never rfl (q_iT K rfl (pv 2)) (pg_name (i := 5) S.nd rfl (by first | exact .inl rfl | exact .inr rfl)) (pss_one (ps_if (pt_cmpR op_lt (pv 5) (pv 3) (nomark _)) (pss_one (ps_expr (pe_bm PySem.F.plainAttrs_list PySem.F.slot_list_append PySem.F.type_list_append mt_append (pv 4) (pa_cons (pv 5) pa_nil)))) (pss_one (ps_expr (pe_bm PySem.F.plainAttrs_list PySem.F.slot_list_extend PySem.F.type_list_extend (q_extT K rfl) (pv 4) (pa_cons (pe_ifExp (pt_cmpR op_eq (pv 5) (pv 3) (nomark _)) (pv 1) (pe_ok h_turned_back (hr.mono (by decide)) (by rfl) (pa_cons (pv 0) (pa_cons (pv 1) pa_nil)))) pa_nil)))))))
  (pss_one (ps_ret (pe_callTy (q_tuple K rfl) (by rfl) T.tuple (by decide +kernel) (pa_cons (pv 4) pa_nil))))))), fun G ds d vs hR ha H0 hs D' q _ => ?_⟩
  obtain ⟨bs, m, ws, rfl, hm, lm, lw, rfl⟩ := hR
  obtain _ | ⟨hb, _ | ⟨h2, _ | ⟨h3, _ | _⟩⟩⟩ := ha
  rename_i va vb vc
  have big : 100000 ≤ sizeLine := by decide
  refine seq_let (K := K) (G := G) (i := 3) (d := .int ((bs.length : Int) - 2)) (EvD.cast (ed_op (ed_cb (ea_cons (ed_var (i := 0) rfl hb) ea_nil) rcl_len) ed_int ro_i) (by rw [List.length_map])) hs fun vf G1 H1 n1 hf => ?_
  refine ⟨Nat.zero_le _, fun p hp => ?_⟩
  have gr0 := Grow.start (K := K) n1.gh hp
  refine seq_forDT (K := K) (G := G1) (ed_var (i := 2) rfl (dp_mono n1.gg _ h3)) gr0.n.gh fun G2 H2 n2 => ⟨fun j σ Gi Hc => (Grow K G1 H1 p ((replW bs m (ws.take j)).map .int) Gi Hc ∧ Same G2 Gi) ∧ ∃ x5, σ = [some va, some vb, some vc, some vf, some (.ref p), x5],
    ⟨⟨gr0.step n2, Same.refl _⟩, _, rfl⟩, ⟨fun p => p.1.2, fun p => p.1.1.n.gh⟩, fun j d v σ Gi Hc hj hv hP => ?_, fun σ Gi Hc hP => ?_⟩
  · obtain ⟨⟨gr, s2⟩, x5, rfl⟩ := hP
    rw [List.getElem?_map] at hj
    obtain ⟨x, hx, rfl⟩ := Option.map_eq_some_iff.mp hj
    have n1i := n1.gg.trans gr.n.gg
    have hjl := (List.getElem?_eq_some_iff.mp hx).1
    have lacc := replW_len bs m (ws.take j)
    have lt : (ws.take j).length ≤ 1000 := by rw [List.length_take]; omega
    have lacc2 : (replW bs m (ws.take j)).length ≤ 41000 := Nat.le_trans lacc (Nat.le_trans (Nat.mul_le_mul lt (by omega : m.length + 1 ≤ 41)) (by omega))
    have nxt : ∀ G2' H2', Grow K G1 H1 p ((replW bs m (ws.take j)).map .int ++ (stepW bs m x).map .int) G2' H2' → Same Gi G2' → ∃ G', (Grow K G1 H1 p ((replW bs m (ws.take (j + 1))).map .int) G' H2' ∧ Same G2 G') ∧ ∃ x5, ([some va, some vb, some vc, some vf, some (.ref p), some v] : L2.St) = [some va, some vb, some vc, some vf, some (.ref p), x5] := fun G2' H2' g sm =>
      ⟨G2', ⟨by rw [take_snoc hx, replW_snoc, List.map_append]; exact g, s2.trans sm⟩, _, rfl⟩
    refine if_B (K := K) (G := Gi) (b := decide (x < (bs.length : Int) - 2)) (eb_test (ed_op (ed_var (i := 5) rfl hv) (ed_var (i := 3) rfl (dp_mono gr.n.gg _ hf)) ro_b)) gr.n.gh (fun hb' Ga Ha na => ?_) fun hb' Ga Ha na => ?_
    · have hb' := of_decide_eq_true hb'
      refine app_data (i := 4) rfl (gr.step na) hp (ed_var (i := 5) rfl (dp_mono na.gg _ hv)) (by rw [List.length_map]; omega) fun G3 H3 g3 s3 => nxt G3 H3 ?_ (na.gg.trans s3)
      have e : stepW bs m x = [x] := if_pos hb'
      rw [e]
      exact g3
    · have hb' := of_decide_eq_false hb'
      refine ext_data (i := 4) (es := (stepW bs m x).map .int) rfl (gr.step na) hp ?_ (by rw [List.length_map, List.length_map]; have := stepW_len bs m x; omega) fun G3 H3 g3 s3 => nxt G3 H3 g3 (na.gg.trans s3)
      refine ed_if (b := decide (x = (bs.length : Int) - 2)) (eb_test (EvD.cast (ed_op (ed_var (i := 5) rfl (dp_mono na.gg _ hv)) (ed_var (i := 3) rfl (dp_mono na.gg _ (dp_mono gr.n.gg _ hf))) ro_eqI) (by rfl))) (fun he => ?_) fun he => ?_
      · have e : stepW bs m x = m := by unfold stepW; rw [if_neg hb', if_pos (of_decide_eq_true he)]
        rw [e]
        exact ed_var (i := 1) rfl (dp_mono na.gg _ (dp_mono n1i _ h2))
      · have e : stepW bs m x = undoW bs m := by unfold stepW; rw [if_neg hb', if_neg (of_decide_eq_false he)]
        rw [e]
        exact ed_call (ea_cons (ed_var (i := 0) rfl (dp_mono na.gg _ (dp_mono n1i _ hb))) (ea_cons (ed_var (i := 1) rfl (dp_mono na.gg _ (dp_mono n1i _ h2))) ea_nil)) (R := R_turned_back) (E := E0) ⟨bs, m, rfl, hm, by omega, rfl⟩
  · obtain ⟨⟨gr, s2⟩, x5, rfl⟩ := hP
    rw [List.length_map, List.take_length] at gr
    obtain ⟨m1, dl⟩ := gr.done hp
    refine (rd_ret (ed_cb (ea_cons (ed_var (i := 4) rfl dl) ea_nil) rcl_tupleL)) Hc m1.gh D' fun v G' H' n' hd => q v G' H' ((n1.trans m1).trans n') hd
end
end Gw
namespace Gw
open PySem PySem.Spec PyProof.Rows L2 LamX
/-! ### the law's words told otherwise, its lists of moves -/
def spellX (low : Int) (m u : List Int) (x : Int) : List Int := if x = low then m else if x = low + 1 then u else [x]
def spellW (low : Int) (m u ws : List Int) : List Int := ws.flatMap (spellX low m u)
theorem spellW_snoc (low : Int) (m u ws : List Int) (x : Int) : spellW low m u (ws ++ [x]) = spellW low m u ws ++ spellX low m u x := by
  unfold spellW
  rw [List.flatMap_append, List.flatMap_cons, List.flatMap_nil, List.append_nil]
theorem spellX_len (low : Int) (m u : List Int) (x : Int) : (spellX low m u x).length ≤ m.length + u.length + 1 := by
  unfold spellX
  split
  · omega
  · split
    · omega
    · exact Nat.le_add_left _ _
theorem spellW_len (low : Int) (m u : List Int) : ∀ ws : List Int, (spellW low m u ws).length ≤ ws.length * (m.length + u.length + 1)
  | [] => Nat.zero_le _
  | x :: ws => by
    have h1 := spellX_len low m u x
    have h2 := spellW_len low m u ws
    have e : spellW low m u (x :: ws) = spellX low m u x ++ spellW low m u ws := by
      unfold spellW
      rw [List.flatMap_cons]
    rw [e, List.length_append, List.length_cons, Nat.succ_mul]
    omega
abbrev movD (ms : List (List Int)) : PyData := .tuple (ms.map wD)
def act1 (ms : List (List Int)) (p x : Int) : Int := (ms.getD x.toNat []).getD p.toNat 0
def act (ms : List (List Int)) (p : Int) (ws : List Int) : Int := ws.foldl (act1 ms) p
structure MvOk (n : Nat) (ms : List (List Int)) : Prop where
  pos : 0 < ms.length
  all : ∀ m ∈ ms, m.length = n ∧ Letters n m
theorem MvOk.at {n : Nat} {ms : List (List Int)} (M : MvOk n ms) {x : Int} (h : 0 ≤ x ∧ x < (ms.length : Int)) : (ms.getD x.toNat []).length = n ∧ Letters n (ms.getD x.toNat []) := by
  have hl : x.toNat < ms.length := by omega
  rw [List.getD_eq_getElem?_getD, List.getElem?_eq_getElem hl]
  exact M.all _ (List.getElem_mem hl)
theorem MvOk.act1 {n : Nat} {ms : List (List Int)} (M : MvOk n ms) {p x : Int} (hx : 0 ≤ x ∧ x < (ms.length : Int)) (hp : 0 ≤ p ∧ p < (n : Int)) : 0 ≤ act1 ms p x ∧ act1 ms p x < (n : Int) := by
  obtain ⟨h1, h2⟩ := M.at hx
  have hl : p.toNat < (ms.getD x.toNat []).length := by omega
  unfold Gw.act1
  rw [List.getD_eq_getElem?_getD, List.getElem?_eq_getElem hl]
  exact h2 _ (List.getElem_mem hl)
theorem MvOk.act {n : Nat} {ms : List (List Int)} (M : MvOk n ms) : ∀ {ws : List Int} {p : Int}, Letters ms.length ws → 0 ≤ p ∧ p < (n : Int) → 0 ≤ act ms p ws ∧ act ms p ws < (n : Int)
  | [], _, _, hp => hp
  | x :: ws, p, hw, hp => M.act (ws := ws) (fun y hy => hw y (List.mem_cons_of_mem _ hy)) (M.act1 (hw x List.mem_cons_self) hp)
theorem act_snoc (ms : List (List Int)) (p : Int) (ws : List Int) (x : Int) : act ms p (ws ++ [x]) = act1 ms (act ms p ws) x := by
  unfold act
  rw [List.foldl_append]
  rfl
theorem act_app (ms : List (List Int)) (p : Int) (us ws : List Int) : act ms p (us ++ ws) = act ms (act ms p us) ws := by
  unfold act
  rw [List.foldl_append]
def alikeM (ms : List (List Int)) (r : Rl) : Bool := (List.range (ms.getD 0 []).length).all fun k => decide (act ms (k : Int) r.1 = act ms (k : Int) r.2)
def keepM (ms : List (List Int)) (rs : List Rl) : Bool := rs.all (alikeM ms)
section
variable {P : Program} {w : World} {K : PySem.W.Frag} {mg : Str → Option Value} {base : Heap} {f : Addr} {fd : FuncData} {CG CN : Addr}
theorem ix_ints {σ : L2.St} {G : Hp} {ta tb : TE} {ms : List Int} {x : Int} (ha : EvD K ta σ G (wD ms)) (hb : EvD K tb σ G (.int x)) (hx : 0 ≤ x ∧ x < (ms.length : Int)) : EvD K (tOp (rIxT K) ta tb) σ G (.int (ms.getD x.toNat 0)) := by
  have hl : x.toNat < ms.length := by omega
  refine ed_op ha hb (ro_ixT (k := x.toNat) (by omega) ?_)
  rw [List.getElem?_map, List.getElem?_eq_getElem hl, List.getD_eq_getElem?_getD, List.getElem?_eq_getElem hl]
  rfl
theorem ix_movs {σ : L2.St} {G : Hp} {ta tb : TE} {ms : List (List Int)} {x : Int} (ha : EvD K ta σ G (movD ms)) (hb : EvD K tb σ G (.int x)) (hx : 0 ≤ x ∧ x < (ms.length : Int)) : EvD K (tOp (rIxT K) ta tb) σ G (wD (ms.getD x.toNat [])) := by
  have hl : x.toNat < ms.length := by omega
  refine ed_op ha hb (ro_ixT (k := x.toNat) (by omega) ?_)
  rw [List.getElem?_map, List.getElem?_eq_getElem hl, List.getD_eq_getElem?_getD, List.getElem?_eq_getElem hl]
  rfl
def R_law_spelled : List PyData → PyData → Prop := fun ds d => ∃ (ws : List Int) (low : Int) (m u : List Int), ds = [wD ws, .int low, wD m, wD u] ∧ ws.length ≤ 1000 ∧ m.length ≤ 40 ∧ u.length ≤ 40 ∧ d = wD (spellW low m u ws)
theorem ok_law_spelled (D : DefAt K mg "_law_spelled" s_law_spelled P_law_spelled f fd) (T : Bt mg) : Ok P w K mg base "_law_spelled" P_law_spelled 1 (SpD K R_law_spelled) := by
  refine D.ok (okD D.F sc_law_spelled (fun ds d h => ?_) fun cdv A outer s H hr => ?_)
  · obtain ⟨ws, low, m, u, rfl, _⟩ := h; rfl
  have S := sc_law_spelled
  refine ⟨_, (pss_cons (ps_set (i := 4) S.nd rfl (by first | exact .inl rfl | exact .inr rfl) (pe_tup pa_nil))
  (pss_cons (ps_for PassesOwn.never rfl (q_iT K rfl (pv 0)) (pg_name (i := 5) S.nd rfl (by first | exact .inl rfl | exact .inr rfl)) (pss_one (ps_set (i := 4) S.nd rfl (by first | exact .inl rfl | exact .inr rfl) (pe_op (q_catT K rfl) (pv 4) (pe_ifExp (pt_cmpR (q_eqD K rfl hr.units) (pv 5) (pv 1) (nomark _)) (pv 2) (pe_ifExp (pt_cmpR op_eq (pv 5) (pe_op op_add (pv 1) pe_int) (nomark _)) (pv 3) (pe_tup (pa_cons (pv 5) pa_nil))))))))
  (pss_one (ps_ret (pv 4))))), fun G ds d vs hR ha H0 hs D' q _ => ?_⟩
  obtain ⟨ws, low, m, u, rfl, lw, lm, lu, rfl⟩ := hR
  obtain _ | ⟨h0, _ | ⟨h1, _ | ⟨h2, _ | ⟨h3, _ | _⟩⟩⟩⟩ := ha
  rename_i va vb vc vd
  have big : 100000 ≤ sizeLine := by decide
  refine seq_let (K := K) (G := G) (i := 4) (d := wD []) (ed_tup ea_nil (Nat.zero_le _)) hs fun vf G1 H1 n1 hf => ?_
  refine seq_forDT (K := K) (G := G1) (ed_var (i := 0) rfl (dp_mono n1.gg _ h0)) n1.gh fun G2 H2 n2 => ⟨fun j σ Gi Hc => Nx G2 H2 Gi Hc ∧ ∃ v4 x5, σ = [some va, some vb, some vc, some vd, some v4, x5] ∧ Dp K Gi v4 (wD (spellW low m u (ws.take j))),
    ⟨Nx.refl n2.gh, _, _, rfl, dp_mono n2.gg _ hf⟩, lp_ok, fun j d v σ Gi Hc hj hv hP => ?_, fun σ Gi Hc hP => ?_⟩
  · obtain ⟨n, v4, x5, rfl, hv4⟩ := hP
    rw [List.getElem?_map] at hj
    obtain ⟨x, hx, rfl⟩ := Option.map_eq_some_iff.mp hj
    have gi := n1.gg.trans (n2.gg.trans n.gg)
    have hjl := (List.getElem?_eq_some_iff.mp hx).1
    have lacc := spellW_len low m u (ws.take j)
    have lt : (ws.take j).length ≤ 1000 := by rw [List.length_take]; omega
    have lacc2 : (spellW low m u (ws.take j)).length ≤ 81000 := Nat.le_trans lacc (Nat.le_trans (Nat.mul_le_mul lt (by omega : m.length + u.length + 1 ≤ 81)) (by omega))
    have lx := spellX_len low m u x
    dsimp only [gName, List.set_cons_succ, List.set_cons_zero]
    refine asg_let (K := K) (G := Gi) (d := wD (spellW low m u (ws.take (j + 1)))) (EvD.cast (ed_op (z := .tuple ((spellW low m u (ws.take j)).map .int ++ (spellX low m u x).map .int)) (ed_var (i := 4) rfl hv4) ?_ (ro_cat (by rw [List.length_map, List.length_map]; omega))) (by rw [take_snoc hx, spellW_snoc]; show _ = PyData.tuple _; rw [List.map_append])) n.gh fun v5 G3 H3 n3 hv5 => ⟨G3, n.trans n3, v5, _, rfl, hv5⟩
    refine ed_if (b := decide (x = low)) (eb_test (EvD.cast (ed_op (ed_var (i := 5) rfl hv) (ed_var (i := 1) rfl (dp_mono gi _ h1)) (ro_eqD (shaped_int _) (shaped_int _))) (by rw [show PyData.eqv (.int x) (.int low) = decide (x = low) by simp [PyData.eqv]; rfl]))) (fun he => ?_) fun he => ?_
    · have e : spellX low m u x = m := if_pos (of_decide_eq_true he)
      rw [e]
      exact ed_var (i := 2) rfl (dp_mono gi _ h2)
    refine ed_if (b := decide (x = low + 1)) (eb_test (ed_op (ed_var (i := 5) rfl hv) (ed_op (ed_var (i := 1) rfl (dp_mono gi _ h1)) ed_int ro_i) ro_eqI)) (fun he2 => ?_) fun he2 => ?_
    · have e : spellX low m u x = u := by unfold spellX; rw [if_neg (of_decide_eq_false he), if_pos (of_decide_eq_true he2)]
      rw [e]
      exact ed_var (i := 3) rfl (dp_mono gi _ h3)
    · have e : spellX low m u x = [x] := by unfold spellX; rw [if_neg (of_decide_eq_false he), if_neg (of_decide_eq_false he2)]
      rw [e]
      exact ed_tup (ea_cons (ed_var (i := 5) rfl hv) ea_nil) (by show 1 ≤ sizeLine; omega)
  · obtain ⟨n, v4, x5, rfl, hv4⟩ := hP
    rw [List.length_map, List.take_length] at hv4
    exact (rd_ret (ed_var (i := 4) rfl hv4)) Hc n.gh D' fun v G' H' n' hd => q v G' H' ((n1.trans (n2.trans n)).trans n') hd
def R_law_moved_point : List PyData → PyData → Prop := fun ds d => ∃ (n : Nat) (ms : List (List Int)) (p : Int) (ws : List Int), ds = [movD ms, .int p, wD ws] ∧ MvOk n ms ∧ Letters ms.length ws ∧ (0 ≤ p ∧ p < (n : Int)) ∧ d = .int (act ms p ws)
theorem ok_law_moved_point (D : DefAt K mg "_law_moved_point" s_law_moved_point P_law_moved_point f fd) (T : Bt mg) : Ok P w K mg base "_law_moved_point" P_law_moved_point 1 (SpD K R_law_moved_point) := by
  refine D.ok (okD D.F sc_law_moved_point (fun ds d h => ?_) fun cdv A outer s H hr => ?_)
  · obtain ⟨n, ms, p, ws, rfl, _⟩ := h; rfl
  have S := sc_law_moved_point
  refine ⟨_, (pss_cons (ps_for PassesOwn.never rfl (q_iT K rfl (pv 2)) (pg_name (i := 3) S.nd rfl (by first | exact .inl rfl | exact .inr rfl)) (pss_one (ps_set (i := 1) S.nd rfl (by first | exact .inl rfl | exact .inr rfl) (pe_ix (q_ixT K rfl) (pe_ix (q_ixT K rfl) (pv 0) (pv 3) (fun _ _ => rfl)) (pv 1) (fun _ _ => rfl)))))
  (pss_one (ps_ret (pv 1)))), fun G ds d vs hR ha H0 hs D' q _ => ?_⟩
  obtain ⟨n0, ms, p, ws, rfl, M, lw, hp, rfl⟩ := hR
  obtain _ | ⟨h0, _ | ⟨h1, _ | ⟨h2, _ | _⟩⟩⟩ := ha
  rename_i va vb vc
  refine seq_forDT (K := K) (G := G) (ed_var (i := 2) rfl h2) hs fun G2 H2 n2 => ⟨fun j σ Gi Hc => Nx G2 H2 Gi Hc ∧ ∃ v1 x3, σ = [some va, some v1, some vc, x3] ∧ Dp K Gi v1 (.int (act ms p (ws.take j))),
    ⟨Nx.refl n2.gh, _, _, rfl, dp_mono n2.gg _ h1⟩, lp_ok, fun j d v σ Gi Hc hj hv hP => ?_, fun σ Gi Hc hP => ?_⟩
  · obtain ⟨n, v1, x3, rfl, hv1⟩ := hP
    rw [List.getElem?_map] at hj
    obtain ⟨x, hx, rfl⟩ := Option.map_eq_some_iff.mp hj
    have gi := n2.gg.trans n.gg
    have hxl := lw x (List.mem_of_getElem? hx)
    have ha := M.act (ws := ws.take j) (fun y hy => lw y (List.mem_of_mem_take hy)) hp
    have hm := M.at hxl
    dsimp only [gName, List.set_cons_succ, List.set_cons_zero]
    exact asg_let (K := K) (G := Gi) (d := .int (act ms p (ws.take (j + 1)))) (EvD.cast (ix_ints (ix_movs (ed_var (i := 0) rfl (dp_mono gi _ h0)) (ed_var (i := 3) rfl hv) hxl) (ed_var (i := 1) rfl hv1) (by rw [hm.1]; exact ha)) (by rw [take_snoc hx, act_snoc]; rfl)) n.gh fun v5 G3 H3 n3 hv5 => ⟨G3, n.trans n3, v5, _, rfl, hv5⟩
  · obtain ⟨n, v1, x3, rfl, hv1⟩ := hP
    rw [List.length_map, List.take_length] at hv1
    exact (rd_ret (ed_var (i := 1) rfl hv1)) Hc n.gh D' fun v G' H' n' hd => q v G' H' ((n2.trans n).trans n') hd
def R_law_alike_moves : List PyData → PyData → Prop := fun ds d => ∃ (n : Nat) (ms : List (List Int)) (a b : List Int), ds = [movD ms, wD a, wD b] ∧ MvOk n ms ∧ n ≤ 1000 ∧ Letters ms.length a ∧ Letters ms.length b ∧ d = .bool (alikeM ms (a, b))
theorem ok_law_alike_moves (D : DefAt K mg "_law_alike_moves" s_law_alike_moves P_law_alike_moves f fd) (T : Bt mg) (h__law_moved_point : Ok P w K mg base "_law_moved_point" P_law_moved_point 1 (SpD K R_law_moved_point)) : Ok P w K mg base "_law_alike_moves" P_law_alike_moves 2 (SpD K R_law_alike_moves) := by
  refine D.ok (okD D.F sc_law_alike_moves (fun ds d h => ?_) fun cdv A outer s H hr => ?_)
  · obtain ⟨n, ms, a, b, rfl, _⟩ := h; rfl
  have S := sc_law_alike_moves
  refine ⟨_, (pss_one (ps_ret (pe_callB (q_all K rfl rfl) (by rfl) T.all (by decide +kernel) (pa_cons (pe_lc (own := [("point", 3)]) (g := gName 3) (by rfl) S.nd  (pi_range1 (by rfl) T.range (pa_cons (pe_callB (q_len K rfl) (by rfl) T.len PySem.boot_len (pa_cons (pe_ix (q_ixT K rfl) (pv 0) pe_int (fun _ _ => rfl)) pa_nil)) pa_nil)) (blkOk_by (N := N_law_alike_moves) (sc := defScope s_law_alike_moves) (by decide +kernel)) (fun _ _ _ _ _ => (pg_name (i := 3) S.nd rfl (by first | exact .inl rfl | exact .inr rfl))) (fun _ _ _ _ _ => pts_nil) (fun _ _ _ _ _ => (pe_cmpR op_eq (pe_ok h__law_moved_point (hr.mono (by decide)) (by rfl) (pa_cons (pv 0) (pa_cons (pv 3) (pa_cons (pv 1) pa_nil)))) (pe_ok h__law_moved_point (hr.mono (by decide)) (by rfl) (pa_cons (pv 0) (pa_cons (pv 3) (pa_cons (pv 2) pa_nil)))) (nomark _)))) pa_nil)))), fun G ds d vs hR ha H0 hs D' q _ => ?_⟩
  obtain ⟨n0, ms, a, b, rfl, M, ln, la, lb, rfl⟩ := hR
  obtain _ | ⟨h0, _ | ⟨h1, _ | ⟨h2, _ | _⟩⟩⟩ := ha
  rename_i va vb vc
  have hm := M.at (x := 0) ⟨Int.le_refl _, by have := M.pos; omega⟩
  have e0 : ms.getD (0 : Int).toNat [] = ms.getD 0 [] := rfl
  rw [e0] at hm
  have big : 1000 ≤ sizeLine := by decide
  have hl : EvD K (tCB (fun xs H Q => ∃ p ys, xs = [V.ref p] ∧ (SqL K H p ys ∨ SqT K H p ys) ∧ Q (V.int ys.length) H) (tCons (tOp (rIxT K) (tVar 0) (tC (.int 0))) tNil)) (L2.start N_law_alike_moves [va, vb, vc]) G (.int (n0 : Int)) := EvD.cast (ed_cb (ea_cons (ix_movs (ed_var (i := 0) rfl h0) ed_int ⟨Int.le_refl _, by have := M.pos; omega⟩) ea_nil) rcl_len) (by rw [List.length_map, e0, hm.1])
  refine (RtD.cast (rd_ret (ed_cb (ea_cons (EvN.toD (en_lcR1 (i := 3) (m := (n0 : Int)) (fun k => .bool (decide (act ms (k : Int) a = act ms (k : Int) b))) hl (fun _ => rfl) (by omega) (by rw [Int.toNat_natCast]; omega) fun k Gi hk g => ?_)) ea_nil) (z := .bool (((List.range n0).map fun (k : Nat) => decide (act ms (k : Int) a = act ms (k : Int) b)).all id)) ?_)) ?_) H0 hs D' q
  · rw [Int.toNat_natCast] at hk
    have hk' : 0 ≤ (k : Int) ∧ (k : Int) < (n0 : Int) := ⟨by omega, by omega⟩
    exact ed_op (ed_call (ea_cons (ed_var (i := 0) rfl (dp_mono g _ h0)) (ea_cons (ed_var (i := 3) rfl (.int _)) (ea_cons (ed_var (i := 1) rfl (dp_mono g _ h1)) ea_nil))) (R := R_law_moved_point) (E := E0) ⟨n0, ms, k, a, rfl, M, la, hk', rfl⟩)
      (ed_call (ea_cons (ed_var (i := 0) rfl (dp_mono g _ h0)) (ea_cons (ed_var (i := 3) rfl (.int _)) (ea_cons (ed_var (i := 2) rfl (dp_mono g _ h2)) ea_nil))) (R := R_law_moved_point) (E := E0) ⟨n0, ms, k, b, rfl, M, lb, hk', rfl⟩) ro_eqI
  · have h := rcl_all (K := K) (bs := (List.range n0).map fun (k : Nat) => decide (act ms (k : Int) a = act ms (k : Int) b))
    rw [List.map_map] at h
    rw [Int.toNat_natCast]
    exact h
  · unfold alikeM
    rw [hm.1, List.all_map]
    rfl
def R_law_keeps : List PyData → PyData → Prop := fun ds d => ∃ (n : Nat) (ms : List (List Int)) (rs : List Rl), ds = [movD ms, .list (rs.map ruleD)] ∧ MvOk n ms ∧ n ≤ 1000 ∧ RulesOk ms.length rs ∧ rs.length ≤ 1000 ∧ d = .bool (keepM ms rs)
theorem ok_law_keeps (D : DefAt K mg "_law_keeps" s_law_keeps P_law_keeps f fd) (T : Bt mg) (h__law_alike_moves : Ok P w K mg base "_law_alike_moves" P_law_alike_moves 2 (SpD K R_law_alike_moves)) : Ok P w K mg base "_law_keeps" P_law_keeps 3 (SpD K R_law_keeps) := by
  refine D.ok (okD D.F sc_law_keeps (fun ds d h => ?_) fun cdv A outer s H hr => ?_)
  · obtain ⟨n, ms, rs, rfl, _⟩ := h; rfl
  have S := sc_law_keeps
  refine ⟨_, (pss_one (ps_ret (pe_callB (q_all K rfl rfl) (by rfl) T.all (by decide +kernel) (pa_cons (pe_lc (own := [("one", 2), ("other", 3)])  (by rfl) S.nd  (q_iL K rfl (pv 1)) (blkOk_by (N := N_law_keeps) (sc := defScope s_law_keeps) (by decide +kernel)) (fun _ _ _ _ _ => (q_gT K 2 rfl rfl (pgs_cons (pg_name (i := 2) S.nd rfl (by first | exact .inl rfl | exact .inr rfl)) (pgs_cons (pg_name (i := 3) S.nd rfl (by first | exact .inl rfl | exact .inr rfl)) pgs_nil)))) (fun _ _ _ _ _ => pts_nil) (fun _ _ _ _ _ => (pe_ok h__law_alike_moves (hr.mono (by decide)) (by rfl) (pa_cons (pv 0) (pa_cons (pv 2) (pa_cons (pv 3) pa_nil)))))) pa_nil)))), fun G ds d vs hR ha H0 hs D' q _ => ?_⟩
  obtain ⟨n0, ms, rs, rfl, M, ln, hr', lr, rfl⟩ := hR
  obtain _ | ⟨h0, _ | ⟨h1, _ | _⟩⟩ := ha
  have big : 1000 ≤ sizeLine := by decide
  refine (RtD.cast (rd_ret (ed_cb (ea_cons (EvN.toD (en_lcL2 (i := 2) (j := 3) (fun d => .bool (alikeM ms (toWs (match d with | .tuple [x, _] => x | d => d), toWs (match d with | .tuple [_, y] => y | d => d)))) (ed_var (i := 1) rfl h1) (fun _ _ => rfl) (by rw [List.length_map]; omega) (fun d hd => ?_) fun x y v1 v2 Gi hd g hv1 hv2 => ?_)) ea_nil) (z := .bool ((rs.map (alikeM ms)).all id)) ?_)) ?_) H0 hs D' q
  · obtain ⟨r, hr, rfl⟩ := List.mem_map.mp hd
    exact ⟨_, _, rfl⟩
  · obtain ⟨r, hr, e⟩ := List.mem_map.mp hd
    cases e
    obtain ⟨_, _, l1, l2⟩ := hr' r hr
    refine EvD.cast (ed_call (ea_cons (ed_var (i := 0) rfl (dp_mono g _ h0)) (ea_cons (ed_var (i := 2) rfl hv1) (ea_cons (ed_var (i := 3) rfl hv2) ea_nil))) (R := R_law_alike_moves) (E := E0) ⟨n0, ms, r.1, r.2, rfl, M, ln, l1, l2, rfl⟩) ?_
    show _ = PyData.bool (alikeM ms (toWs (.tuple (r.1.map .int)), toWs (.tuple (r.2.map .int))))
    rw [toWs_ints, toWs_ints]
  · have h := rcl_all (K := K) (bs := rs.map (alikeM ms))
    rw [List.map_map] at h
    rw [List.map_map]
    refine cast ?_ h
    congr 2
    congr 1
    refine List.map_congr_left fun r hr => ?_
    show PyData.bool (alikeM ms r) = PyData.bool (alikeM ms (toWs (.tuple (r.1.map .int)), toWs (.tuple (r.2.map .int))))
    rw [toWs_ints, toWs_ints]
  · unfold keepM
    rw [List.all_map]
    rfl
end
end Gw
namespace Gw
open PySem PySem.Spec PyProof.Rows L2 LamX
/-! ### the rule that tells the last letters -/
theorem eqvAll_dec : ∀ a b : List Int, PyData.eqvAll (a.map .int) (b.map .int) = decide (a = b)
  | [], [] => by simp [PyData.eqvAll]
  | [], _ :: _ => by simp [PyData.eqvAll]
  | _ :: _, [] => by simp [PyData.eqvAll]
  | x :: a, y :: b => by
    rw [List.map_cons, List.map_cons, PyData.eqvAll, eqvAll_dec a b]
    have e : PyData.eqv (.int x) (.int y) = decide (x = y) := by
      rw [PyData.eqv, Bool.eq_iff_iff]; simp
    rw [e, Bool.eq_iff_iff]
    simp
theorem eqv_ruleD (r r' : List Int × List Int) : PyData.eqv (ruleD r) (ruleD r') = decide (r = r') := by
  obtain ⟨a, b⟩ := r
  obtain ⟨c, d⟩ := r'
  show PyData.eqv (.tuple [.tuple (a.map .int), .tuple (b.map .int)]) (.tuple [.tuple (c.map .int), .tuple (d.map .int)]) = _
  rw [eqvT, PyData.eqvAll, PyData.eqvAll, PyData.eqvAll, eqvT, eqvT, eqvAll_dec, eqvAll_dec, Bool.eq_iff_iff]
  simp
theorem any_ruleD (rs : List (List Int × List Int)) (r : List Int × List Int) : ((rs.map ruleD).any fun e => PyData.eqv e (ruleD r)) = decide (r ∈ rs) := by
  rw [List.any_map, Bool.eq_iff_iff, List.any_eq_true, decide_eq_true_iff]
  constructor
  · rintro ⟨e, he, q⟩
    have q : PyData.eqv (ruleD e) (ruleD r) = true := q
    rw [eqv_ruleD, decide_eq_true_iff] at q
    exact q ▸ he
  · intro h
    exact ⟨r, h, by show PyData.eqv (ruleD r) (ruleD r) = true; rw [eqv_ruleD]; simp⟩
theorem eqv_words (a b : List Int) : PyData.eqv (wD a) (wD b) = decide (a = b) := by
  show PyData.eqv (.tuple (a.map .int)) (.tuple (b.map .int)) = _
  rw [eqvT, eqvAll_dec]
theorem place_some {n : Nat} {rs : List Rl} {j : Nat} {r : Rl} (h : rs[j]? = some r) (hm : isMeans n r = true) (no : ∀ (i : Nat) r', i < j → rs[i]? = some r' → isMeans n r' = false) : placeM n rs = some j := by
  unfold placeM
  rw [List.findIdx?_eq_some_iff_getElem]
  obtain ⟨hl, e⟩ := List.getElem?_eq_some_iff.mp h
  refine ⟨hl, by rw [e]; exact hm, fun i hi => ?_⟩
  have := no i _ hi (List.getElem?_eq_getElem (by omega))
  rw [this]
  exact Bool.false_ne_true
theorem place_none {n : Nat} {rs : List Rl} (no : ∀ (i : Nat) r', rs[i]? = some r' → isMeans n r' = false) : placeM n rs = none := by
  unfold placeM
  rw [List.findIdx?_eq_none_iff]
  intro x hx
  obtain ⟨i, hi⟩ := List.getElem?_of_mem hx
  exact no i x hi
theorem place_mem {n : Nat} {rs : List Rl} {p : Nat} (h : placeM n rs = some p) : ∃ r, rs[p]? = some r ∧ r.1 = [(n : Int)] ∧ Letters n r.2 := by
  unfold placeM at h
  rw [List.findIdx?_eq_some_iff_getElem] at h
  obtain ⟨hl, hm, _⟩ := h
  refine ⟨rs[p], List.getElem?_eq_getElem hl, ?_⟩
  unfold isMeans at hm
  rw [Bool.and_eq_true] at hm
  exact ⟨of_decide_eq_true hm.1, lets_iff.mp hm.2⟩
def optD : Option Nat → PyData | none => .none | some k => .int (k : Int)
section
variable {P : Program} {w : World} {K : PySem.W.Frag} {mg : Str → Option Value} {base : Heap} {f : Addr} {fd : FuncData} {CG CN fN : Addr}
abbrev GB (K : PySem.W.Frag) (CG : Addr) (G : Hp) (g : Addr) (bs : List Int) (rs : List Rl) : Prop := GrpAt K CG G g (bs.map .int) (rs.map ruleD)
/-- the two sides of a rule that stands in a tuple -/
theorem rule_vs {G : Hp} {v : V} {r : Rl} (h : Dp K G v (ruleD r)) : ∃ (a : Addr) (x y : V), v = .ref a ∧ SqT K G a [x, y] ∧ Dp K G x (wD r.1) ∧ Dp K G y (wD r.2) := by
  cases h with
  | @tup a xs _ hs ha =>
    obtain _ | ⟨h1, _ | ⟨h2, _ | _⟩⟩ := ha
    exact ⟨a, _, _, rfl, hs, h1, h2⟩
def R_law_letter_rule : List PyData → PyData → Prop := fun ds d => ∃ (bs : List Int) (rs : List Rl), ds = [wD bs, .list (rs.map ruleD)] ∧ 2 ≤ bs.length ∧ RulesOk bs.length rs ∧ rs.length ≤ 1000 ∧ d = optD (placeM (bs.length - 2) rs)
theorem ok_law_letter_rule (D : DefAt K mg "_law_letter_rule" s_law_letter_rule P_law_letter_rule f fd) (T : Bt mg) : Ok P w K mg base "_law_letter_rule" P_law_letter_rule 1 (SpD K R_law_letter_rule) := by
  refine D.ok (okD D.F sc_law_letter_rule (fun ds d h => ?_) fun cdv A outer s H hr => ?_)
  · obtain ⟨bs, rs, rfl, _⟩ := h; rfl
  have S := sc_law_letter_rule
  refine ⟨_, (pss_cons (ps_set (i := 2) S.nd rfl (by first | exact .inl rfl | exact .inr rfl) (pe_op op_sub (pe_callB (q_len K rfl) (by rfl) T.len PySem.boot_len (pa_cons (pv 0) pa_nil)) pe_int))
  (pss_cons (ps_for PassesOwn.never rfl (q_iEnL K rfl (by rfl) T.enumerate (pa_cons (pv 1) pa_nil)) (q_gT K 2 rfl rfl (pgs_cons (pg_name (i := 3) S.nd rfl (by first | exact .inl rfl | exact .inr rfl)) (pgs_cons (q_gT K 2 rfl rfl (pgs_cons (pg_name (i := 4) S.nd rfl (by first | exact .inl rfl | exact .inr rfl)) (pgs_cons (pg_name (i := 5) S.nd rfl (by first | exact .inl rfl | exact .inr rfl)) pgs_nil))) pgs_nil))) (pss_one (ps_if (PW.pt (pw_and (pt_cmpR (q_eqD K rfl hr.units) (pv 4) (pe_tup (pa_cons (pv 2) pa_nil)) (nomark _)) (pw_and1 (pt_val (pe_callB (q_all K rfl rfl) (by rfl) T.all (by decide +kernel) (pa_cons (pe_lc (own := [("letter", 6)]) (g := gName 6) (by rfl) S.nd  (q_iT K rfl (pv 5)) (blkOk_by (N := N_law_letter_rule) (sc := defScope s_law_letter_rule) (by decide +kernel)) (fun _ _ _ _ _ => (pg_name (i := 6) S.nd rfl (by first | exact .inl rfl | exact .inr rfl))) (fun _ _ _ _ _ => pts_nil) (fun _ _ _ _ _ => (pe_cmpR op_lt (pv 6) (pv 2) (nomark _)))) pa_nil)))))) (pss_one (ps_ret (pv 3))) pss_nil)))
  (pss_one (ps_ret pe_non)))), fun G ds d vs hR ha H0 hs D' q _ => ?_⟩
  obtain ⟨bs, rs, rfl, b2, hro, lr, rfl⟩ := hR
  obtain _ | ⟨h0, _ | ⟨h1, _ | _⟩⟩ := ha
  rename_i va vb
  have big : 100000 ≤ sizeLine := by decide
  have nat2 : ((bs.length - 2 : Nat) : Int) = (bs.length : Int) - 2 := by omega
  refine seq_let (K := K) (G := G) (i := 2) (d := .int ((bs.length - 2 : Nat) : Int)) (EvD.cast (ed_op (ed_cb (ea_cons (ed_var (i := 0) rfl h0) ea_nil) rcl_len) ed_int ro_i) (by rw [List.length_map, nat2])) hs fun vf G1 H1 n1 hf => ?_
  refine seq_forEL (K := K) (G := G1) (ed_var (i := 1) rfl (dp_mono n1.gg _ h1)) n1.gh fun G2 H2 n2 => ⟨fun j σ Gi Hc => Nx G2 H2 Gi Hc ∧ ∃ x3 x4 x5 x6, σ = [some va, some vb, some vf, x3, x4, x5, x6] ∧ ∀ (i : Nat) r', i < j → rs[i]? = some r' → isMeans (bs.length - 2) r' = false,
    ⟨Nx.refl n2.gh, _, _, _, _, rfl, fun i r' hi => absurd hi (Nat.not_lt_zero _)⟩, lp_ok, fun j d v σ Gi Hc Tt hj hv hP hT => ?_, fun σ Gi Hc hP => ?_⟩
  · obtain ⟨n, x3, x4, x5, x6, rfl, no⟩ := hP
    rw [List.getElem?_map] at hj
    obtain ⟨r, hx, rfl⟩ := Option.map_eq_some_iff.mp hj
    obtain ⟨_, _, l1, l2⟩ := hro r (List.mem_of_getElem? hx)
    obtain ⟨a, x, y, rfl, hs2, d1, d2⟩ := rule_vs hv
    have nT := Nx.new (o := .tup [.int (j : Int), .ref a]) n.gh hT
    refine ⟨Tt, _, rfl, SqT.of upd_same, rfl, _, _, rfl, _, _, rfl, ⟨a, _, rfl, same_tup nT.gh (same_tup nT.gg hs2), rfl, _, _, rfl, _, _, rfl, rfl, rfl, ?_⟩⟩
    dsimp only [gName, List.set_cons_succ, List.set_cons_zero]
    have gi := n2.gg.trans (n.gg.trans nT.gg)
    have hf' := dp_mono gi _ hf
    refine if_B (K := K) (b := isMeans (bs.length - 2) r) (eb_and (eb_test (EvD.cast (ed_op (ed_var (i := 4) rfl (dp_mono nT.gg _ d1)) (ed_tup (ea_cons (ed_var (i := 2) rfl hf') ea_nil) (by show 1 ≤ sizeLine; omega)) (ro_eqD (shaped_intsT _) (shaped_intsT [((bs.length - 2 : Nat) : Int)]))) (congrArg PyData.bool (eqv_words r.1 [((bs.length - 2 : Nat) : Int)])))) fun _ => eb_B (EvD.cast (ed_cb (ea_cons (EvN.toD (en_lcT1 (i := 6) (fun d => .bool (decide (toI d < ((bs.length - 2 : Nat) : Int)))) (ed_var (i := 5) rfl (dp_mono nT.gg _ d2)) (fun _ => rfl) (by rw [List.length_map]; omega) fun d v Gj hd g hdv => by
        obtain ⟨z, hz, rfl⟩ := List.mem_map.mp hd
        show EvD K _ _ _ (.bool (decide (z < ((bs.length - 2 : Nat) : Int))))
        exact ed_op (ed_var (i := 6) rfl hdv) (ed_var (i := 2) rfl (dp_mono g _ hf')) ro_b)) ea_nil) (z := .bool ((r.2.map fun z => decide (z < ((bs.length - 2 : Nat) : Int))).all id)) (by
          have h := rcl_all (K := K) (bs := r.2.map fun z => decide (z < ((bs.length - 2 : Nat) : Int)))
          rw [List.map_map] at h
          rw [List.map_map]
          exact h)) (by
        rw [List.all_map]
        congr 1
        unfold lets
        rw [Bool.eq_iff_iff, List.all_eq_true, List.all_eq_true]
        constructor
        · intro h z hz
          have h1 := of_decide_eq_true (h z hz)
          have h2 := l2 z hz
          simp only [Bool.and_eq_true, decide_eq_true_eq]
          omega
        · intro h z hz
          have h1 := h z hz
          simp only [Bool.and_eq_true, decide_eq_true_eq] at h1
          exact decide_eq_true (by omega)))) nT.gh (fun hb Ga Ha na => ?_) fun hb Ga Ha na => ?_
    · have e := place_some hx hb no
      rw [e] at q
      exact (rd_ret (K := K) (G := Ga) (ed_var (i := 3) rfl (.int (j : Int)))) Ha na.gh _ fun v G' H' n' hd => q v G' H' (((n1.trans n2).trans (n.trans nT)).trans (na.trans n')) hd
    · refine ⟨Ga, (n.trans nT).trans na, _, _, _, _, rfl, fun i r' hi hr' => ?_⟩
      rcases Nat.lt_or_ge i j with h | h
      · exact no i r' h hr'
      · have : i = j := by omega
        subst this
        rw [hx] at hr'
        cases hr'
        exact hb
  · obtain ⟨n, x3, x4, x5, x6, rfl, no⟩ := hP
    have e := place_none (n := bs.length - 2) (rs := rs) fun i r' hr' => no i r' (by rw [List.length_map]; exact (List.getElem?_eq_some_iff.mp hr').1) hr'
    rw [e] at q
    exact (rd_ret (K := K) (G := Gi) ed_non) Hc n.gh _ fun v G' H' n' hd => q v G' H' ((n1.trans n2).trans (n.trans n')) hd
end
end Gw
namespace Gw
open PySem PySem.Spec PyProof.Rows L2 LamX
/-! ### the program's defs that say why not -/
def wF (x : V) : List (Str × V) := [(("why" : Str), x)]
/-- data, or NotLet with its reason -/
def spND (K : PySem.W.Frag) (CG CN : Addr) (R : List Int → List Rl → Except Str PyData → Prop) : Sp := fun vs H Q E => ∃ (G : Hp) (g : Addr) (bs : List Int) (rs : List Rl) (res : Except Str PyData), Same G H ∧ vs = [.ref g] ∧ GB K CG G g bs rs ∧ R bs rs res ∧
  (∀ x, res = .ok x → ∀ v G' H', Nx G H G' H' → Dp K G' v x → Q v H') ∧ (∀ e, res = .error e → ∀ d H', Same H H' → H' d = some (.xd (wF (.str e))) → E (.ref CN) (some d) H')
/-- a group, or NotLet with its reason -/
def spNG (K : PySem.W.Frag) (CG CN : Addr) (R : List Int → List Rl → List PyData → Except Str (List Int × List Rl) → Prop) : Sp := fun vs H Q E => ∃ (G : Hp) (g : Addr) (ws : List V) (bs : List Int) (rs : List Rl) (ds : List PyData) (res : Except Str (List Int × List Rl)), Same G H ∧ vs = .ref g :: ws ∧ GB K CG G g bs rs ∧ DpAll K G ws ds ∧ R bs rs ds res ∧
  (∀ p, res = .ok p → ∀ g' G' H', Nx G H G' H' → GB K CG G' g' p.1 p.2 → Q (.ref g') H') ∧ (∀ e, res = .error e → ∀ d H', Same H H' → H' d = some (.xd (wF (.str e))) → E (.ref CN) (some d) H')
structure BkR (bs : List Int) (rs : List Rl) : Prop where
  B : IsBk bs
  R : RulesOk bs.length rs
  L : rs.length ≤ 40
section
variable {P : Program} {w : World} {K : PySem.W.Frag} {mg : Str → Option Value} {base : Heap} {f : Addr} {fd : FuncData} {CG CN CX CB fN : Addr}
def R_place : List Int → List Rl → Except Str PyData → Prop := fun bs rs res => 2 ≤ bs.length ∧ RulesOk bs.length rs ∧ rs.length ≤ 1000 ∧ res = match placeM (bs.length - 2) rs with | none => .error "rule" | some p => .ok (.int (p : Int))
theorem ok_place_of_meaning (D : DefAt K mg "place_of_meaning" s_place_of_meaning P_place_of_meaning f fd) (T : Bt mg) (t_NotLet : PySem.SupX.SupTxt P K mg "NotLet" "why" CN fN) (OC : OwnC K CG) (na : NoAttr K CG "back") (nr : NoAttr K CG "rules") (h_is_row : Ok P w K mg base "is_row" P_is_row 3 (SpD K R_is_row)) :
    OkX P w K mg base "place_of_meaning" s_place_of_meaning P_place_of_meaning 4 (spND K CG CN R_place) := by
  refine D.okX (D.F.okX sc_place_of_meaning (fun vs H Q E h => ?_) fun cdv A outer s H vs Q E hr h => ?_)
  · obtain ⟨G, g, bs, rs, res, _, rfl, _⟩ := h; rfl
  have S := sc_place_of_meaning
  obtain ⟨G, g, bs, rs, res, hs, rfl, hg, ⟨b2, hro, lr, rfl⟩, q1, q2⟩ := h
  refine ⟨_, (pss_cons (ps_set (i := 1) S.nd rfl (by first | exact .inl rfl | exact .inr rfl) (pe_op op_sub (pe_callB (q_len K rfl) (by rfl) T.len PySem.boot_len (pa_cons (pe_fld (pv 0) rfl) pa_nil)) pe_int))
  (pss_cons (ps_for PassesOwn.leaving rfl (q_iEnT K rfl (by rfl) T.enumerate (pa_cons (pe_fld (pv 0) rfl) pa_nil)) (q_gT K 2 rfl rfl (pgs_cons (pg_name (i := 2) S.nd rfl (by first | exact .inl rfl | exact .inr rfl)) (pgs_cons (q_gT K 2 rfl rfl (pgs_cons (pg_name (i := 3) S.nd rfl (by first | exact .inl rfl | exact .inr rfl)) (pgs_cons (pg_name (i := 4) S.nd rfl (by first | exact .inl rfl | exact .inr rfl)) pgs_nil))) pgs_nil))) (pss_one (ps_if (PW.pt (pw_and (pt_cmpR (q_eqD K rfl hr.units) (pv 3) (pe_tup (pa_cons (pv 1) pa_nil)) (nomark _)) (pw_and1 (pt_val (pe_ok h_is_row (hr.mono (by decide)) (by rfl) (pa_cons (pv 1) (pa_cons (pv 4) pa_nil))))))) (pss_one (ps_ret (pv 2))) pss_nil)))
  (pss_one (ps_raise rfl (takes_of rfl rfl rfl rfl) (pmk_sup t_NotLet hr (pa_cons pe_str pa_nil) (by rfl)))))), ?_⟩
  have big : 100000 ≤ sizeLine := by decide
  have nat2 : ((bs.length - 2 : Nat) : Int) = (bs.length : Int) - 2 := by omega
  refine seq_let (K := K) (G := G) (i := 1) (d := .int ((bs.length - 2 : Nat) : Int)) (EvD.cast (ed_op (ed_cb (ea_cons (ed_gb OC na (eg_var (i := 0) rfl hg)) ea_nil) rcl_len) ed_int ro_i) (by rw [List.length_map, nat2])) hs fun vf G1 H1 n1 hf => ?_
  refine seq_forET (K := K) (G := G1) (ed_gr OC nr (eg_var (i := 0) rfl (hg.mono n1.gg))) n1.gh fun G2 H2 n2 => ⟨fun j σ Gi Hc => Nx G2 H2 Gi Hc ∧ ∃ x3 x4 x5, σ = [some (.ref g), some vf, x3, x4, x5] ∧ ∀ (i : Nat) r', i < j → rs[i]? = some r' → isMeans (bs.length - 2) r' = false,
    ⟨Nx.refl n2.gh, _, _, _, rfl, fun i r' hi => absurd hi (Nat.not_lt_zero _)⟩, lp_ok, fun j d v σ Gi Hc Tt hj hv hP hT => ?_, fun σ Gi Hc hP => ?_⟩
  · obtain ⟨n, x3, x4, x5, rfl, no⟩ := hP
    rw [List.getElem?_map] at hj
    obtain ⟨r, hx, rfl⟩ := Option.map_eq_some_iff.mp hj
    obtain ⟨_, l40, l1, l2⟩ := hro r (List.mem_of_getElem? hx)
    obtain ⟨a, x, y, rfl, hs2, d1, d2⟩ := rule_vs hv
    have nT := Nx.new (o := .tup [.int (j : Int), .ref a]) n.gh hT
    refine ⟨Tt, _, rfl, SqT.of upd_same, rfl, _, _, rfl, _, _, rfl, ⟨a, _, rfl, same_tup nT.gh (same_tup nT.gg hs2), rfl, _, _, rfl, _, _, rfl, rfl, rfl, ?_⟩⟩
    dsimp only [gName, List.set_cons_succ, List.set_cons_zero]
    have gi := n2.gg.trans (n.gg.trans nT.gg)
    have hf' := dp_mono gi _ hf
    refine if_B (K := K) (b := isMeans (bs.length - 2) r) (eb_and (eb_test (EvD.cast (ed_op (ed_var (i := 3) rfl (dp_mono nT.gg _ d1)) (ed_tup (ea_cons (ed_var (i := 1) rfl hf') ea_nil) (by show 1 ≤ sizeLine; omega)) (ro_eqD (shaped_intsT _) (shaped_intsT [((bs.length - 2 : Nat) : Int)]))) (congrArg PyData.bool (eqv_words r.1 [((bs.length - 2 : Nat) : Int)])))) fun _ => eb_B (EvD.cast (ed_call (ea_cons (ed_var (i := 1) rfl hf') (ea_cons (ed_var (i := 4) rfl (dp_mono nT.gg _ d2)) ea_nil)) (R := R_is_row) (E := E0) ⟨((bs.length - 2 : Nat) : Int), wD r.2, rfl, by show (r.2.map PyData.int).length ≤ sizeLine; rw [List.length_map]; omega, rfl⟩) (congrArg PyData.bool isRow_lets))) nT.gh (fun hb Ga Ha na => ?_) fun hb Ga Ha na => ?_
    · have e := place_some hx hb no
      rw [e] at q1
      exact (rd_ret (K := K) (G := Ga) (ed_var (i := 2) rfl (.int (j : Int)))) Ha na.gh _ fun v G' H' n' hd => q1 _ rfl v G' H' (((n1.trans n2).trans (n.trans nT)).trans (na.trans n')) hd
    · refine ⟨Ga, (n.trans nT).trans na, _, _, _, rfl, fun i r' hi hr' => ?_⟩
      rcases Nat.lt_or_ge i j with h | h
      · exact no i r' h hr'
      · have : i = j := by omega
        subst this
        rw [hx] at hr'
        cases hr'
        exact hb
  · obtain ⟨n, x3, x4, x5, rfl, no⟩ := hP
    have e := place_none (n := bs.length - 2) (rs := rs) fun i r' hr' => no i r' (by rw [List.length_map]; exact (List.getElem?_eq_some_iff.mp hr').1) hr'
    rw [e] at q2
    exact ⟨_, rfl, fun d hd => q2 _ rfl d _ ((n1.trans (n2.trans n)).hh.trans (same_upd hd)) upd_same⟩
/-- the place and the meaning -/
def R_last : List Int → List Rl → Except Str PyData → Prop := fun bs rs res => 2 ≤ bs.length ∧ RulesOk bs.length rs ∧ rs.length ≤ 1000 ∧ res = match lastM bs rs with | .error e => .error e | .ok p => .ok (.tuple [.int (p : Int), wD (rs.getD p ([], [])).2])
theorem ok_meaning_of_last (D : DefAt K mg "meaning_of_last" s_meaning_of_last P_meaning_of_last f fd) (T : Bt mg) (t_NotLet : PySem.SupX.SupTxt P K mg "NotLet" "why" CN fN) (OC : OwnC K CG) (na : NoAttr K CG "back") (nr : NoAttr K CG "rules") (h_place_of_meaning : OkX P w K mg base "place_of_meaning" s_place_of_meaning P_place_of_meaning 4 (spND K CG CN R_place)) :
    OkX P w K mg base "meaning_of_last" s_meaning_of_last P_meaning_of_last 5 (spND K CG CN R_last) := by
  refine D.okX (D.F.okX sc_meaning_of_last (fun vs H Q E h => ?_) fun cdv A outer s H vs Q E hr h => ?_)
  · obtain ⟨G, g, bs, rs, res, _, rfl, _⟩ := h; rfl
  have S := sc_meaning_of_last
  obtain ⟨G, g, bs, rs, res, hs, rfl, hg, ⟨b2, hro, lr, rfl⟩, q1, q2⟩ := h
  refine ⟨_, (pss_cons (ps_set (i := 1) S.nd rfl (by first | exact .inl rfl | exact .inr rfl) (pe_callB (q_len K rfl) (by rfl) T.len PySem.boot_len (pa_cons (pe_fld (pv 0) rfl) pa_nil)))
  (pss_cons (ps_if (PW.pt (pw_or (pt_cmpR op_lt (pv 1) pe_int (nomark _)) (pw_or1 (pt_cmpR op_ne (pe_ix (q_ixT K rfl) (pe_fld (pv 0) rfl) (pe_op op_sub (pv 1) pe_int) (fun _ _ => rfl)) (pe_op op_sub (pv 1) pe_int) (nomark _))))) (pss_one (ps_raise rfl (takes_of rfl rfl rfl rfl) (pmk_sup t_NotLet hr (pa_cons pe_str pa_nil) (by rfl)))) pss_nil)
  (pss_cons (ps_set (i := 2) S.nd rfl (by first | exact .inl rfl | exact .inr rfl) (pe_okX h_place_of_meaning (passes_call (takes_of rfl rfl rfl rfl) fun _ _ _ _ h => h) (hr.mono (by decide)) (by rfl) (pa_cons (pv 0) pa_nil)))
  (pss_one (ps_ret (pe_tup (pa_cons (pv 2) (pa_cons (pe_ix (q_ixT K rfl) (pe_ix (q_ixT K rfl) (pe_fld (pv 0) rfl) (pv 2) (fun _ _ => rfl)) pe_int (fun _ _ => rfl)) pa_nil)))))))), ?_⟩
  have big : 100000 ≤ sizeLine := by decide
  refine seq_let (K := K) (G := G) (i := 1) (d := .int (bs.length : Int)) (EvD.cast (ed_cb (ea_cons (ed_gb OC na (eg_var (i := 0) rfl hg)) ea_nil) rcl_len) (by rw [List.length_map])) hs fun vf G1 H1 n1 hf => ?_
  have hg1 := hg.mono n1.gg
  have e2 : bs.getD ((bs.length : Int) - 2).toNat 0 = bs.getD (bs.length - 2) 0 := by congr 1; omega
  refine seq_ifB (K := K) (G := G1) (b := decide (bs.length < 4) || !decide (bs.getD (bs.length - 2) 0 = (bs.length : Int) - 1)) (eb_or (EvB.cast (eb_test (ed_op (ed_var (i := 1) rfl hf) ed_int ro_b)) (decide_eq_decide.mpr (by omega))) fun _ => eb_test (EvD.cast (ed_op (ix_ints (ed_gb OC na (eg_var (i := 0) rfl hg1)) (ed_op (ed_var (i := 1) rfl hf) ed_int ro_i) ⟨by omega, by omega⟩) (ed_op (ed_var (i := 1) rfl hf) ed_int ro_i) ro_neI) (by rw [e2]))) n1.gh (fun hb Ga Ha na => ?_) fun hb Ga Ha na => ?_
  · have el : lastM bs rs = .error "letters" := by
      unfold lastM
      rw [if_pos]
      rw [Bool.or_eq_true] at hb
      rcases hb with hb | hb
      · exact .inl (of_decide_eq_true hb)
      · exact .inr (of_decide_eq_false (not_t hb))
    rw [el] at q2
    exact ⟨_, rfl, fun d hd => q2 _ rfl d _ ((n1.trans na).hh.trans (same_upd hd)) upd_same⟩
  have hbs : ¬ (bs.length < 4 ∨ bs.getD (bs.length - 2) 0 ≠ (bs.length : Int) - 1) := by
    rw [Bool.or_eq_false_iff] at hb
    rintro (z | z)
    · exact of_decide_eq_false hb.1 z
    · exact z (of_decide_eq_true (not_f hb.2))
  have el : lastM bs rs = match placeM (bs.length - 2) rs with | none => .error "rule" | some p => .ok p := by
    unfold lastM
    rw [if_neg hbs]
    all_goals (cases placeM (bs.length - 2) rs <;> rfl)
  refine ⟨_, rfl, Ga, g, bs, rs, _, na.gh, rfl, hg1.mono na.gg, ⟨b2, hro, lr, rfl⟩, fun x hx v G2 H2 n2 hv => ?_, fun e he d H2 s2 hd => ?_⟩
  · cases hp : placeM (bs.length - 2) rs with
    | none => rw [hp] at hx; cases hx
    | some p =>
      rw [hp] at hx el
      cases hx
      rw [el] at q1
      obtain ⟨r, hr, _⟩ := place_mem hp
      have er : rs.getD p ([], []) = r := by rw [List.getD_eq_getElem?_getD, hr]; rfl
      have hg2 := hg1.mono (na.gg.trans n2.gg)
      refine (rd_ret (K := K) (G := G2) (ed_tup (ea_cons (ed_var (i := 2) rfl hv) (ea_cons (ed_op (ed_op (z := ruleD r) (ed_gr OC nr (eg_var (i := 0) rfl hg2)) (ed_var (i := 2) rfl hv) (ro_ixT (k := p) rfl (by rw [List.getElem?_map, hr]; rfl))) ed_int (ro_ixT (k := 1) rfl rfl)) ea_nil)) (by show 2 ≤ sizeLine; omega))) H2 n2.gh _ fun v' G' H' n' hd => q1 _ rfl v' G' H' (n1.trans (na.trans (n2.trans n'))) (by rw [er]; exact hd)
  · cases hp : placeM (bs.length - 2) rs with
    | some p => rw [hp] at he; cases he
    | none =>
      rw [hp] at he el
      cases he
      rw [el] at q2
      exact q2 _ rfl d H2 ((n1.trans na).hh.trans s2) hd
end
end Gw
namespace Gw
open PySem PySem.Spec PyProof.Rows L2 LamX
/-! ### what is behind a change is a group again -/
theorem IsBk.more {bs : List Int} (B : IsBk bs) (h : bs.length ≤ 10) : IsBk (bs ++ [(bs.length : Int) + 1, (bs.length : Int)]) where
  two := by rw [List.length_append]; have := B.two; omega
  six := by rw [List.length_append]; simp only [List.length_cons, List.length_nil]; omega
  inv := fun k hk => by
    rw [List.length_append] at hk
    simp only [List.length_cons, List.length_nil] at hk
    by_cases hkl : k < bs.length
    · obtain ⟨j, h1, h2⟩ := B.inv k hkl
      have hj : j < bs.length := by
        rcases Nat.lt_or_ge j bs.length with z | z
        · exact z
        · rw [List.getElem?_eq_none z] at h2; cases h2
      exact ⟨j, by rw [List.getElem?_append_left hkl]; exact h1, by rw [List.getElem?_append_left hj]; exact h2⟩
    · by_cases e : k = bs.length
      · subst e
        refine ⟨bs.length + 1, ?_, ?_⟩
        · rw [List.getElem?_append_right (Nat.le_refl _), Nat.sub_self]; rfl
        · rw [List.getElem?_append_right (Nat.le_add_right _ 1), Nat.add_sub_cancel_left]; rfl
      · have e : k = bs.length + 1 := by omega
        subst e
        refine ⟨bs.length, ?_, ?_⟩
        · rw [List.getElem?_append_right (Nat.le_add_right _ 1), Nat.add_sub_cancel_left]; rfl
        · rw [List.getElem?_append_right (Nat.le_refl _), Nat.sub_self]; rfl
/-- the last two letters undo one another -/
structure LastTwo (bs : List Int) : Prop where
  four : 4 ≤ bs.length
  b2 : bs.getD (bs.length - 2) 0 = (bs.length : Int) - 1
theorem LastTwo.at2 {bs : List Int} (L : LastTwo bs) : bs[bs.length - 2]? = some ((bs.length : Int) - 1) := by
  have hl : bs.length - 2 < bs.length := by have := L.four; omega
  have := L.b2
  rw [List.getD_eq_getElem?_getD, List.getElem?_eq_getElem hl] at this
  rw [List.getElem?_eq_getElem hl]
  exact congrArg some this
theorem LastTwo.at1 {bs : List Int} (L : LastTwo bs) (B : IsBk bs) : bs[bs.length - 1]? = some ((bs.length : Int) - 2) := by
  have l4 := L.four
  obtain ⟨j, h1, h2⟩ := B.inv (bs.length - 2) (by omega)
  rw [L.at2] at h1
  have hj : j = bs.length - 1 := by have := Option.some.inj h1; omega
  subst hj
  rw [h2]
  congr 1
  omega
theorem LastTwo.less {bs : List Int} (L : LastTwo bs) (B : IsBk bs) {k : Nat} (hk : k < bs.length - 2) : ∃ j : Nat, bs[k]? = some (j : Int) ∧ bs[j]? = some (k : Int) ∧ j < bs.length - 2 := by
  have l4 := L.four
  obtain ⟨j, h1, h2⟩ := B.inv k (by omega)
  have hj : j < bs.length := by
    rcases Nat.lt_or_ge j bs.length with z | z
    · exact z
    · rw [List.getElem?_eq_none z] at h2; cases h2
  refine ⟨j, h1, h2, ?_⟩
  rcases Nat.lt_or_ge j (bs.length - 2) with z | z
  · exact z
  · exfalso
    by_cases e : j = bs.length - 2
    · subst e
      rw [L.at2] at h2
      have := Option.some.inj h2
      omega
    · have e : j = bs.length - 1 := by omega
      subst e
      rw [L.at1 B] at h2
      have := Option.some.inj h2
      omega
theorem LastTwo.back {bs : List Int} (L : LastTwo bs) (B : IsBk bs) : IsBk (bs.take (bs.length - 2)) where
  two := by rw [List.length_take]; have := L.four; omega
  six := by rw [List.length_take]; have := B.six; omega
  inv := fun k hk => by
    rw [List.length_take] at hk
    have hk : k < bs.length - 2 := by omega
    obtain ⟨j, h1, h2, hj⟩ := L.less B hk
    exact ⟨j, by rw [List.getElem?_take_of_lt hk]; exact h1, by rw [List.getElem?_take_of_lt hj]; exact h2⟩
theorem LastTwo.split {bs : List Int} (L : LastTwo bs) (B : IsBk bs) : bs = bs.take (bs.length - 2) ++ [(bs.length : Int) - 1, (bs.length : Int) - 2] := by
  have l4 := L.four
  have d : bs.drop (bs.length - 2) = [(bs.length : Int) - 1, (bs.length : Int) - 2] := by
    refine List.ext_getElem? fun i => ?_
    rw [List.getElem?_drop]
    match i with
    | 0 => exact L.at2
    | 1 =>
      rw [show bs.length - 2 + 1 = bs.length - 1 by omega]
      exact L.at1 B
    | i + 2 =>
      rw [List.getElem?_eq_none (by omega)]
      rfl
  rw [← d, List.take_append_drop]
theorem undoW_let {bs ws : List Int} {n : Nat} (h : ∀ x ∈ ws, 0 ≤ bs.getD x.toNat 0 ∧ bs.getD x.toNat 0 < (n : Int)) : Letters n (undoW bs ws) := fun y hy => by
  unfold undoW at hy
  obtain ⟨x, hx, rfl⟩ := List.mem_map.mp hy
  exact h x (List.mem_reverse.mp hx)
theorem IsBk.undo {bs ws : List Int} (B : IsBk bs) (h : Letters bs.length ws) : Letters bs.length (undoW bs ws) := undoW_let fun x hx => by
  have hx := h x hx
  obtain ⟨j, h1, h2⟩ := B.inv x.toNat (by omega)
  have hj : j < bs.length := (List.getElem?_eq_some_iff.mp h2).1
  rw [List.getD_eq_getElem?_getD, h1]
  show 0 ≤ (j : Int) ∧ (j : Int) < _
  omega
theorem LastTwo.undo {bs ws : List Int} (L : LastTwo bs) (B : IsBk bs) (h : Letters (bs.length - 2) ws) : Letters (bs.length - 2) (undoW bs ws) := undoW_let fun x hx => by
  have hx := h x hx
  obtain ⟨j, h1, _, hj⟩ := L.less B (k := x.toNat) (by omega)
  rw [List.getD_eq_getElem?_getD, h1]
  show 0 ≤ (j : Int) ∧ (j : Int) < _
  omega
theorem LastTwo.repl {bs m ws : List Int} (L : LastTwo bs) (B : IsBk bs) (hm : Letters (bs.length - 2) m) (h : Letters bs.length ws) : Letters (bs.length - 2) (replW bs m ws) := fun y hy => by
  unfold replW at hy
  obtain ⟨x, hx, hxy⟩ := List.mem_flatMap.mp hy
  have hx := h x hx
  split at hxy
  · rw [List.mem_singleton] at hxy
    subst hxy
    omega
  · split at hxy
    · exact hm y hxy
    · exact L.undo B hm y hxy
theorem lastM_ok {bs : List Int} {rs : List Rl} {p : Nat} (h : lastM bs rs = .ok p) : LastTwo bs ∧ placeM (bs.length - 2) rs = some p := by
  unfold lastM at h
  split at h
  · cases h
  · rename_i hn
    rw [not_or] at hn
    refine ⟨⟨by omega, Classical.not_not.mp hn.2⟩, ?_⟩
    cases hp : placeM (bs.length - 2) rs with
    | none => rw [hp] at h; cases h
    | some q => rw [hp] at h; cases h; rfl
theorem rl_left {n : Nat} {rs : List Rl} {p : Nat} (h : RulesOk n rs) : RulesOk n (rs.take p ++ rs.drop (p + 1)) := fun r hr => by
  rcases List.mem_append.mp hr with z | z
  · exact h r (List.mem_of_mem_take z)
  · exact h r (List.mem_of_mem_drop z)
theorem left_len {α : Type} {rs : List α} {p : Nat} : (rs.take p ++ rs.drop (p + 1)).length ≤ rs.length := by
  rw [List.length_append, List.length_take, List.length_drop]
  omega
theorem leftR_ok {bs : List Int} {rs : List Rl} {p : Nat} (B : IsBk bs) (R : RulesOk bs.length rs) (h : lastM bs rs = .ok p) (hs : (leftR bs rs p).any (fun r => decide (40 < r.1.length) || decide (40 < r.2.length)) = false) : RulesOk (bs.length - 2) (leftR bs rs p) := fun r hr => by
  obtain ⟨L, hp⟩ := lastM_ok h
  obtain ⟨r0, h0, _, hm⟩ := place_mem hp
  have e0 : rs.getD p ([], []) = r0 := by rw [List.getD_eq_getElem?_getD, h0]; rfl
  have hz := List.any_eq_false.mp hs r hr
  have hz1 : r.1.length ≤ 40 := Nat.le_of_not_lt fun z => hz (by simp [z])
  have hz2 : r.2.length ≤ 40 := Nat.le_of_not_lt fun z => hz (by simp [z])
  unfold leftR at hr
  rw [e0] at hr
  obtain ⟨s, hs', rfl⟩ := List.mem_map.mp hr
  obtain ⟨_, _, l1, l2⟩ := rl_left R s hs'
  exact ⟨hz1, hz2, L.repl B hm l1, L.repl B hm l2⟩
theorem chG_ok {bs : List Int} {rs : List Rl} {c : Chg} {p : List Int × List Rl} (V : BkR bs rs) (hc : c.Ok) (h : chG bs rs c = .ok p) : BkR p.1 p.2 := by
  have b12 := V.B.six
  cases c with
  | put a b =>
    simp only [chG] at h
    split at h
    · rename_i hl
      rw [Bool.and_eq_true] at hl
      split at h
      · cases h
      · cases h
        refine ⟨V.B, V.R.app fun r hr => ?_, ?_⟩
        · rw [List.mem_singleton] at hr
          subst hr
          exact ⟨hc.1.2, hc.2.2, lets_iff.mp hl.1, lets_iff.mp hl.2⟩
        · show (rs ++ [(a, b)]).length ≤ 40
          have := V.L
          rw [List.length_append, List.length_singleton]
          omega
    · cases h
  | drop k =>
    simp only [chG] at h
    split at h
    · cases h
    · cases h
      exact ⟨V.B, rl_left V.R, Nat.le_trans left_len V.L⟩
  | letter a =>
    simp only [chG] at h
    split at h
    · cases h
    · rename_i h12
      split at h
      · rename_i hl
        split at h
        · cases h
        · cases h
          have le : (bs ++ [(bs.length : Int) + 1, (bs.length : Int)]).length = bs.length + 2 := by rw [List.length_append]; rfl
          refine ⟨V.B.more (by omega), ?_, ?_⟩
          · rw [le]
            refine (V.R.le (Nat.le_add_right _ _)).app fun r hr => ?_
            rw [List.mem_singleton] at hr
            subst hr
            refine ⟨by show 1 ≤ 40; omega, hc.2, fun x hx => ?_, (lets_iff.mp hl).le (Nat.le_add_right _ _)⟩
            rw [List.mem_singleton] at hx
            subst hx
            omega
          · show (rs ++ [_]).length ≤ 40
            have := V.L
            rw [List.length_append, List.length_singleton]
            omega
      · cases h
  | unletter =>
    simp only [chG] at h
    cases hl : lastM bs rs with
    | error e => rw [hl] at h; cases h
    | ok q =>
      rw [hl] at h
      dsimp only at h
      split at h
      · cases h
      · rename_i hs
        cases h
        have ln : (bs.take (bs.length - 2)).length = bs.length - 2 := by rw [List.length_take]; omega
        refine ⟨(lastM_ok hl).1.back V.B, ?_, ?_⟩
        · show RulesOk (bs.take (bs.length - 2)).length _
          rw [ln]
          exact leftR_ok V.B V.R hl (Bool.not_eq_true _ ▸ hs)
        · show (leftR bs rs q).length ≤ 40
          unfold leftR
          rw [List.length_map]
          exact Nat.le_trans left_len V.L
end Gw
namespace Gw
open PySem PySem.Spec PyProof.Rows L2 LamX
/-! ### [.. for x in a list of tuples for y in x] -/
def itemsOf' : PyData → List PyData | .list ds => ds | .tuple ds => ds | _ => []
section
variable {K : PySem.W.Frag} {σ : L2.St} {G H : Hp} {tl te : TE} {ds : List PyData}
/-- over a tuple, from any heap on -/
theorem lc_tupAt {a : Addr} {ys : List V} {g : TG} {tt : TT} {vs : List Nat} {H4 : Hp} {D : Addr} {Qd : Hp → Prop} (Pv : Nat → Hp → Prop) (h0 : Pv 0 H4) (hl : ∀ i H, i ≤ ys.length → Pv i H → SqT K H a ys)
    (hs : ∀ i x H, ys[i]? = some x → Pv i H → g x (wipe σ vs) H fun σ2 H2 => wipe σ2 vs = wipe σ vs ∧ tt σ2 H2 fun b H3 =>
      if b = true then te σ2 H3 fun y H5 => ∃ acc, H5 D = some (.lst acc) ∧ acc.length < sizeLine ∧ Pv (i + 1) (upd H5 D (.lst (acc ++ [y]))) else Pv (i + 1) H3) (hd : ∀ H, Pv ys.length H → Qd H) :
    ∃ W : Nat → Nat → Hp → Prop, (∃ m, W 0 m H4) ∧ ∀ i m H, W i m H →
      ((Itt K a).stop i H ∧ Qd H) ∨ ((Itt K a).go i H ∧ ∃ N : Hp → Prop, (∀ H', N H' → ∃ m', m' < m ∧ W (i + 1) m' H') ∧ ∀ x H', (Itt K a).yld i H x H' → g x (wipe σ vs) H' fun σ2 H2 => wipe σ2 vs = wipe σ vs ∧ tt σ2 H2 fun b H3 =>
        if b = true then te σ2 H3 fun y H5 => ∃ acc, H5 D = some (.lst acc) ∧ acc.length < sizeLine ∧ N (upd H5 D (.lst (acc ++ [y]))) else N H3) := by
  refine ⟨fun i m H => i + m = ys.length ∧ Pv i H, ⟨ys.length, Nat.zero_add _, h0⟩, fun i m H w => ?_⟩
  obtain ⟨em, p⟩ := w
  have st := hl i H (by omega) p
  cases m with
  | zero =>
    have ei : i = ys.length := by omega
    subst ei
    exact .inl ⟨⟨ys, st, Nat.le_refl _⟩, hd H p⟩
  | succ m =>
    have li : i < ys.length := by omega
    refine .inr ⟨⟨ys, ys[i], st, List.getElem?_eq_getElem li⟩, Pv (i + 1), fun H' p' => ⟨m, Nat.lt_succ_self m, by omega, p'⟩, fun x H' yl => ?_⟩
    obtain ⟨same, it⟩ := yl
    subst same
    exact hs i x _ (it ys st) p
theorem en_lc2 {i j : Nat} {vs : List Nat} (f : PyData → PyData) (h : EvD K tl σ G (.list ds)) (hw : ∀ v, wipe ((wipe σ vs).set i (some v)) vs = wipe σ vs) (hi : ∀ v, ((wipe σ vs).set i (some v))[i]? = some (some v))
    (hw1 : ∀ v u, wipe ((wipe ((wipe σ vs).set i (some v)) [j]).set j (some u)) [j] = wipe ((wipe σ vs).set i (some v)) [j]) (hz : (ds.flatMap itemsOf').length ≤ sizeLine) (h3 : ∀ d ∈ ds, ∃ es, d = .tuple es)
    (he : ∀ es v u x Gi, PyData.tuple es ∈ ds → x ∈ es → Same G Gi → Dp K Gi u x → EvD K te ((wipe ((wipe σ vs).set i (some v)) [j]).set j (some u)) Gi (f x)) :
    EvN K (tLc2 (iList K tl) (gName i) tYes (iTup K (tVar i)) (gName j) tYes te vs [j]) σ G ((ds.flatMap itemsOf').map f) := fun H s Q q => h H s _ fun v G1 H1 n1 hv => by
  cases hv with
  | @lst a xs _ hs ha =>
    have lx := dpa_length ha
    refine ⟨a, rfl, ⟨xs, n1.gh.seq hs⟩, fun D hD => ?_⟩
    refine ⟨fun k m Hc => k + m = xs.length ∧ LcI K G1 H1 D (((ds.take k).flatMap itemsOf').map f) Hc, ⟨xs.length, Nat.zero_add _, LcI.start n1.gh hD⟩, fun k m Hc w => ?_⟩
    obtain ⟨em, p⟩ := w
    obtain ⟨Gi, acc, n, gD, eD, _⟩ := id p.ex
    have st : SqL K Hc a xs := (n1.gh.trans n.hh).seq hs
    cases m with
    | zero =>
      have ek : k = xs.length := by omega
      subst ek
      refine .inl ⟨⟨xs, st, Nat.le_refl _⟩, ?_⟩
      rw [lx, List.take_length] at p
      exact p.finN n1 hD q
    | succ m =>
      have lk : k < xs.length := by omega
      refine .inr ⟨⟨xs, xs[k], st, List.getElem?_eq_getElem lk⟩, fun H' => LcI K G1 H1 D (((ds.take (k + 1)).flatMap itemsOf').map f) H', fun H' p' => ⟨m, Nat.lt_succ_self m, by omega, p'⟩, fun x H' yl => ?_⟩
      obtain ⟨same, it⟩ := yl
      subst same
      have hx := it xs st
      obtain ⟨dk, hdk, hdx⟩ := dpa_get ha hx
      have hm : dk ∈ ds := List.mem_of_getElem? hdk
      obtain ⟨es, rfl⟩ := h3 dk hm
      have hdi := dp_mono n.gg _ hdx
      cases hdx with
      | @tup b ys _ hb hya =>
        have ly := dpa_length hya
        refine ⟨hw _, tyes ?_⟩
        refine ⟨_, hi _, b, rfl, ⟨ys, same_tup (n.gg.trans n.gh) hb⟩, ?_⟩
        have et : ds.take (k + 1) = ds.take k ++ [.tuple es] := by
          rw [List.take_add_one, hdk]
          rfl
        have tot : ((ds.take k).flatMap itemsOf').length + es.length ≤ sizeLine := by
          have e1 : ds = ds.take k ++ (.tuple es :: ds.drop (k + 1)) := by
            have := List.take_append_drop (k + 1) ds
            rw [et, List.append_assoc] at this
            exact this.symm
          rw [e1, List.flatMap_append, List.flatMap_cons, List.length_append, List.length_append] at hz
          have : (itemsOf' (.tuple es)).length = es.length := rfl
          omega
        refine lc_tupAt (K := K) (ys := ys) (a := b) (fun jj Hj => LcI K G1 H1 D ((((ds.take k).flatMap itemsOf') ++ es.take jj).map f) Hj) (by rw [List.take_zero, List.append_nil]; exact p) (fun jj Hj _ pj => ?_) (fun jj u Hj hu pj => ?_) fun Hj pj => ?_
        · obtain ⟨Gj, _, nj, _⟩ := pj.ex
          exact same_tup (nj.gg.trans nj.gh) hb
        · obtain ⟨ex, hex, hdu⟩ := dpa_get hya hu
          refine ⟨hw1 _ _, ?_⟩
          obtain ⟨Gj, _, nj, _⟩ := id pj.ex
          refine LcI.turn (b := true) (e := f ex) hD pj ?_ (fun Gi _ => eb_yes) (fun _ G5 s5 => ?_) fun H5 p5 => ?_
          · rw [List.length_map, List.length_append, List.length_take]
            have := (List.getElem?_eq_some_iff.mp hex).1
            omega
          · exact he es _ _ ex G5 hm (List.mem_of_getElem? hex) (n1.gg.trans s5) (dp_mono s5 _ hdu)
          · have e2 : es.take (jj + 1) = es.take jj ++ [ex] := by
              rw [List.take_add_one, hex]
              rfl
            rw [e2, ← List.append_assoc, List.map_append]
            exact p5
        · rw [ly, List.take_length] at pj
          rw [et, List.flatMap_append, List.flatMap_cons, List.flatMap_nil, List.append_nil]
          exact pj
end
theorem blkOk_any {N : List Str} {sc scope : Scope} {own : List (Str × Nat)} (h : blkC N { scope with names := [] } scope own = true) : BlkOk N sc scope own := by
  have b := blkOk_by h
  refine ⟨b.kind, b.uniq, b.ix, fun y hy e => ?_, b.own⟩
  rcases b.free y hy e with z | z
  · cases z
  · cases z
theorem rcl_any {K : PySem.W.Frag} {bs : List Bool} : RCl K (rAny K) [.list (bs.map .bool)] (.bool (bs.any id)) := fun G H s vs hv Q q => by
  cases hv with
  | cons h t =>
    cases t
    cases h with
    | lst hs ha =>
      rw [dpa_bools ha] at hs
      exact ⟨_, bs, rfl, s.seq hs, q _ G H (Nx.refl s) (.bl _)⟩
end Gw
namespace Gw
open PySem PySem.Spec PyProof.Rows L2 LamX
/-! ### groups behind a change -/
section
variable {K : PySem.W.Frag} {σ : L2.St} {G : Hp} {tb tr : TE} {CG CB : Addr} {E : XK} {bs : List Int} {rs : List Rl}
theorem eg_bkT (V : BkR bs rs) (hb : EvD K tb σ G (wD bs)) (hr : EvD K tr σ G (.tuple (rs.map ruleD))) : EvG K CG (tMake CG (spGI K CG CB) [] E (tCons tb (tCons tr tNil))) σ G (bs.map .int) (rs.map ruleD) :=
  eg_make (x := .tuple (rs.map ruleD)) hb hr V.B.is (by rw [List.length_map]; have := V.B.six; omega) (by rw [List.length_map]; exact areT_ok V.R V.L) (szT V.R (by have := V.L; omega))
theorem eg_bkL (V : BkR bs rs) (hb : EvD K tb σ G (wD bs)) (hr : EvD K tr σ G (.list (rs.map ruleD))) : EvG K CG (tMake CG (spGI K CG CB) [] E (tCons tb (tCons tr tNil))) σ G (bs.map .int) (rs.map ruleD) :=
  eg_make (x := .list (rs.map ruleD)) hb hr V.B.is (by rw [List.length_map]; have := V.B.six; omega) (by rw [List.length_map]; exact areL_ok V.R V.L) (szL V.R (by have := V.L; omega))
theorem sz_words {ws : List Int} (h : ws.length ≤ 1000) : Sized (wD ws) := by
  show (ws.map PyData.int).length ≤ sizeLine
  have : 1000 ≤ sizeLine := by decide
  rw [List.length_map]
  omega
end
section
variable {P : Program} {w : World} {K : PySem.W.Frag} {mg : Str → Option Value} {base : Heap} {f : Addr} {fd : FuncData} {CG CN CX CB fN : Addr}
def R_with_rule : List Int → List Rl → List PyData → Except Str (List Int × List Rl) → Prop := fun bs rs ds res => ∃ a b, ds = [wD a, wD b] ∧ BkR bs rs ∧ (Chg.put a b).Ok ∧ res = chG bs rs (.put a b)
theorem ok_with_rule (D : DefAt K mg "with_rule" s_with_rule P_with_rule f fd) (T : Bt mg) (t_NotLet : PySem.SupX.SupTxt P K mg "NotLet" "why" CN fN) {t40 : Tok} (c_MOST_RULES : mg "MOST_RULES" = some (.int 40 t40)) (OC : OwnC K CG) (na : NoAttr K CG "back") (nr : NoAttr K CG "rules") (h_Group : MkX P w K mg base "Group" P_Groupinit ["rules", "back"] 7 CG (spGI K CG CB) gR gR) (h_is_row : Ok P w K mg base "is_row" P_is_row 3 (SpD K R_is_row)) :
    OkX P w K mg base "with_rule" s_with_rule P_with_rule 9 (spNG K CG CN R_with_rule) := by
  refine D.okX (D.F.okX sc_with_rule (fun vs H Q E h => ?_) fun cdv A outer s H vs Q E hr h => ?_)
  · obtain ⟨G, g, ws, bs, rs, ds, res, _, rfl, _, ha, ⟨a, b, rfl, _⟩, _⟩ := h
    rw [List.length_cons, dpa_length ha]; rfl
  have S := sc_with_rule
  obtain ⟨G, g, ws, bs, rs, ds, res, hs, rfl, hg, ha, ⟨a, b, rfl, V, hc, rfl⟩, q1, q2⟩ := h
  obtain _ | ⟨h1, _ | ⟨h2, _ | _⟩⟩ := ha
  refine ⟨_, (pss_cons (ps_set (i := 3) S.nd rfl (by first | exact .inl rfl | exact .inr rfl) (pe_callB (q_len K rfl) (by rfl) T.len PySem.boot_len (pa_cons (pe_fld (pv 0) rfl) pa_nil)))
  (pss_cons (ps_if (PW.pt (pw_or (pt_not (pt_val (pe_ok h_is_row (hr.mono (by decide)) (by rfl) (pa_cons (pv 3) (pa_cons (pv 1) pa_nil))))) (pw_or1 (pt_not (pt_val (pe_ok h_is_row (hr.mono (by decide)) (by rfl) (pa_cons (pv 3) (pa_cons (pv 2) pa_nil)))))))) (pss_one (ps_raise rfl (takes_of rfl rfl rfl rfl) (pmk_sup t_NotLet hr (pa_cons pe_str pa_nil) (by rfl)))) pss_nil)
  (pss_cons (ps_if (pt_cmpR op_eq (pe_callB (q_len K rfl) (by rfl) T.len PySem.boot_len (pa_cons (pe_fld (pv 0) rfl) pa_nil)) (pe_glob (v := .int 40) (by rfl) c_MOST_RULES ⟨_, rfl⟩) (nomark _)) (pss_one (ps_raise rfl (takes_of rfl rfl rfl rfl) (pmk_sup t_NotLet hr (pa_cons pe_str pa_nil) (by rfl)))) pss_nil)
  (pss_one (ps_ret (pe_mkX h_Group (passes_call (takes_of rfl rfl rfl rfl) fun _ _ _ _ h => h) (hr.mono (by decide)) (by rfl) (pa_cons (pe_fld (pv 0) rfl) (pa_cons (pe_op (q_catT K rfl) (pe_fld (pv 0) rfl) (pe_tup (pa_cons (pe_tup (pa_cons (pv 1) (pa_cons (pv 2) pa_nil))) pa_nil))) pa_nil)))))))), ?_⟩
  have big : 100000 ≤ sizeLine := by decide
  refine seq_let (K := K) (G := G) (i := 3) (d := .int (bs.length : Int)) (EvD.cast (ed_cb (ea_cons (ed_gb OC na (eg_var (i := 0) rfl hg)) ea_nil) rcl_len) (by rw [List.length_map])) hs fun vf G1 H1 n1 hf => ?_
  have h1 := dp_mono n1.gg _ h1
  have h2 := dp_mono n1.gg _ h2
  have hg1 := hg.mono n1.gg
  have la := hc.1.2
  have lb := hc.2.2
  refine seq_ifB (K := K) (G := G1) (b := !lets bs.length a || !lets bs.length b) (eb_or (eb_not (eb_B (EvD.cast (ed_call (ea_cons (ed_var (i := 3) rfl hf) (ea_cons (ed_var (i := 1) rfl h1) ea_nil)) (R := R_is_row) (E := E0) ⟨_, wD a, rfl, sz_words (by omega), rfl⟩) (congrArg PyData.bool isRow_lets)))) fun _ => eb_not (eb_B (EvD.cast (ed_call (ea_cons (ed_var (i := 3) rfl hf) (ea_cons (ed_var (i := 2) rfl h2) ea_nil)) (R := R_is_row) (E := E0) ⟨_, wD b, rfl, sz_words (by omega), rfl⟩) (congrArg PyData.bool isRow_lets)))) n1.gh (fun hb Ga Ha na' => ?_) fun hb Ga Ha na' => ?_
  · have e : chG bs rs (.put a b) = .error "word" := if_neg (by
      rw [Bool.and_eq_true]
      rw [Bool.or_eq_true] at hb
      rintro ⟨z1, z2⟩
      rcases hb with z | z
      · rw [z1] at z; cases z
      · rw [z2] at z; cases z)
    rw [e] at q2
    exact ⟨_, rfl, fun d hd => q2 _ rfl d _ ((n1.trans na').hh.trans (same_upd hd)) upd_same⟩
  have hl : (lets bs.length a && lets bs.length b) = true := by
    rw [Bool.or_eq_false_iff] at hb
    rw [not_f hb.1, not_f hb.2]; rfl
  have hg2 := hg1.mono na'.gg
  have el : chG bs rs (.put a b) = if rs.length = 40 then .error "many" else .ok (bs, rs ++ [(a, b)]) := if_pos hl
  refine seq_ifB (K := K) (G := Ga) (b := decide (rs.length = 40)) (EvB.cast (eb_test (ed_op (ed_cb (ea_cons (ed_gr OC nr (eg_var (i := 0) rfl hg2)) ea_nil) rcl_len) (ed_c (.int 40)) ro_eqI)) (decide_eq_decide.mpr (by rw [List.length_map]; omega))) na'.gh (fun hb2 Gb Hb nb => ?_) fun hb2 Gb Hb nb => ?_
  · have e : chG bs rs (.put a b) = .error "many" := by rw [el, if_pos (of_decide_eq_true hb2)]
    rw [e] at q2
    exact ⟨_, rfl, fun d hd => q2 _ rfl d _ ((n1.trans (na'.trans nb)).hh.trans (same_upd hd)) upd_same⟩
  have e : chG bs rs (.put a b) = .ok (bs, rs ++ [(a, b)]) := by rw [el, if_neg (of_decide_eq_false hb2)]
  rw [e] at q1
  have V' := chG_ok V hc e
  have hg3 := hg2.mono nb.gg
  have s13 := na'.gg.trans nb.gg
  have lr := V.L
  exact (eg_bkT (bs := bs) (rs := rs ++ [(a, b)]) V' (ed_gb OC na (eg_var (i := 0) rfl hg3)) (EvD.cast (ed_op (z := .tuple (rs.map ruleD ++ [ruleD (a, b)])) (ed_gr OC nr (eg_var (i := 0) rfl hg3)) (ed_tup (ea_cons (ed_tup (ea_cons (ed_var (i := 1) rfl (dp_mono s13 _ h1)) (ea_cons (ed_var (i := 2) rfl (dp_mono s13 _ h2)) ea_nil)) (by show 2 ≤ sizeLine; omega)) ea_nil) (by show 1 ≤ sizeLine; omega)) (ro_cat (by rw [List.length_map]; show _ + 1 ≤ _; omega))) (by rw [List.map_append]; rfl))) Hb nb.gh _ fun g' G' H' n' hg' => q1 _ rfl g' G' H' (n1.trans (na'.trans (nb.trans n'))) hg'
def R_without_rule : List Int → List Rl → List PyData → Except Str (List Int × List Rl) → Prop := fun bs rs ds res => ∃ k : Nat, ds = [.int (k : Int)] ∧ BkR bs rs ∧ (Chg.drop k).Ok ∧ res = chG bs rs (.drop k)
theorem ok_without_rule (D : DefAt K mg "without_rule" s_without_rule P_without_rule f fd) (T : Bt mg) (t_NotLet : PySem.SupX.SupTxt P K mg "NotLet" "why" CN fN) (OC : OwnC K CG) (na : NoAttr K CG "back") (nr : NoAttr K CG "rules") (h_Group : MkX P w K mg base "Group" P_Groupinit ["rules", "back"] 7 CG (spGI K CG CB) gR gR) :
    OkX P w K mg base "without_rule" s_without_rule P_without_rule 9 (spNG K CG CN R_without_rule) := by
  refine D.okX (D.F.okX sc_without_rule (fun vs H Q E h => ?_) fun cdv A outer s H vs Q E hr h => ?_)
  · obtain ⟨G, g, ws, bs, rs, ds, res, _, rfl, _, ha, ⟨k, rfl, _⟩, _⟩ := h
    rw [List.length_cons, dpa_length ha]; rfl
  have S := sc_without_rule
  obtain ⟨G, g, ws, bs, rs, ds, res, hs, rfl, hg, ha, ⟨k, rfl, V, hc, rfl⟩, q1, q2⟩ := h
  obtain _ | ⟨h1, _ | _⟩ := ha
  refine ⟨_, (pss_cons (ps_if (pt_cmpR op_ge (pv 1) (pe_callB (q_len K rfl) (by rfl) T.len PySem.boot_len (pa_cons (pe_fld (pv 0) rfl) pa_nil)) (nomark _)) (pss_one (ps_raise rfl (takes_of rfl rfl rfl rfl) (pmk_sup t_NotLet hr (pa_cons pe_str pa_nil) (by rfl)))) pss_nil)
  (pss_one (ps_ret (pe_mkX h_Group (passes_call (takes_of rfl rfl rfl rfl) fun _ _ _ _ h => h) (hr.mono (by decide)) (by rfl) (pa_cons (pe_fld (pv 0) rfl) (pa_cons (pe_op (q_catT K rfl) (pe_slice (q_slT K rfl) (pe_fld (pv 0) rfl) po_none (po_some (pv 1))) (pe_slice (q_slT K rfl) (pe_fld (pv 0) rfl) (po_some (pe_op op_add (pv 1) pe_int)) po_none)) pa_nil)))))), ?_⟩
  have big : 100000 ≤ sizeLine := by decide
  have lr := V.L
  refine seq_ifB (K := K) (G := G) (b := decide (rs.length ≤ k)) (EvB.cast (eb_test (ed_op (ed_var (i := 1) rfl h1) (ed_cb (ea_cons (ed_gr OC nr (eg_var (i := 0) rfl hg)) ea_nil) rcl_len) ro_b)) (decide_eq_decide.mpr (by rw [List.length_map]; omega))) hs (fun hb Ga Ha na' => ?_) fun hb Ga Ha na' => ?_
  · have e : chG bs rs (.drop k) = .error "place" := if_pos (of_decide_eq_true hb)
    rw [e] at q2
    exact ⟨_, rfl, fun d hd => q2 _ rfl d _ (na'.hh.trans (same_upd hd)) upd_same⟩
  have e : chG bs rs (.drop k) = .ok (bs, rs.take k ++ rs.drop (k + 1)) := if_neg (of_decide_eq_false hb)
  rw [e] at q1
  have V' := chG_ok V hc e
  have hg2 := hg.mono na'.gg
  have h1 := dp_mono na'.gg _ h1
  exact (eg_bkT (bs := bs) (rs := rs.take k ++ rs.drop (k + 1)) V' (ed_gb OC na (eg_var (i := 0) rfl hg2)) (EvD.cast (ed_op (z := .tuple ((rs.take k).map ruleD ++ (rs.drop (k + 1)).map ruleD))
    (EvD.cast (ed_slT (lo := none) (hi := some (k : Int)) (ed_gr OC nr (eg_var (i := 0) rfl hg2)) eo_none (eo_some (ed_var (i := 1) rfl h1))) (by rw [cutD_to, List.map_take]))
    (EvD.cast (ed_slT (lo := some ((k + 1 : Nat) : Int)) (hi := none) (ed_gr OC nr (eg_var (i := 0) rfl hg2)) (eo_some (EvD.cast (ed_op (ed_var (i := 1) rfl h1) ed_int ro_i) (by rfl))) eo_none) (by rw [cutD_from, List.map_drop]))
    (ro_cat (by rw [List.length_map, List.length_map]; have := left_len (rs := rs) (p := k); rw [List.length_append] at this; omega))) (by rw [List.map_append]))) Ha na'.gh _ fun g' G' H' n' hg' => q1 _ rfl g' G' H' (na'.trans n') hg'
def R_with_letters : List Int → List Rl → List PyData → Except Str (List Int × List Rl) → Prop := fun bs rs ds res => ∃ a, ds = [wD a] ∧ BkR bs rs ∧ (Chg.letter a).Ok ∧ res = chG bs rs (.letter a)
theorem ok_with_letters (D : DefAt K mg "with_letters" s_with_letters P_with_letters f fd) (T : Bt mg) (t_NotLet : PySem.SupX.SupTxt P K mg "NotLet" "why" CN fN) {t40 t12 : Tok} (c_MOST_RULES : mg "MOST_RULES" = some (.int 40 t40)) (c_MOST_BACK : mg "MOST_BACK" = some (.int 12 t12)) (OC : OwnC K CG) (na : NoAttr K CG "back") (nr : NoAttr K CG "rules") (h_Group : MkX P w K mg base "Group" P_Groupinit ["rules", "back"] 7 CG (spGI K CG CB) gR gR) (h_is_row : Ok P w K mg base "is_row" P_is_row 3 (SpD K R_is_row)) :
    OkX P w K mg base "with_letters" s_with_letters P_with_letters 9 (spNG K CG CN R_with_letters) := by
  refine D.okX (D.F.okX sc_with_letters (fun vs H Q E h => ?_) fun cdv A outer s H vs Q E hr h => ?_)
  · obtain ⟨G, g, ws, bs, rs, ds, res, _, rfl, _, ha, ⟨a, rfl, _⟩, _⟩ := h
    rw [List.length_cons, dpa_length ha]; rfl
  have S := sc_with_letters
  obtain ⟨G, g, ws, bs, rs, ds, res, hs, rfl, hg, ha, ⟨a, rfl, V, hc, rfl⟩, q1, q2⟩ := h
  obtain _ | ⟨h1, _ | _⟩ := ha
  refine ⟨_, (pss_cons (ps_set (i := 2) S.nd rfl (by first | exact .inl rfl | exact .inr rfl) (pe_callB (q_len K rfl) (by rfl) T.len PySem.boot_len (pa_cons (pe_fld (pv 0) rfl) pa_nil)))
  (pss_cons (ps_if (pt_cmpR op_gt (pe_op op_add (pv 2) pe_int) (pe_glob (v := .int 12) (by rfl) c_MOST_BACK ⟨_, rfl⟩) (nomark _)) (pss_one (ps_raise rfl (takes_of rfl rfl rfl rfl) (pmk_sup t_NotLet hr (pa_cons pe_str pa_nil) (by rfl)))) pss_nil)
  (pss_cons (ps_if (pt_not (pt_val (pe_ok h_is_row (hr.mono (by decide)) (by rfl) (pa_cons (pv 2) (pa_cons (pv 1) pa_nil))))) (pss_one (ps_raise rfl (takes_of rfl rfl rfl rfl) (pmk_sup t_NotLet hr (pa_cons pe_str pa_nil) (by rfl)))) pss_nil)
  (pss_cons (ps_if (pt_cmpR op_eq (pe_callB (q_len K rfl) (by rfl) T.len PySem.boot_len (pa_cons (pe_fld (pv 0) rfl) pa_nil)) (pe_glob (v := .int 40) (by rfl) c_MOST_RULES ⟨_, rfl⟩) (nomark _)) (pss_one (ps_raise rfl (takes_of rfl rfl rfl rfl) (pmk_sup t_NotLet hr (pa_cons pe_str pa_nil) (by rfl)))) pss_nil)
  (pss_one (ps_ret (pe_mkX h_Group (passes_call (takes_of rfl rfl rfl rfl) fun _ _ _ _ h => h) (hr.mono (by decide)) (by rfl) (pa_cons (pe_op (q_catT K rfl) (pe_fld (pv 0) rfl) (pe_tup (pa_cons (pe_op op_add (pv 2) pe_int) (pa_cons (pv 2) pa_nil)))) (pa_cons (pe_op (q_catT K rfl) (pe_fld (pv 0) rfl) (pe_tup (pa_cons (pe_tup (pa_cons (pe_tup (pa_cons (pv 2) pa_nil)) (pa_cons (pv 1) pa_nil))) pa_nil))) pa_nil))))))))), ?_⟩
  have big : 100000 ≤ sizeLine := by decide
  have la : a.length ≤ 40 := hc.2
  have lr := V.L
  have b12 := V.B.six
  refine seq_let (K := K) (G := G) (i := 2) (d := .int (bs.length : Int)) (EvD.cast (ed_cb (ea_cons (ed_gb OC na (eg_var (i := 0) rfl hg)) ea_nil) rcl_len) (by rw [List.length_map])) hs fun vf G1 H1 n1 hf => ?_
  have h1 := dp_mono n1.gg _ h1
  have hg1 := hg.mono n1.gg
  refine seq_ifB (K := K) (G := G1) (b := decide (12 < bs.length + 2)) (EvB.cast (eb_test (ed_op (ed_op (ed_var (i := 2) rfl hf) ed_int ro_i) (ed_c (.int 12)) ro_b)) (decide_eq_decide.mpr (by omega))) n1.gh (fun hb Ga Ha na' => ?_) fun hb Ga Ha na' => ?_
  · have e : chG bs rs (.letter a) = .error "letters" := if_pos (of_decide_eq_true hb)
    rw [e] at q2
    exact ⟨_, rfl, fun d hd => q2 _ rfl d _ ((n1.trans na').hh.trans (same_upd hd)) upd_same⟩
  have e1 : chG bs rs (.letter a) = if lets bs.length a then if rs.length = 40 then .error "many" else .ok (bs ++ [(bs.length : Int) + 1, (bs.length : Int)], rs ++ [([(bs.length : Int)], a)]) else .error "word" := if_neg (of_decide_eq_false hb)
  refine seq_ifB (K := K) (G := Ga) (b := !lets bs.length a) (eb_not (eb_B (EvD.cast (ed_call (ea_cons (ed_var (i := 2) rfl (dp_mono na'.gg _ hf)) (ea_cons (ed_var (i := 1) rfl (dp_mono na'.gg _ h1)) ea_nil)) (R := R_is_row) (E := E0) ⟨_, wD a, rfl, sz_words (by omega), rfl⟩) (congrArg PyData.bool isRow_lets)))) na'.gh (fun hb2 Gb Hb nb => ?_) fun hb2 Gb Hb nb => ?_
  · have e : chG bs rs (.letter a) = .error "word" := by rw [e1, if_neg (by rw [not_t hb2]; exact Bool.false_ne_true)]
    rw [e] at q2
    exact ⟨_, rfl, fun d hd => q2 _ rfl d _ ((n1.trans (na'.trans nb)).hh.trans (same_upd hd)) upd_same⟩
  have e2 : chG bs rs (.letter a) = if rs.length = 40 then .error "many" else .ok (bs ++ [(bs.length : Int) + 1, (bs.length : Int)], rs ++ [([(bs.length : Int)], a)]) := by rw [e1, if_pos (not_f hb2)]
  have hg2 := hg1.mono (na'.gg.trans nb.gg)
  refine seq_ifB (K := K) (G := Gb) (b := decide (rs.length = 40)) (EvB.cast (eb_test (ed_op (ed_cb (ea_cons (ed_gr OC nr (eg_var (i := 0) rfl hg2)) ea_nil) rcl_len) (ed_c (.int 40)) ro_eqI)) (decide_eq_decide.mpr (by rw [List.length_map]; omega))) nb.gh (fun hb3 Gc Hc nc => ?_) fun hb3 Gc Hc nc => ?_
  · have e : chG bs rs (.letter a) = .error "many" := by rw [e2, if_pos (of_decide_eq_true hb3)]
    rw [e] at q2
    exact ⟨_, rfl, fun d hd => q2 _ rfl d _ ((n1.trans (na'.trans (nb.trans nc))).hh.trans (same_upd hd)) upd_same⟩
  have e : chG bs rs (.letter a) = .ok (bs ++ [(bs.length : Int) + 1, (bs.length : Int)], rs ++ [([(bs.length : Int)], a)]) := by rw [e2, if_neg (of_decide_eq_false hb3)]
  rw [e] at q1
  have V' := chG_ok V hc e
  have hg3 := hg2.mono nc.gg
  have sc := na'.gg.trans (nb.gg.trans nc.gg)
  have hf3 := dp_mono sc _ hf
  exact (eg_bkT V' (EvD.cast (ed_op (z := .tuple (bs.map .int ++ ([(bs.length : Int) + 1, (bs.length : Int)] : List Int).map .int)) (ed_gb OC na (eg_var (i := 0) rfl hg3)) (ed_tup (ea_cons (ed_op (ed_var (i := 2) rfl hf3) ed_int ro_i) (ea_cons (ed_var (i := 2) rfl hf3) ea_nil)) (by show 2 ≤ sizeLine; omega)) (ro_cat (by rw [List.length_map]; show _ + 2 ≤ _; omega))) (by show PyData.tuple _ = PyData.tuple _; rw [List.map_append]))
    (EvD.cast (ed_op (z := .tuple (rs.map ruleD ++ [ruleD ([(bs.length : Int)], a)])) (ed_gr OC nr (eg_var (i := 0) rfl hg3)) (ed_tup (ea_cons (ed_tup (ea_cons (ed_tup (ea_cons (ed_var (i := 2) rfl hf3) ea_nil) (by show 1 ≤ sizeLine; omega)) (ea_cons (ed_var (i := 1) rfl (dp_mono sc _ h1)) ea_nil)) (by show 2 ≤ sizeLine; omega)) ea_nil) (by show 1 ≤ sizeLine; omega)) (ro_cat (by rw [List.length_map]; show _ + 1 ≤ _; omega))) (by rw [List.map_append]; rfl))) Hc nc.gh _ fun g' G' H' n' hg' => q1 _ rfl g' G' H' (n1.trans (na'.trans (nb.trans (nc.trans n')))) hg'
end
end Gw
namespace Gw
open PySem PySem.Spec PyProof.Rows L2 LamX
theorem cutD_neg2 {ds : List PyData} : cutD ds none (some (-2)) = ds.take (ds.length - 2) := by
  unfold cutD
  rw [HT.sIx_none, List.drop_zero, Nat.sub_zero]
  congr 1
  show (if (-2 : Int) < 0 then ((-2 : Int) + (ds.length : Int)).toNat else min (-2 : Int).toNat ds.length) = _
  rw [if_pos (by decide)]
  omega
theorem ed_negI {K : PySem.W.Frag} {σ : L2.St} {G : Hp} {k : Int} : EvD K (tUn (rU fun i => V.int (-i)) (tC (.int k))) σ G (.int (-k)) := fun H s Q q => ⟨k, rfl, q _ G H (Nx.refl s) (.int _)⟩
/-- a, b = .. of a tuple that a def hands back -/
theorem pair_vs {K : PySem.W.Frag} {G : Hp} {v : V} {x y : PyData} (h : Dp K G v (.tuple [x, y])) : ∃ (a : Addr) (u w : V), v = .ref a ∧ SqT K G a [u, w] ∧ Dp K G u x ∧ Dp K G w y := by
  cases h with
  | @tup a xs _ hs ha =>
    obtain _ | ⟨h1, _ | ⟨h2, _ | _⟩⟩ := ha
    exact ⟨a, _, _, rfl, hs, h1, h2⟩
section
variable {P : Program} {w : World} {K : PySem.W.Frag} {mg : Str → Option Value} {base : Heap} {f : Addr} {fd : FuncData} {CG CN CX CW CB fN : Addr}
def R_without_letters : List Int → List Rl → List PyData → Except Str (List Int × List Rl) → Prop := fun bs rs ds res => ds = [] ∧ BkR bs rs ∧ res = chG bs rs .unletter
theorem ok_without_letters (D : DefAt K mg "without_letters" s_without_letters P_without_letters f fd) (T : Bt mg) (t_NotLet : PySem.SupX.SupTxt P K mg "NotLet" "why" CN fN) {t40 : Tok} (c_MOST_SIDE : mg "MOST_SIDE" = some (.int 40 t40)) (OC : OwnC K CG) (na : NoAttr K CG "back") (nr : NoAttr K CG "rules") (h_Group : MkX P w K mg base "Group" P_Groupinit ["rules", "back"] 7 CG (spGI K CG CB) gR gR)
    (h_meaning_of_last : OkX P w K mg base "meaning_of_last" s_meaning_of_last P_meaning_of_last 5 (spND K CG CN R_last)) (h_replaced : Ok P w K mg base "replaced" P_replaced 2 (SpD K R_replaced)) :
    OkX P w K mg base "without_letters" s_without_letters P_without_letters 9 (spNG K CG CN R_without_letters) := by
  refine D.okX (D.F.okX sc_without_letters (fun vs H Q E h => ?_) fun cdv A outer s H vs Q E hr h => ?_)
  · obtain ⟨G, g, ws, bs, rs, ds, res, _, rfl, _, ha, ⟨rfl, _⟩, _⟩ := h
    rw [List.length_cons, dpa_length ha]; rfl
  have S := sc_without_letters
  obtain ⟨G, g, ws, bs, rs, ds, res, hs, rfl, hg, ha, ⟨rfl, V, rfl⟩, q1, q2⟩ := h
  cases ha
  refine ⟨_, (pss_cons (ps_asg (pe_okX h_meaning_of_last (passes_call (takes_of rfl rfl rfl rfl) fun _ _ _ _ h => h) (hr.mono (by decide)) (by rfl) (pa_cons (pv 0) pa_nil)) (q_gT K 2 rfl rfl (pgs_cons (pg_name (i := 1) S.nd rfl (by first | exact .inl rfl | exact .inr rfl)) (pgs_cons (pg_name (i := 2) S.nd rfl (by first | exact .inl rfl | exact .inr rfl)) pgs_nil))))
  (pss_cons (ps_set (i := 3) S.nd rfl (by first | exact .inl rfl | exact .inr rfl) (pe_lst pa_nil))
  (pss_cons (ps_for PassesOwn.leaving rfl (q_iT K rfl (pe_op (q_catT K rfl) (pe_slice (q_slT K rfl) (pe_fld (pv 0) rfl) po_none (po_some (pv 1))) (pe_slice (q_slT K rfl) (pe_fld (pv 0) rfl) (po_some (pe_op op_add (pv 1) pe_int)) po_none))) (q_gT K 2 rfl rfl (pgs_cons (pg_name (i := 4) S.nd rfl (by first | exact .inl rfl | exact .inr rfl)) (pgs_cons (pg_name (i := 5) S.nd rfl (by first | exact .inl rfl | exact .inr rfl)) pgs_nil))) (pss_one (ps_expr (pe_bm PySem.F.plainAttrs_list PySem.F.slot_list_append PySem.F.type_list_append mt_append (pv 3) (pa_cons (pe_tup (pa_cons (pe_ok h_replaced (hr.mono (by decide)) (by rfl) (pa_cons (pe_fld (pv 0) rfl) (pa_cons (pv 2) (pa_cons (pv 4) pa_nil)))) (pa_cons (pe_ok h_replaced (hr.mono (by decide)) (by rfl) (pa_cons (pe_fld (pv 0) rfl) (pa_cons (pv 2) (pa_cons (pv 5) pa_nil)))) pa_nil))) pa_nil)))))
  (pss_cons (ps_if (pt_val (pe_callB (q_any K rfl rfl) (by rfl) T.any (by decide +kernel) (pa_cons (pe_lc2 (own := [("rule", 6), ("side", 7)]) (vs1 := [7]) (g := gName 6) (g1 := gName 7) (by rfl) S.nd (q_iL K rfl (pv 3)) (blkOk_any (N := N_without_letters) (sc := defScope s_without_letters) (by decide +kernel)) (by decide) (fun _ _ _ _ _ => (pg_name (i := 6) S.nd rfl (by first | exact .inl rfl | exact .inr rfl))) (fun _ _ _ _ _ => pts_nil) (fun _ _ _ _ _ => (q_iT K rfl (pv 6))) (fun _ _ _ _ _ => (pg_name (i := 7) S.nd rfl (by first | exact .inl rfl | exact .inr rfl))) (fun _ _ _ _ _ => pts_nil) (fun _ _ _ _ _ => (pe_cmpR op_gt (pe_callB (q_len K rfl) (by rfl) T.len PySem.boot_len (pa_cons (pv 7) pa_nil)) (pe_glob (v := .int 40) (by rfl) c_MOST_SIDE ⟨_, rfl⟩) (nomark _)))) pa_nil))) (pss_one (ps_raise rfl (takes_of rfl rfl rfl rfl) (pmk_sup t_NotLet hr (pa_cons pe_str pa_nil) (by rfl)))) pss_nil)
  (pss_one (ps_ret (pe_mkX h_Group (passes_call (takes_of rfl rfl rfl rfl) fun _ _ _ _ h => h) (hr.mono (by decide)) (by rfl) (pa_cons (pe_slice (q_slT K rfl) (pe_fld (pv 0) rfl) po_none (po_some (pe_un un_neg pe_int))) (pa_cons (pv 3) pa_nil))))))))), ?_⟩
  have big : 100000 ≤ sizeLine := by decide
  have lr := V.L
  have b12 := V.B.six
  have b2 := V.B.two
  refine ⟨_, rfl, G, g, bs, rs, _, hs, rfl, hg, ⟨b2, V.R, by omega, rfl⟩, fun x hx v G1 H1 n1 hv => ?_, fun e he d H1 s1 hd => ?_⟩
  rotate_left
  · cases hl : lastM bs rs with
    | ok p => rw [hl] at he; cases he
    | error e' =>
      rw [hl] at he
      cases he
      have e : chG bs rs .unletter = .error e := by simp only [chG]; rw [hl]
      rw [e] at q2
      exact q2 _ rfl d H1 s1 hd
  cases hl : lastM bs rs with
  | error e' => rw [hl] at hx; cases hx
  | ok p =>
  rw [hl] at hx
  cases hx
  obtain ⟨L, hp⟩ := lastM_ok hl
  obtain ⟨r0, h0, _, hm⟩ := place_mem hp
  have e0 : rs.getD p ([], []) = r0 := by rw [List.getD_eq_getElem?_getD, h0]; rfl
  have m40 : r0.2.length ≤ 40 := (V.R r0 (List.mem_of_getElem? h0)).2.1
  have hmn : Letters bs.length r0.2 := hm.le (by omega)
  rw [e0] at hv
  obtain ⟨a, u, m, rfl, ht, hu, hmv⟩ := pair_vs hv
  refine ⟨a, _, rfl, same_tup n1.gh ht, rfl, _, _, rfl, _, _, rfl, rfl, ?_⟩
  refine ⟨Nat.zero_le _, fun pl hpl => ?_⟩
  have gr0 := Grow.start (K := K) n1.gh hpl
  have hg1 := hg.mono n1.gg
  have eT : EvD K (tOp (rCatA K) (tSl (rSlA K) (tFld K (tVar 0) "rules") tNoPart (tPart (tVar 1))) (tSl (rSlA K) (tFld K (tVar 0) "rules") (tPart (tOp (rI0 fun i j => .int (i + j)) (tVar 1) (tC (.int 1)))) tNoPart)) [some (.ref g), some u, some m, some (.ref pl), none, none, none, none] G1 (.tuple ((rs.take p ++ rs.drop (p + 1)).map ruleD)) := EvD.cast (ed_op (z := .tuple ((rs.take p).map ruleD ++ (rs.drop (p + 1)).map ruleD))
    (EvD.cast (ed_slT (lo := none) (hi := some (p : Int)) (ed_gr OC nr (eg_var (i := 0) rfl hg1)) eo_none (eo_some (ed_var (i := 1) rfl hu))) (by rw [cutD_to, List.map_take]))
    (EvD.cast (ed_slT (lo := some ((p + 1 : Nat) : Int)) (hi := none) (ed_gr OC nr (eg_var (i := 0) rfl hg1)) (eo_some (EvD.cast (ed_op (ed_var (i := 1) rfl hu) ed_int ro_i) (by rfl))) eo_none) (by rw [cutD_from, List.map_drop]))
    (ro_cat (by rw [List.length_map, List.length_map]; have := left_len (rs := rs) (p := p); rw [List.length_append] at this; omega))) (by rw [List.map_append])
  have ll := left_len (rs := rs) (p := p)
  have lok := rl_left (p := p) V.R
  generalize hlf : rs.take p ++ rs.drop (p + 1) = lf at eT ll lok
  have eLR : leftR bs rs p = lf.map (replR bs r0.2) := by unfold leftR; rw [hlf, e0]
  refine seq_forDT (K := K) (G := G1) eT gr0.n.gh fun G2 H2 n2 => ⟨fun j σ Gi Hc => (Grow K G1 H1 pl (((lf.take j).map (replR bs r0.2)).map ruleD) Gi Hc ∧ Same G2 Gi) ∧ ∃ x4 x5, σ = [some (.ref g), some u, some m, some (.ref pl), x4, x5, none, none],
    ⟨⟨gr0.step n2, Same.refl _⟩, _, _, rfl⟩, ⟨fun p => p.1.2, fun p => p.1.1.n.gh⟩, fun j d v σ Gi Hc hj hv hP => ?_, fun σ Gi Hc hP => ?_⟩
  · obtain ⟨⟨gr, s2⟩, x4, x5, rfl⟩ := hP
    rw [List.getElem?_map] at hj
    obtain ⟨r, hx, rfl⟩ := Option.map_eq_some_iff.mp hj
    obtain ⟨l1, l2, _, _⟩ := lok r (List.mem_of_getElem? hx)
    have hjl := (List.getElem?_eq_some_iff.mp hx).1
    obtain ⟨a2, y1, y2, rfl, hs2, d1, d2⟩ := rule_vs hv
    refine ⟨a2, _, rfl, same_tup gr.n.gh hs2, rfl, _, _, rfl, _, _, rfl, rfl, ?_⟩
    dsimp only [gName, List.set_cons_succ, List.set_cons_zero]
    have hgi := hg1.mono gr.n.gg
    have hmi := dp_mono gr.n.gg _ hmv
    refine app_data (i := 3) (d := ruleD (replR bs r0.2 r)) rfl gr hpl (ed_tup (ea_cons (ed_call (ea_cons (ed_gb OC na (eg_var (i := 0) rfl hgi)) (ea_cons (ed_var (i := 2) rfl hmi) (ea_cons (ed_var (i := 4) rfl d1) ea_nil))) (R := R_replaced) (E := E0) ⟨bs, r0.2, r.1, rfl, hmn, m40, by omega, rfl⟩)
      (ea_cons (ed_call (ea_cons (ed_gb OC na (eg_var (i := 0) rfl hgi)) (ea_cons (ed_var (i := 2) rfl hmi) (ea_cons (ed_var (i := 5) rfl d2) ea_nil))) (R := R_replaced) (E := E0) ⟨bs, r0.2, r.2, rfl, hmn, m40, by omega, rfl⟩) ea_nil)) (by show 2 ≤ sizeLine; omega)) (by rw [List.length_map, List.length_map, List.length_take]; omega) fun G3 H3 g3 s3 => ⟨G3, ⟨?_, s2.trans s3⟩, _, _, rfl⟩
    rw [take_snoc hx, List.map_append, List.map_append]
    exact g3
  obtain ⟨⟨gr, s2⟩, x4, x5, rfl⟩ := hP
  rw [List.length_map, List.take_length, ← eLR] at gr
  obtain ⟨m1, dl⟩ := gr.done hpl
  generalize hGd : upd Gi pl (Hc pl |>.getD (.lst [])) = Gd at m1 dl
  have lL : (leftR bs rs p).length ≤ 40 := by rw [eLR, List.length_map]; omega
  have flat : ((leftR bs rs p).map ruleD).flatMap itemsOf' = (leftR bs rs p).flatMap fun r => [wD r.1, wD r.2] := by rw [List.flatMap_map]; rfl
  have fl2 : ∀ l : List Rl, (l.flatMap fun r => [wD r.1, wD r.2]).length = 2 * l.length := fun l => by
    induction l with
    | nil => rfl
    | cons r l ih =>
      rw [List.flatMap_cons, List.length_append, ih]
      show 2 + 2 * l.length = 2 * (l.length + 1)
      omega
  have an : ∀ l : List Rl, (((l.flatMap fun r => [wD r.1, wD r.2]).map fun d => decide (40 < (itemsOf' d).length)).any id) = l.any fun r => decide (40 < r.1.length) || decide (40 < r.2.length) := fun l => by
    induction l with
    | nil => rfl
    | cons r l ih =>
      rw [List.flatMap_cons, List.map_append, List.any_append, ih, List.any_cons]
      show (decide (40 < (r.1.map PyData.int).length) || (decide (40 < (r.2.map PyData.int).length) || false) || _) = _
      rw [List.length_map, List.length_map, Bool.or_false]
  refine seq_ifB (K := K) (G := Gd) (b := (leftR bs rs p).any fun r => decide (40 < r.1.length) || decide (40 < r.2.length)) (eb_B (EvD.cast (ed_cb (ea_cons (EvN.toD (en_lc2 (i := 6) (j := 7) (fun d => .bool (decide (40 < (itemsOf' d).length))) (ed_var (i := 3) rfl dl) (fun _ => rfl) (fun _ => rfl) (fun _ _ => rfl) (by rw [flat, fl2]; omega) (fun d hd => ?_) fun es v u x Gj hd hxe gj hux => ?_)) ea_nil) (z := .bool ((((leftR bs rs p).flatMap fun r => [wD r.1, wD r.2]).map fun d => decide (40 < (itemsOf' d).length)).any id)) ?_) (by rw [an]))) m1.gh (fun hb Ga Ha na' => ?_) fun hb Ga Ha na' => ?_
  · obtain ⟨r, _, rfl⟩ := List.mem_map.mp hd
    exact ⟨_, rfl⟩
  · obtain ⟨r, _, e⟩ := List.mem_map.mp hd
    cases e
    have hws : ∃ ws : List Int, x = wD ws := by
      rcases List.mem_cons.mp hxe with rfl | hxe
      · exact ⟨_, rfl⟩
      · rw [List.mem_singleton] at hxe
        exact ⟨_, hxe⟩
    obtain ⟨ws, rfl⟩ := hws
    refine EvD.cast (ed_op (ed_cb (ea_cons (ed_var (i := 7) rfl hux) ea_nil) rcl_len) (ed_c (.int 40)) ro_b) ?_
    exact congrArg PyData.bool (decide_eq_decide.mpr (by show _ ↔ 40 < (ws.map PyData.int).length; omega))
  · have h := rcl_any (K := K) (bs := ((leftR bs rs p).flatMap fun r => [wD r.1, wD r.2]).map fun d => decide (40 < (itemsOf' d).length))
    rw [List.map_map] at h
    rw [flat]
    exact h
  · have e : chG bs rs .unletter = .error "many" := by simp only [chG]; rw [hl]; exact if_pos hb
    rw [e] at q2
    exact ⟨_, rfl, fun d hd => q2 _ rfl d _ ((n1.trans (m1.trans na')).hh.trans (same_upd hd)) upd_same⟩
  have e : chG bs rs .unletter = .ok (bs.take (bs.length - 2), leftR bs rs p) := by simp only [chG]; rw [hl]; exact if_neg (by rw [hb]; exact Bool.false_ne_true)
  rw [e] at q1
  have V' := chG_ok (c := .unletter) V trivial e
  have hg3 := hg1.mono (m1.gg.trans na'.gg)
  exact (eg_bkL V' (EvD.cast (ed_slT (lo := none) (hi := some (-2)) (ed_gb OC na (eg_var (i := 0) rfl hg3)) eo_none (eo_some ed_negI)) (by rw [cutD_neg2, List.length_map, ← List.map_take])) (ed_var (i := 3) rfl (dp_mono na'.gg _ dl))) Ha na'.gh _ fun g' G' H' n' hg' => q1 _ rfl g' G' H' (n1.trans (m1.trans (na'.trans n'))) hg'
end
end Gw
namespace Gw
open PySem PySem.Spec PyProof.Rows L2 LamX
/-! ### changed -/
def spWGo (K : PySem.W.Frag) (CG : Addr) : Sp := fun vs H Q _ => ∃ (G : Hp) (g : Addr) (bs rs : List PyData), Same G H ∧ vs = [.ref g] ∧ GrpAt K CG G g bs rs ∧ ∀ G' H', Nx G H G' H' → Q .non H'
def spWL (K : PySem.W.Frag) (CW : Addr) : Sp := fun vs H Q E => ∃ (G : Hp) (b v : V) (bs : List Int) (x : PyData), Same G H ∧ vs = [b, v] ∧ Dp K G b (.tuple (bs.map .int)) ∧ Dp K G v x ∧ Sized x ∧ (isRow bs.length x = true → ∀ G' H', Nx G H G' H' → Q .non H') ∧ (isRow bs.length x = false → ∀ G' H', Nx G H G' H' → E (.ref CW) none H')
section
variable {P : Program} {w : World} {K : PySem.W.Frag} {mg : Str → Option Value} {base : Heap} {f : Addr} {fd : FuncData} {CG CN CX CW CB fN fB : Addr}
theorem okw_want_group (D : DefAt K mg "want_group" s_want_group P_want_group f fd) (T : Bt mg) (t_BadGroup : PySem.SupX.SupTxt P K mg "BadGroup" "part" CB fB) (g_Group : mg "Group" = some (.ref CG)) (O : OwnC K CG) : OkX P w K mg base "want_group" s_want_group P_want_group 3 (spWGo K CG) := by
  refine D.okX (D.F.okX sc_want_group (fun vs H Q E h => ?_) fun cdv A outer s H vs Q E hr h => ?_)
  · obtain ⟨G, g, bs, rs, _, rfl, _⟩ := h; rfl
  have S := sc_want_group
  obtain ⟨G, g, bs, rs, hs, rfl, hg, q⟩ := h
  obtain ⟨dx, vb, vr, hi, _⟩ := hg
  refine ⟨_, (pss_one (ps_if (pt_not (pt_val (pe_callB (q_isi K rfl) (by rfl) T.isinstance (by decide +kernel) (pa_cons (pv 0) (pa_cons (pe_glob (v := .ref CG) (by rfl) g_Group rfl) pa_nil))))) (pss_one (ps_raise rfl (takes_of rfl rfl rfl rfl) (pmk_sup t_BadGroup hr (pa_cons pe_non pa_nil) (by rfl)))) pss_nil)), ?_⟩
  exact (eb_not (eb_B (ed_isiC (K := K) (G := G) (i := 0) (σ := L2.start N_want_group [.ref g]) rfl (fun H s => O.tyx (s _ _ hi)) O.me))) H hs _ fun G1 H1 n1 => if_off rfl (nx_of (q G1 H1 n1))
theorem ok_want_letters (D : DefAt K mg "want_letters" s_want_letters P_want_letters f fd) (T : Bt mg) (e_BadWord : Err K mg "BadWord" CW) (h_is_row : Ok P w K mg base "is_row" P_is_row 3 (SpD K R_is_row)) : OkX P w K mg base "want_letters" s_want_letters P_want_letters 4 (spWL K CW) := by
  refine D.okX (D.F.okX sc_want_letters (fun vs H Q E h => ?_) fun cdv A outer s H vs Q E hr h => ?_)
  · obtain ⟨G, b, v, bs, x, _, rfl, _⟩ := h; rfl
  have S := sc_want_letters
  obtain ⟨G, b, v, bs, x, hs, rfl, hb, hv, hz, q1, q2⟩ := h
  refine ⟨_, (pss_one (ps_if (pt_not (pt_val (pe_ok h_is_row (hr.mono (by decide)) (by rfl) (pa_cons (pe_callB (q_len K rfl) (by rfl) T.len PySem.boot_len (pa_cons (pv 0) pa_nil)) (pa_cons (pv 1) pa_nil))))) (pss_one (ps_raise rfl (takes_of rfl rfl rfl rfl) (pmk_own PySem.F.excBase_ValueError e_BadWord.x e_BadWord.g e_BadWord.k (raises_own e_BadWord.b e_BadWord.t) rfl))) pss_nil)), ?_⟩
  refine (eb_not (eb_B (ed_call (R := R_is_row) (E := E0) (ea_cons (EvD.cast (ed_cb (ea_cons (ed_var (i := 0) (σ := L2.start N_want_letters [b, v]) rfl hb) ea_nil) rcl_len) (by rw [List.length_map])) (ea_cons (ed_var (i := 1) rfl hv) ea_nil)) ⟨(bs.length : Int), x, rfl, hz, rfl⟩))) H hs _ fun G1 H1 n1 => ?_
  cases hw : isRow bs.length x with
  | true => exact if_off rfl (nx_of (q1 hw G1 H1 n1))
  | false => exact if_on rfl (q2 hw G1 H1 n1)

def spCH (K : PySem.W.Frag) (CG CN CX : Addr) : Sp := fun vs H Q E => ∃ (G : Hp) (g : Addr) (v : V) (bs : List Int) (rs : List Rl) (x : PyData), Same G H ∧ vs = [.ref g, v] ∧ GB K CG G g bs rs ∧ BkR bs rs ∧ Dp K G v x ∧ SzI x ∧
  (∀ c : Chg, x = c.d → c.Ok → ∀ p, chG bs rs c = .ok p → ∀ g' G' H', Nx G H G' H' → GB K CG G' g' p.1 p.2 → Q (.ref g') H') ∧
  (∀ c : Chg, x = c.d → c.Ok → ∀ e, chG bs rs c = .error e → ∀ d H', Same H H' → H' d = some (.xd (wF (.str e))) → E (.ref CN) (some d) H') ∧ (isChD x = false → ∀ G' H', Nx G H G' H' → E (.ref CX) none H')
theorem chg_first (c : Chg) : ∃ k r, c.d = .tuple (.str k :: r) ∧ (k = "put" ↔ ∃ a b, c = .put a b) ∧ (k = "drop" ↔ ∃ n, c = .drop n) ∧ (k = "letter" ↔ ∃ a, c = .letter a) ∧ (k = "unletter" ↔ c = .unletter) := by
  cases c with
  | put a b => exact ⟨"put", [wD a, wD b], rfl, ⟨fun _ => ⟨a, b, rfl⟩, fun _ => rfl⟩, ⟨fun z => absurd z (by decide), fun ⟨_, z⟩ => nomatch z⟩, ⟨fun z => absurd z (by decide), fun ⟨_, z⟩ => nomatch z⟩, ⟨fun z => absurd z (by decide), fun z => nomatch z⟩⟩
  | drop n => exact ⟨"drop", [.int (n : Int)], rfl, ⟨fun z => absurd z (by decide), fun ⟨_, _, z⟩ => nomatch z⟩, ⟨fun _ => ⟨n, rfl⟩, fun _ => rfl⟩, ⟨fun z => absurd z (by decide), fun ⟨_, z⟩ => nomatch z⟩, ⟨fun z => absurd z (by decide), fun z => nomatch z⟩⟩
  | letter a => exact ⟨"letter", [wD a], rfl, ⟨fun z => absurd z (by decide), fun ⟨_, _, z⟩ => nomatch z⟩, ⟨fun z => absurd z (by decide), fun ⟨_, z⟩ => nomatch z⟩, ⟨fun _ => ⟨a, rfl⟩, fun _ => rfl⟩, ⟨fun z => absurd z (by decide), fun z => nomatch z⟩⟩
  | unletter => exact ⟨"unletter", [], rfl, ⟨fun z => absurd z (by decide), fun ⟨_, _, z⟩ => nomatch z⟩, ⟨fun z => absurd z (by decide), fun ⟨_, z⟩ => nomatch z⟩, ⟨fun z => absurd z (by decide), fun ⟨_, z⟩ => nomatch z⟩, ⟨fun _ => rfl, fun _ => rfl⟩⟩
theorem ok_changed (D : DefAt K mg "changed" s_changed P_changed f fd) (T : Bt mg) (e_BadChange : Err K mg "BadChange" CX) (h_want_group : OkX P w K mg base "want_group" s_want_group P_want_group 3 (spWGo K CG)) (h_is_change : Ok P w K mg base "is_change" P_is_change 5 (SpD K R_is_change))
    (h_with_rule : OkX P w K mg base "with_rule" s_with_rule P_with_rule 9 (spNG K CG CN R_with_rule)) (h_without_rule : OkX P w K mg base "without_rule" s_without_rule P_without_rule 9 (spNG K CG CN R_without_rule)) (h_with_letters : OkX P w K mg base "with_letters" s_with_letters P_with_letters 9 (spNG K CG CN R_with_letters)) (h_without_letters : OkX P w K mg base "without_letters" s_without_letters P_without_letters 9 (spNG K CG CN R_without_letters)) :
    OkX P w K mg base "changed" s_changed P_changed 10 (spCH K CG CN CX) := by
  refine D.okX (D.F.okX sc_changed (fun vs H Q E h => ?_) fun cdv A outer s H vs Q E hr h => ?_)
  · obtain ⟨G, g, v, bs, rs, x, _, rfl, _⟩ := h; rfl
  have S := sc_changed
  obtain ⟨G, g, v, bs, rs, x, hs, rfl, hg, Vd, hv, hz, q1, q2, q3⟩ := h
  refine ⟨_, (pss_cons (ps_expr (pe_okX h_want_group (passes_call (takes_of rfl rfl rfl rfl) fun _ _ _ _ h => h) (hr.mono (by decide)) (by rfl) (pa_cons (pv 0) pa_nil)))
  (pss_cons (ps_if (pt_not (pt_val (pe_ok h_is_change (hr.mono (by decide)) (by rfl) (pa_cons (pv 1) pa_nil)))) (pss_one (ps_raise rfl (takes_of rfl rfl rfl rfl) (pmk_own PySem.F.excBase_ValueError e_BadChange.x e_BadChange.g e_BadChange.k (raises_own e_BadChange.b e_BadChange.t) rfl))) pss_nil)
  (pss_cons (ps_set (i := 2) S.nd rfl (by first | exact .inl rfl | exact .inr rfl) (pe_ix (q_ixT K rfl) (pv 1) pe_int (fun _ _ => rfl)))
  (pss_cons (ps_if (pt_cmpR op_eq (pv 2) pe_str (nomark _)) (pss_one (ps_ret (pe_okX h_with_rule (passes_call (takes_of rfl rfl rfl rfl) fun _ _ _ _ h => h) (hr.mono (by decide)) (by rfl) (pa_cons (pv 0) (pa_cons (pe_ix (q_ixT K rfl) (pv 1) pe_int (fun _ _ => rfl)) (pa_cons (pe_ix (q_ixT K rfl) (pv 1) pe_int (fun _ _ => rfl)) pa_nil)))))) pss_nil)
  (pss_cons (ps_if (pt_cmpR op_eq (pv 2) pe_str (nomark _)) (pss_one (ps_ret (pe_okX h_without_rule (passes_call (takes_of rfl rfl rfl rfl) fun _ _ _ _ h => h) (hr.mono (by decide)) (by rfl) (pa_cons (pv 0) (pa_cons (pe_ix (q_ixT K rfl) (pv 1) pe_int (fun _ _ => rfl)) pa_nil))))) pss_nil)
  (pss_cons (ps_if (pt_cmpR op_eq (pv 2) pe_str (nomark _)) (pss_one (ps_ret (pe_okX h_with_letters (passes_call (takes_of rfl rfl rfl rfl) fun _ _ _ _ h => h) (hr.mono (by decide)) (by rfl) (pa_cons (pv 0) (pa_cons (pe_ix (q_ixT K rfl) (pv 1) pe_int (fun _ _ => rfl)) pa_nil))))) pss_nil)
  (pss_one (ps_ret (pe_okX h_without_letters (passes_call (takes_of rfl rfl rfl rfl) fun _ _ _ _ h => h) (hr.mono (by decide)) (by rfl) (pa_cons (pv 0) pa_nil)))))))))), ?_⟩
  refine ⟨_, rfl, G, g, _, _, hs, rfl, hg, fun G1 H1 n1 => ?_⟩
  dsimp only
  have hv1 := dp_mono n1.gg _ hv
  refine seq_ifB (K := K) (G := G1) (b := !isChD x) (eb_not (eb_B (ed_call (ea_cons (ed_var (i := 1) rfl hv1) ea_nil) (R := R_is_change) (E := E0) ⟨x, rfl, hz, rfl⟩))) n1.gh (fun hb Ga Ha na => ?_) fun hb Ga Ha na => ?_
  · exact q3 (not_t hb) Ga Ha (n1.trans na)
  obtain ⟨c, rfl, hc⟩ := isChD_ok (not_f hb)
  have hv2 := dp_mono na.gg _ hv1
  have hg2 := hg.mono (n1.gg.trans na.gg)
  obtain ⟨k, r, ed, k1, k2, k3, k4⟩ := chg_first c
  have hv2' := hv2
  rw [ed] at hv2'
  refine seq_let (K := K) (G := Ga) (i := 2) (d := .str k) (ed_op (ed_var (i := 1) rfl hv2') ed_int (ro_ixT (k := 0) rfl rfl)) na.gh fun vk Gb Hb nb hk => ?_
  have n3 := n1.trans (na.trans nb)
  have hg3 := hg2.mono nb.gg
  have hv3 := dp_mono nb.gg _ hv2
  refine seq_ifB (K := K) (G := Gb) (b := decide (k = "put")) (eb_test (ed_op (ed_var (i := 2) rfl hk) ed_str ro_eqS)) nb.gh (fun hb1 Gc Hc nc => ?_) fun hb1 Gc Hc nc => ?_
  · obtain ⟨a, b, rfl⟩ := k1.mp (of_decide_eq_true hb1)
    have hv4 : Dp K Gc v (.tuple [.str "put", wD a, wD b]) := dp_mono nc.gg _ hv3
    refine (ea_cons (ed_op (ed_var (i := 1) rfl hv4) ed_int (ro_ixT (k := 1) rfl rfl)) (ea_cons (ed_op (ed_var (i := 1) rfl hv4) ed_int (ro_ixT (k := 2) rfl rfl)) ea_nil)) |> fun (hA : EvA K _ [some (.ref g), some v, some vk] Gc [wD a, wD b]) => ⟨_, rfl, hA Hc nc.gh _ fun us Gd Hd nd hus => ⟨Gd, g, us, bs, rs, _, _, nd.gh, by rw [List.append_nil], hg3.mono (nc.gg.trans nd.gg), hus, ⟨a, b, rfl, Vd, hc, rfl⟩, fun p hp g' G' H' n' hg' => q1 _ rfl hc p hp g' G' H' (n3.trans (nc.trans (nd.trans n'))) hg', fun e he d H' s' hd => q2 _ rfl hc e he d H' ((n3.trans (nc.trans nd)).hh.trans s') hd⟩⟩
  refine seq_ifB (K := K) (G := Gc) (b := decide (k = "drop")) (eb_test (ed_op (ed_var (i := 2) rfl (dp_mono nc.gg _ hk)) ed_str ro_eqS)) nc.gh (fun hb2 Gd Hd nd => ?_) fun hb2 Gd Hd nd => ?_
  · obtain ⟨m, rfl⟩ := k2.mp (of_decide_eq_true hb2)
    have hv4 : Dp K Gd v (.tuple [.str "drop", .int (m : Int)]) := dp_mono (nc.gg.trans nd.gg) _ hv3
    refine (ea_cons (ed_op (ed_var (i := 1) rfl hv4) ed_int (ro_ixT (k := 1) rfl rfl)) ea_nil) |> fun (hA : EvA K _ [some (.ref g), some v, some vk] Gd [.int (m : Int)]) => ⟨_, rfl, hA Hd nd.gh _ fun us Ge He ne hus => ⟨Ge, g, us, bs, rs, _, _, ne.gh, by rw [List.append_nil], hg3.mono (nc.gg.trans (nd.gg.trans ne.gg)), hus, ⟨m, rfl, Vd, hc, rfl⟩, fun p hp g' G' H' n' hg' => q1 _ rfl hc p hp g' G' H' (n3.trans (nc.trans (nd.trans (ne.trans n')))) hg', fun e he d H' s' hd => q2 _ rfl hc e he d H' ((n3.trans (nc.trans (nd.trans ne))).hh.trans s') hd⟩⟩
  refine seq_ifB (K := K) (G := Gd) (b := decide (k = "letter")) (eb_test (ed_op (ed_var (i := 2) rfl (dp_mono (nc.gg.trans nd.gg) _ hk)) ed_str ro_eqS)) nd.gh (fun hb3 Ge He ne => ?_) fun hb3 Ge He ne => ?_
  · obtain ⟨a, rfl⟩ := k3.mp (of_decide_eq_true hb3)
    have hv4 : Dp K Ge v (.tuple [.str "letter", wD a]) := dp_mono (nc.gg.trans (nd.gg.trans ne.gg)) _ hv3
    refine (ea_cons (ed_op (ed_var (i := 1) rfl hv4) ed_int (ro_ixT (k := 1) rfl rfl)) ea_nil) |> fun (hA : EvA K _ [some (.ref g), some v, some vk] Ge [wD a]) => ⟨_, rfl, hA He ne.gh _ fun us Gf Hf nf hus => ⟨Gf, g, us, bs, rs, _, _, nf.gh, by rw [List.append_nil], hg3.mono (nc.gg.trans (nd.gg.trans (ne.gg.trans nf.gg))), hus, ⟨a, rfl, Vd, hc, rfl⟩, fun p hp g' G' H' n' hg' => q1 _ rfl hc p hp g' G' H' (n3.trans (nc.trans (nd.trans (ne.trans (nf.trans n'))))) hg', fun e he d H' s' hd => q2 _ rfl hc e he d H' ((n3.trans (nc.trans (nd.trans (ne.trans nf)))).hh.trans s') hd⟩⟩
  have hcu : c = .unletter := by
    cases c with
    | put a b => exact absurd (k1.mpr ⟨a, b, rfl⟩) (of_decide_eq_false hb1)
    | drop m => exact absurd (k2.mpr ⟨m, rfl⟩) (of_decide_eq_false hb2)
    | letter a => exact absurd (k3.mpr ⟨a, rfl⟩) (of_decide_eq_false hb3)
    | unletter => rfl
  subst hcu
  exact ⟨_, rfl, Ge, g, [], bs, rs, _, _, ne.gh, rfl, hg3.mono (nc.gg.trans (nd.gg.trans ne.gg)), .nil, ⟨rfl, Vd, rfl⟩, fun p hp g' G' H' n' hg' => q1 _ rfl hc p hp g' G' H' (n3.trans (nc.trans (nd.trans (ne.trans n')))) hg', fun e he d H' s' hd => q2 _ rfl hc e he d H' ((n3.trans (nc.trans (nd.trans ne))).hh.trans s') hd⟩
end
end Gw
namespace Gw
open PySem PySem.Spec PyProof.Rows L2 LamX
/-! ### what becomes of words; what is no group -/
def carryW (bs : List Int) (rs : List Rl) : Chg → List Int → List Int
  | .unletter, ws => match lastM bs rs with
    | .ok p => replW bs (rs.getD p ([], [])).2 ws
    | .error _ => ws
  | _, ws => ws
def spCW (K : PySem.W.Frag) (CG CN CX CW : Addr) : Sp := fun vs H Q E => ∃ (G : Hp) (g : Addr) (v u : V) (bs : List Int) (rs : List Rl) (x y : PyData), Same G H ∧ vs = [.ref g, v, u] ∧ GB K CG G g bs rs ∧ BkR bs rs ∧ Dp K G v x ∧ SzI x ∧ Dp K G u y ∧ Sized y ∧
  (∀ (c : Chg) (p : List Int × List Rl), x = c.d → c.Ok → chG bs rs c = .ok p → isRow bs.length y = false → ∀ G' H', Nx G H G' H' → E (.ref CW) none H') ∧
  (∀ (c : Chg) (p : List Int × List Rl) (ws : List Int), x = c.d → c.Ok → chG bs rs c = .ok p → y = wD ws → Letters bs.length ws → ws.length ≤ 1000 ∧ ∀ r G' H', Nx G H G' H' → Dp K G' r (wD (carryW bs rs c ws)) → Q r H') ∧
  (∀ c : Chg, x = c.d → c.Ok → ∀ e, chG bs rs c = .error e → ∀ d H', Same H H' → H' d = some (.xd (wF (.str e))) → E (.ref CN) (some d) H') ∧ (isChD x = false → ∀ G' H', Nx G H G' H' → E (.ref CX) none H')
def spBG (K : PySem.W.Frag) (CB : Addr) (n : Nat) : Sp := fun vs H Q E => ∃ (G : Hp) (v : V) (us : List V) (x : PyData), Same G H ∧ vs = v :: us ∧ us.length = n ∧ Dp K G v x ∧ ∀ d H', Same H H' → H' d = some (.xd (eF .non)) → E (.ref CB) (some d) H'
section
variable {P : Program} {w : World} {K : PySem.W.Frag} {mg : Str → Option Value} {base : Heap} {f : Addr} {fd : FuncData} {CG CN CX CW CB fN fB : Addr}
theorem ok_changed_word (D : DefAt K mg "changed_word" s_changed_word P_changed_word f fd) (T : Bt mg) (OC : OwnC K CG) (na : NoAttr K CG "back") (h_changed : OkX P w K mg base "changed" s_changed P_changed 10 (spCH K CG CN CX)) (h_want_letters : OkX P w K mg base "want_letters" s_want_letters P_want_letters 4 (spWL K CW))
    (h_meaning_of_last : OkX P w K mg base "meaning_of_last" s_meaning_of_last P_meaning_of_last 5 (spND K CG CN R_last)) (h_replaced : Ok P w K mg base "replaced" P_replaced 2 (SpD K R_replaced)) :
    OkX P w K mg base "changed_word" s_changed_word P_changed_word 11 (spCW K CG CN CX CW) := by
  refine D.okX (D.F.okX sc_changed_word (fun vs H Q E h => ?_) fun cdv A outer s H vs Q E hr h => ?_)
  · obtain ⟨G, g, v, u, bs, rs, x, y, _, rfl, _⟩ := h; rfl
  have S := sc_changed_word
  obtain ⟨G, g, v, u, bs, rs, x, y, hs, rfl, hg, Vd, hv, hz, hu, hy, q1, q2, q3, q4⟩ := h
  refine ⟨_, (pss_cons (ps_expr (pe_okX h_changed (passes_call (takes_of rfl rfl rfl rfl) fun _ _ _ _ h => h) (hr.mono (by decide)) (by rfl) (pa_cons (pv 0) (pa_cons (pv 1) pa_nil))))
  (pss_cons (ps_expr (pe_okX h_want_letters (passes_call (takes_of rfl rfl rfl rfl) fun _ _ _ _ h => h) (hr.mono (by decide)) (by rfl) (pa_cons (pe_fld (pv 0) rfl) (pa_cons (pv 2) pa_nil))))
  (pss_cons (ps_if (pt_cmpR op_ne (pe_ix (q_ixT K rfl) (pv 1) pe_int (fun _ _ => rfl)) pe_str (nomark _)) (pss_one (ps_ret (pv 2))) pss_nil)
  (pss_cons (ps_asg (pe_okX h_meaning_of_last (passes_call (takes_of rfl rfl rfl rfl) fun _ _ _ _ h => h) (hr.mono (by decide)) (by rfl) (pa_cons (pv 0) pa_nil)) (q_gT K 2 rfl rfl (pgs_cons (pg_name (i := 3) S.nd rfl (by first | exact .inl rfl | exact .inr rfl)) (pgs_cons (pg_name (i := 4) S.nd rfl (by first | exact .inl rfl | exact .inr rfl)) pgs_nil))))
  (pss_one (ps_ret (pe_ok h_replaced (hr.mono (by decide)) (by rfl) (pa_cons (pe_fld (pv 0) rfl) (pa_cons (pv 4) (pa_cons (pv 2) pa_nil)))))))))), ?_⟩
  refine ⟨_, rfl, _, rfl, G, g, v, bs, rs, x, hs, rfl, hg, Vd, hv, hz, fun c ec hc p hp g1 G1 H1 n1 _ => ?_, q3, q4⟩
  dsimp only
  have hg1 := hg.mono n1.gg
  have hu1 := dp_mono n1.gg _ hu
  obtain ⟨dx, vb, vr, hi, hb, _⟩ := id hg1
  refine ⟨_, rfl, g, CG, dx, _, vb, rfl, n1.gh _ _ hi, OC.cl, na, look_back, _, rfl, G1, vb, u, bs, y, n1.gh, rfl, hb, hu1, hy, fun hrow G2 H2 n2 => ?_, fun hrow G2 H2 n2 => q1 c p ec hc hp hrow G2 H2 (n1.trans n2)⟩
  dsimp only
  obtain ⟨ws, rfl, lw⟩ := row_ints (n := bs.length) hrow
  obtain ⟨l1000, q5⟩ := q2 c p ws ec hc hp rfl lw
  subst ec
  obtain ⟨k, r, ed, k1, k2, k3, k4⟩ := chg_first c
  have hv2 := dp_mono (n1.gg.trans n2.gg) _ hv
  rw [ed] at hv2
  have hu2 := dp_mono n2.gg _ hu1
  refine seq_ifB (K := K) (G := G2) (b := !decide (k = "unletter")) (eb_test (ed_op (ed_op (ed_var (i := 1) rfl hv2) ed_int (ro_ixT (k := 0) rfl rfl)) ed_str ro_neS)) n2.gh (fun hb Ga Ha na' => ?_) fun hb Ga Ha na' => ?_
  · have e : carryW bs rs c ws = ws := by
      cases c with
      | unletter => exact absurd (k4.mpr rfl) (of_decide_eq_false (not_t hb))
      | _ => rfl
    rw [e] at q5
    exact (rd_ret (K := K) (G := Ga) (ed_var (i := 2) rfl (dp_mono na'.gg _ hu2))) Ha na'.gh _ fun v' G' H' n' hd => q5 v' G' H' (n1.trans (n2.trans (na'.trans n'))) hd
  have hcu := k4.mp (of_decide_eq_true (not_f hb))
  subst hcu
  have hg3 := hg1.mono (n2.gg.trans na'.gg)
  cases hl : lastM bs rs with
  | error e' => simp only [chG] at hp; rw [hl] at hp; cases hp
  | ok pl =>
  obtain ⟨L, hpl⟩ := lastM_ok hl
  obtain ⟨r0, h0, _, hm⟩ := place_mem hpl
  have e0 : rs.getD pl ([], []) = r0 := by rw [List.getD_eq_getElem?_getD, h0]; rfl
  have m40 : r0.2.length ≤ 40 := (Vd.R r0 (List.mem_of_getElem? h0)).2.1
  have b2 := Vd.B.two
  have lr := Vd.L
  have hmn : Letters bs.length r0.2 := hm.le (by omega)
  refine ⟨_, rfl, Ga, g, bs, rs, _, na'.gh, rfl, hg3, ⟨b2, Vd.R, by omega, rfl⟩, fun x hx v3 G3 H3 n3 hv3 => ?_, fun e he => ?_⟩
  · rw [hl] at hx
    cases hx
    rw [e0] at hv3
    obtain ⟨a, y1, m, rfl, ht, _, hmv⟩ := pair_vs hv3
    refine ⟨a, _, rfl, same_tup n3.gh ht, rfl, _, _, rfl, _, _, rfl, rfl, ?_⟩
    dsimp only [gName, List.set_cons_succ, List.set_cons_zero]
    have e : carryW bs rs .unletter ws = replW bs r0.2 ws := by simp only [carryW]; rw [hl]; show replW bs (rs.getD pl ([], [])).2 ws = _; rw [e0]
    rw [e] at q5
    have sg := na'.gg.trans n3.gg
    exact (rd_ret (K := K) (G := G3) (ed_call (ea_cons (ed_gb OC na (eg_var (i := 0) rfl (hg3.mono n3.gg))) (ea_cons (ed_var (i := 4) rfl hmv) (ea_cons (ed_var (i := 2) rfl (dp_mono sg _ hu2)) ea_nil))) (R := R_replaced) (E := E0) ⟨bs, r0.2, ws, rfl, hmn, m40, l1000, rfl⟩)) H3 n3.gh _ fun v' G' H' n' hd => q5 v' G' H' (n1.trans (n2.trans (na'.trans (n3.trans n')))) hd
  · rw [hl] at he; cases he
/-! what is asked of no group -/
theorem ok_changed_bad (D : DefAt K mg "changed" s_changed P_changed f fd) (T : Bt mg) (e_BadChange : Err K mg "BadChange" CX) (h_want_group : OkX P w K mg base "want_group" s_want_group P_want_group 3 (spWG K CB)) (h_is_change : Ok P w K mg base "is_change" P_is_change 5 (SpD K R_is_change))
    (h_with_rule : OkX P w K mg base "with_rule" s_with_rule P_with_rule 9 (spNG K CG CN R_with_rule)) (h_without_rule : OkX P w K mg base "without_rule" s_without_rule P_without_rule 9 (spNG K CG CN R_without_rule)) (h_with_letters : OkX P w K mg base "with_letters" s_with_letters P_with_letters 9 (spNG K CG CN R_with_letters)) (h_without_letters : OkX P w K mg base "without_letters" s_without_letters P_without_letters 9 (spNG K CG CN R_without_letters)) :
    OkX P w K mg base "changed" s_changed P_changed 10 (spBG K CB 1) := by
  refine D.okX (D.F.okX sc_changed (fun vs H Q E h => ?_) fun cdv A outer s H vs Q E hr h => ?_)
  · obtain ⟨G, v, us, x, _, rfl, l, _⟩ := h; rw [List.length_cons, l]; rfl
  have S := sc_changed
  obtain ⟨G, v, us, x, hs, rfl, l, hv, q⟩ := h
  obtain ⟨u, rfl⟩ : ∃ u, us = [u] := by
    match us, l with
    | [u], _ => exact ⟨u, rfl⟩
  refine ⟨_, (pss_cons (ps_expr (pe_okX h_want_group (passes_call (takes_of rfl rfl rfl rfl) fun _ _ _ _ h => h) (hr.mono (by decide)) (by rfl) (pa_cons (pv 0) pa_nil)))
  (pss_cons (ps_if (pt_not (pt_val (pe_ok h_is_change (hr.mono (by decide)) (by rfl) (pa_cons (pv 1) pa_nil)))) (pss_one (ps_raise rfl (takes_of rfl rfl rfl rfl) (pmk_own PySem.F.excBase_ValueError e_BadChange.x e_BadChange.g e_BadChange.k (raises_own e_BadChange.b e_BadChange.t) rfl))) pss_nil)
  (pss_cons (ps_set (i := 2) S.nd rfl (by first | exact .inl rfl | exact .inr rfl) (pe_ix (q_ixT K rfl) (pv 1) pe_int (fun _ _ => rfl)))
  (pss_cons (ps_if (pt_cmpR op_eq (pv 2) pe_str (nomark _)) (pss_one (ps_ret (pe_okX h_with_rule (passes_call (takes_of rfl rfl rfl rfl) fun _ _ _ _ h => h) (hr.mono (by decide)) (by rfl) (pa_cons (pv 0) (pa_cons (pe_ix (q_ixT K rfl) (pv 1) pe_int (fun _ _ => rfl)) (pa_cons (pe_ix (q_ixT K rfl) (pv 1) pe_int (fun _ _ => rfl)) pa_nil)))))) pss_nil)
  (pss_cons (ps_if (pt_cmpR op_eq (pv 2) pe_str (nomark _)) (pss_one (ps_ret (pe_okX h_without_rule (passes_call (takes_of rfl rfl rfl rfl) fun _ _ _ _ h => h) (hr.mono (by decide)) (by rfl) (pa_cons (pv 0) (pa_cons (pe_ix (q_ixT K rfl) (pv 1) pe_int (fun _ _ => rfl)) pa_nil))))) pss_nil)
  (pss_cons (ps_if (pt_cmpR op_eq (pv 2) pe_str (nomark _)) (pss_one (ps_ret (pe_okX h_with_letters (passes_call (takes_of rfl rfl rfl rfl) fun _ _ _ _ h => h) (hr.mono (by decide)) (by rfl) (pa_cons (pv 0) (pa_cons (pe_ix (q_ixT K rfl) (pv 1) pe_int (fun _ _ => rfl)) pa_nil))))) pss_nil)
  (pss_one (ps_ret (pe_okX h_without_letters (passes_call (takes_of rfl rfl rfl rfl) fun _ _ _ _ h => h) (hr.mono (by decide)) (by rfl) (pa_cons (pv 0) pa_nil)))))))))), ?_⟩
  exact ⟨_, rfl, G, v, x, hs, rfl, hv, q⟩
theorem ok_changed_word_bad (D : DefAt K mg "changed_word" s_changed_word P_changed_word f fd) (T : Bt mg) (h_changed : OkX P w K mg base "changed" s_changed P_changed 10 (spBG K CB 1)) (h_want_letters : OkX P w K mg base "want_letters" s_want_letters P_want_letters 4 (spWL K CW))
    (h_meaning_of_last : OkX P w K mg base "meaning_of_last" s_meaning_of_last P_meaning_of_last 5 (spND K CG CN R_last)) (h_replaced : Ok P w K mg base "replaced" P_replaced 2 (SpD K R_replaced)) :
    OkX P w K mg base "changed_word" s_changed_word P_changed_word 11 (spBG K CB 2) := by
  refine D.okX (D.F.okX sc_changed_word (fun vs H Q E h => ?_) fun cdv A outer s H vs Q E hr h => ?_)
  · obtain ⟨G, v, us, x, _, rfl, l, _⟩ := h; rw [List.length_cons, l]; rfl
  have S := sc_changed_word
  obtain ⟨G, v, us, x, hs, rfl, l, hv, q⟩ := h
  obtain ⟨u1, u2, rfl⟩ : ∃ u1 u2, us = [u1, u2] := by
    match us, l with
    | [u1, u2], _ => exact ⟨u1, u2, rfl⟩
  refine ⟨_, (pss_cons (ps_expr (pe_okX h_changed (passes_call (takes_of rfl rfl rfl rfl) fun _ _ _ _ h => h) (hr.mono (by decide)) (by rfl) (pa_cons (pv 0) (pa_cons (pv 1) pa_nil))))
  (pss_cons (ps_expr (pe_okX h_want_letters (passes_call (takes_of rfl rfl rfl rfl) fun _ _ _ _ h => h) (hr.mono (by decide)) (by rfl) (pa_cons (pe_fld (pv 0) rfl) (pa_cons (pv 2) pa_nil))))
  (pss_cons (ps_if (pt_cmpR op_ne (pe_ix (q_ixT K rfl) (pv 1) pe_int (fun _ _ => rfl)) pe_str (nomark _)) (pss_one (ps_ret (pv 2))) pss_nil)
  (pss_cons (ps_asg (pe_okX h_meaning_of_last (passes_call (takes_of rfl rfl rfl rfl) fun _ _ _ _ h => h) (hr.mono (by decide)) (by rfl) (pa_cons (pv 0) pa_nil)) (q_gT K 2 rfl rfl (pgs_cons (pg_name (i := 3) S.nd rfl (by first | exact .inl rfl | exact .inr rfl)) (pgs_cons (pg_name (i := 4) S.nd rfl (by first | exact .inl rfl | exact .inr rfl)) pgs_nil))))
  (pss_one (ps_ret (pe_ok h_replaced (hr.mono (by decide)) (by rfl) (pa_cons (pe_fld (pv 0) rfl) (pa_cons (pv 4) (pa_cons (pv 2) pa_nil)))))))))), ?_⟩
  exact ⟨_, rfl, _, rfl, G, v, [u1], x, hs, rfl, rfl, hv, q⟩
end
end Gw
namespace Gw
open PySem PySem.Spec PyProof.Rows L2 LamX
/-! ### the law's own change -/
section
variable {K : PySem.W.Frag} {σ : L2.St} {G H : Hp} {te ta tb : TE} {tA : TA} {tt : TT} {t u : TS} {D : Ends} {ds es : List PyData} {d x y z : PyData} {i j : Nat}
theorem en_slL {tl th : TO} {lo hi : Option Int} (h : EvD K te σ G (.list ds)) (h1 : EvO K tl σ G lo) (h2 : EvO K th σ G hi) : EvN K (tSl (rSlL K) te tl th) σ G (cutD ds lo hi) := fun H s Q q =>
  h H s _ fun v G1 H1 n1 hv => (h1.mono n1.gg) H1 n1.gh _ fun G2 H2 n2 => (h2.mono (n1.gg.trans n2.gg)) H2 n2.gh _ fun G3 H3 n3 => by
    have n := (n1.trans n2).trans n3
    cases hv with
    | @lst a xs _ hs ha =>
      have g3 := n2.gg.trans n3.gg
      refine ⟨_, _, rfl, (g3.trans n3.gh).seq hs, fun p hp => ?_⟩
      exact q p _ G3 _ (n.trans (Nx.lay n3.gh hp)) (n.hh.free hp) (n3.gh.free hp) upd_same (dpa_mono g3 _ (dpa_cut lo hi ha))
theorem rd_two (h : EvD K te σ G (.tuple [x, y])) (k : ∀ v w G1, Same G G1 → Dp K G1 v x → Dp K G1 w y → RtD K u ((σ.set i (some v)).set j (some w)) G1 d) : RtD K (tSeq (tAsg te (gTup K 2 (gCons (gName i) (gCons (gName j) gNil)))) u) σ G d := fun H s D q => h H s _ fun v G1 H1 n1 hv => by
  obtain ⟨a, p, r, rfl, ht, h1, h2⟩ := pair_vs hv
  exact ⟨a, _, rfl, same_tup n1.gh ht, rfl, _, _, rfl, _, _, rfl, rfl, k _ _ G1 n1.gg h1 h2 H1 n1.gh D fun v G' H' n' hd => q v G' H' (n1.trans n') hd⟩
theorem rd_par (h : EvA K tA σ G [x, y]) (k : ∀ v w G1, Same G G1 → Dp K G1 v x → Dp K G1 w y → RtD K u ((σ.set i (some v)).set j (some w)) G1 d) : RtD K (tSeq (tPar i j tA) u) σ G d := fun H s D q => h H s _ fun vs G1 H1 n1 hvs => by
  obtain _ | ⟨h1, _ | ⟨h2, _ | _⟩⟩ := hvs
  exact ⟨_, _, rfl, k _ _ G1 n1.gg h1 h2 H1 n1.gh D fun v G' H' n' hd => q v G' H' (n1.trans n') hd⟩
/-- all letters of a word below a bound -/
theorem eb_below {i l : Nat} {ws : List Int} {n : Nat} {vs : List Nat} {vn : V} (hw : ∀ v, wipe ((wipe σ vs).set i (some v)) vs = wipe σ vs) (hi : ∀ v, ((wipe σ vs).set i (some v))[i]? = some (some v)) (hl : ∀ v, ((wipe σ vs).set i (some v))[l]? = some (some vn))
    (ht : EvD K ta σ G (wD ws)) (hn : Dp K G vn (.int (n : Int))) (h12 : Letters 12 ws) (lz : ws.length ≤ 1000) :
    EvB K (tB (tCB (rAll K) (tCons (tLc (iTup K ta) (gName i) tYes (tOp (rI0 fun i j => .bl (decide (i < j))) (tVar i) (tVar l)) vs) tNil))) σ G (lets n ws) := by
  have big : 1000 ≤ sizeLine := by decide
  refine eb_B (EvD.cast (ed_cb (ea_cons (EvN.toD (en_lcT1 (i := i) (fun d => .bool (decide (toI d < (n : Int)))) ht hw (by rw [List.length_map]; omega) fun d v Gj hd g hdv => ?_)) ea_nil) (z := .bool ((ws.map fun z => decide (z < (n : Int))).all id)) ?_) ?_)
  · obtain ⟨z, hz, rfl⟩ := List.mem_map.mp hd
    show EvD K _ _ _ (.bool (decide (z < (n : Int))))
    exact ed_op (ed_var (i := i) (hi v) hdv) (ed_var (i := l) (hl v) (dp_mono g _ hn)) ro_b
  · have h := rcl_all (K := K) (bs := ws.map fun z => decide (z < (n : Int)))
    rw [List.map_map] at h
    rw [List.map_map]
    exact h
  · rw [List.all_map]
    congr 1
    unfold lets
    rw [Bool.eq_iff_iff, List.all_eq_true, List.all_eq_true]
    constructor
    · intro h z hz
      have h1 := of_decide_eq_true (h z hz)
      have h2 := h12 z hz
      simp only [Bool.and_eq_true, decide_eq_true_eq]
      omega
    · intro h z hz
      have h1 := h z hz
      simp only [Bool.and_eq_true, decide_eq_true_eq] at h1
      exact decide_eq_true (by omega)
end
theorem lets_app (n : Nat) (a b : List Int) : lets n (a ++ b) = (lets n a && lets n b) := by unfold lets; rw [List.all_append]
theorem fm_congrL {α β : Type} {f g : α → List β} : ∀ {l : List α}, (∀ x ∈ l, f x = g x) → l.flatMap f = l.flatMap g
  | [], _ => rfl
  | x :: l, h => by rw [List.flatMap_cons, List.flatMap_cons, h x List.mem_cons_self, fm_congrL fun y hy => h y (List.mem_cons_of_mem _ hy)]
theorem spell_repl {bs m ws : List Int} (h2 : 2 ≤ bs.length) (h : Letters bs.length ws) : spellW ((bs.length : Int) - 2) m (undoW bs m) ws = replW bs m ws := by
  unfold spellW replW
  refine fm_congrL fun x hx => ?_
  have hx := h x hx
  unfold spellX
  by_cases e1 : x = (bs.length : Int) - 2
  · rw [if_pos e1, if_neg (by omega), if_pos e1]
  · rw [if_neg e1]
    by_cases e2 : x = (bs.length : Int) - 2 + 1
    · rw [if_pos e2, if_neg (by omega), if_neg e1]
    · rw [if_neg e2, if_pos (by omega)]
def dueD : Except Str (List Int × List Rl) → PyData
  | .error e => .str e
  | .ok p => .tuple [wD p.1, .list (p.2.map ruleD)]
def spLC (K : PySem.W.Frag) : Sp := fun vs H Q _ => ∃ (G : Hp) (vb v : V) (l : Addr) (xs : List V) (bs : List Int) (rs : List Rl) (c : Chg), Same G H ∧ vs = [vb, .ref l, v] ∧ Dp K G vb (wD bs) ∧ G l = some (.lst xs) ∧ DpAll K G xs (rs.map ruleD) ∧ Dp K G v c.d ∧ BkR bs rs ∧ c.Ok ∧ ∀ r G' H', Nx G H G' H' → Dp K G' r (dueD (chG bs rs c)) → Q r H'
section
variable {P : Program} {w : World} {K : PySem.W.Frag} {mg : Str → Option Value} {base : Heap} {f : Addr} {fd : FuncData} {CG CN CX CW CB fN fB : Addr}
theorem ok_law_changed (D : DefAt K mg "_law_changed" s_law_changed P_law_changed f fd) (T : Bt mg) (h__law_letter_rule : Ok P w K mg base "_law_letter_rule" P_law_letter_rule 1 (SpD K R_law_letter_rule)) (h__law_undoing : Ok P w K mg base "_law_undoing" P_law_undoing 1 (SpD K R_turned_back)) (h__law_spelled : Ok P w K mg base "_law_spelled" P_law_spelled 1 (SpD K R_law_spelled)) :
    Ok P w K mg base "_law_changed" P_law_changed 2 (spLC K) := by
  refine D.ok (D.F.ok sc_law_changed (fun vs H Q E h => ?_) fun cdv A outer s H vs Q E hr h => ?_)
  · obtain ⟨G, vb, v, l, xs, bs, rs, c, _, rfl, _⟩ := h; rfl
  have S := sc_law_changed
  obtain ⟨G, vb, v, l, xs, bs, rs, c, hs, rfl, hb, hl, hxs, hv, Vd, hc, q⟩ := h
  refine ⟨_, (pss_cons (ps_asg (pe_tup (pa_cons (pe_callB (q_len K rfl) (by rfl) T.len PySem.boot_len (pa_cons (pv 0) pa_nil)) (pa_cons (pe_ix (q_ixT K rfl) (pv 2) pe_int (fun _ _ => rfl)) pa_nil))) (q_gT K 2 rfl rfl (pgs_cons (pg_name (i := 3) S.nd rfl (by first | exact .inl rfl | exact .inr rfl)) (pgs_cons (pg_name (i := 4) S.nd rfl (by first | exact .inl rfl | exact .inr rfl)) pgs_nil))))
  (pss_cons (ps_if (pt_cmpR op_eq (pv 4) pe_str (nomark _)) (pss_cons (ps_if (pt_not (pt_val (pe_callB (q_all K rfl rfl) (by rfl) T.all (by decide +kernel) (pa_cons (pe_lc (own := [("letter", 5)]) (g := gName 5) (by rfl) S.nd  (q_iT K rfl (pe_op (q_catT K rfl) (pe_ix (q_ixT K rfl) (pv 2) pe_int (fun _ _ => rfl)) (pe_ix (q_ixT K rfl) (pv 2) pe_int (fun _ _ => rfl)))) (blkOk_by (N := N_law_changed) (sc := defScope s_law_changed) (by decide +kernel)) (fun _ _ _ _ _ => (pg_name (i := 5) S.nd rfl (by first | exact .inl rfl | exact .inr rfl))) (fun _ _ _ _ _ => pts_nil) (fun _ _ _ _ _ => (pe_cmpR op_lt (pv 5) (pv 3) (nomark _)))) pa_nil)))) (pss_one (ps_ret pe_str)) pss_nil)
  (pss_one (ps_ret (pe_ifExp (pt_cmpR op_ge (pe_callB (q_len K rfl) (by rfl) T.len PySem.boot_len (pa_cons (pv 1) pa_nil)) pe_int (nomark _)) pe_str (pe_tup (pa_cons (pv 0) (pa_cons (pe_op op_cat (pv 1) (pe_lst (pa_cons (pe_tup (pa_cons (pe_ix (q_ixT K rfl) (pv 2) pe_int (fun _ _ => rfl)) (pa_cons (pe_ix (q_ixT K rfl) (pv 2) pe_int (fun _ _ => rfl)) pa_nil))) pa_nil))) pa_nil))))))) pss_nil)
  (pss_cons (ps_if (pt_cmpR op_eq (pv 4) pe_str (nomark _)) (pss_one (ps_ret (pe_ifExp (pt_cmpR op_ge (pe_ix (q_ixT K rfl) (pv 2) pe_int (fun _ _ => rfl)) (pe_callB (q_len K rfl) (by rfl) T.len PySem.boot_len (pa_cons (pv 1) pa_nil)) (nomark _)) pe_str (pe_tup (pa_cons (pv 0) (pa_cons (pe_op op_cat (pe_slice (q_slL K rfl) (pv 1) po_none (po_some (pe_ix (q_ixT K rfl) (pv 2) pe_int (fun _ _ => rfl)))) (pe_slice (q_slL K rfl) (pv 1) (po_some (pe_op op_add (pe_ix (q_ixT K rfl) (pv 2) pe_int (fun _ _ => rfl)) pe_int)) po_none)) pa_nil)))))) pss_nil)
  (pss_cons (ps_if (pt_cmpR op_eq (pv 4) pe_str (nomark _)) (pss_cons (ps_if (pt_cmpR op_gt (pv 3) pe_int (nomark _)) (pss_one (ps_ret pe_str)) pss_nil)
  (pss_cons (ps_if (pt_not (pt_val (pe_callB (q_all K rfl rfl) (by rfl) T.all (by decide +kernel) (pa_cons (pe_lc (own := [("letter", 5)]) (g := gName 5) (by rfl) S.nd  (q_iT K rfl (pe_ix (q_ixT K rfl) (pv 2) pe_int (fun _ _ => rfl))) (blkOk_by (N := N_law_changed) (sc := defScope s_law_changed) (by decide +kernel)) (fun _ _ _ _ _ => (pg_name (i := 5) S.nd rfl (by first | exact .inl rfl | exact .inr rfl))) (fun _ _ _ _ _ => pts_nil) (fun _ _ _ _ _ => (pe_cmpR op_lt (pv 5) (pv 3) (nomark _)))) pa_nil)))) (pss_one (ps_ret pe_str)) pss_nil)
  (pss_one (ps_ret (pe_ifExp (pt_cmpR op_ge (pe_callB (q_len K rfl) (by rfl) T.len PySem.boot_len (pa_cons (pv 1) pa_nil)) pe_int (nomark _)) pe_str (pe_tup (pa_cons (pe_op (q_catT K rfl) (pv 0) (pe_tup (pa_cons (pe_op op_add (pv 3) pe_int) (pa_cons (pv 3) pa_nil)))) (pa_cons (pe_op op_cat (pv 1) (pe_lst (pa_cons (pe_tup (pa_cons (pe_tup (pa_cons (pv 3) pa_nil)) (pa_cons (pe_ix (q_ixT K rfl) (pv 2) pe_int (fun _ _ => rfl)) pa_nil))) pa_nil))) pa_nil)))))))) pss_nil)
  (pss_cons (ps_if (PW.pt (pw_or (pt_cmpR op_lt (pv 3) pe_int (nomark _)) (pw_or1 (pt_cmpR op_ne (pe_ix (q_ixT K rfl) (pv 0) (pe_op op_sub (pv 3) pe_int) (fun _ _ => rfl)) (pe_op op_sub (pv 3) pe_int) (nomark _))))) (pss_one (ps_ret pe_str)) pss_nil)
  (pss_cons (ps_set (i := 6) S.nd rfl (by first | exact .inl rfl | exact .inr rfl) (pe_ok h__law_letter_rule (hr.mono (by decide)) (by rfl) (pa_cons (pv 0) (pa_cons (pv 1) pa_nil))))
  (pss_cons (ps_if (pt_cmpR op_isN (pv 6) pe_non (nomark _)) (pss_one (ps_ret pe_str)) pss_nil)
  (pss_cons (ps_par (i := 7) (j := 8) rfl S.nd rfl rfl (by decide) rfl rfl (pa_cons (pe_ix (q_ixT K rfl) (pe_ix (q_ixL K rfl) (pv 1) (pv 6) (fun _ _ => rfl)) pe_int (fun _ _ => rfl)) (pa_cons (pe_lst pa_nil) pa_nil)) (by rfl))
  (pss_cons (ps_set (i := 9) S.nd rfl (by first | exact .inl rfl | exact .inr rfl) (pe_ok h__law_undoing (hr.mono (by decide)) (by rfl) (pa_cons (pv 0) (pa_cons (pv 7) pa_nil))))
  (pss_cons (ps_for PassesOwn.never rfl (q_iL K rfl (pe_op op_cat (pe_slice (q_slL K rfl) (pv 1) po_none (po_some (pv 6))) (pe_slice (q_slL K rfl) (pv 1) (po_some (pe_op op_add (pv 6) pe_int)) po_none))) (q_gT K 2 rfl rfl (pgs_cons (pg_name (i := 10) S.nd rfl (by first | exact .inl rfl | exact .inr rfl)) (pgs_cons (pg_name (i := 11) S.nd rfl (by first | exact .inl rfl | exact .inr rfl)) pgs_nil))) (pss_one (ps_expr (pe_bm PySem.F.plainAttrs_list PySem.F.slot_list_append PySem.F.type_list_append mt_append (pv 8) (pa_cons (pe_tup (pa_cons (pe_ok h__law_spelled (hr.mono (by decide)) (by rfl) (pa_cons (pv 10) (pa_cons (pe_op op_sub (pv 3) pe_int) (pa_cons (pv 7) (pa_cons (pv 9) pa_nil))))) (pa_cons (pe_ok h__law_spelled (hr.mono (by decide)) (by rfl) (pa_cons (pv 11) (pa_cons (pe_op op_sub (pv 3) pe_int) (pa_cons (pv 7) (pa_cons (pv 9) pa_nil))))) pa_nil))) pa_nil)))))
  (pss_cons (ps_if (pt_not (pt_val (pe_callB (q_all K rfl rfl) (by rfl) T.all (by decide +kernel) (pa_cons (pe_lc (own := [("one", 10), ("other", 11)])  (by rfl) S.nd  (q_iL K rfl (pv 8)) (blkOk_by (N := N_law_changed) (sc := defScope s_law_changed) (by decide +kernel)) (fun _ _ _ _ _ => (q_gT K 2 rfl rfl (pgs_cons (pg_name (i := 10) S.nd rfl (by first | exact .inl rfl | exact .inr rfl)) (pgs_cons (pg_name (i := 11) S.nd rfl (by first | exact .inl rfl | exact .inr rfl)) pgs_nil)))) (fun _ _ _ _ _ => pts_nil) (fun _ _ _ _ _ => (pe_and (pe_cmpR op_le (pe_callB (q_len K rfl) (by rfl) T.len PySem.boot_len (pa_cons (pv 10) pa_nil)) pe_int (nomark _)) (pe_one (pe_cmpR op_le (pe_callB (q_len K rfl) (by rfl) T.len PySem.boot_len (pa_cons (pv 11) pa_nil)) pe_int (nomark _)))))) pa_nil)))) (pss_one (ps_ret pe_str)) pss_nil)
  (pss_one (ps_ret (pe_tup (pa_cons (pe_slice (q_slT K rfl) (pv 0) po_none (po_some (pe_op op_sub (pv 3) pe_int))) (pa_cons (pv 8) pa_nil)))))))))))))))), ?_⟩
  have big : 100000 ≤ sizeLine := by decide
  have lr := Vd.L
  have b12 := Vd.B.six
  have b2 := Vd.B.two
  have hlD : Dp K G (.ref l) (.list (rs.map ruleD)) := .lst (SqL.of hl) hxs
  obtain ⟨k, r, ed, k1, k2, k3, k4⟩ := chg_first c
  have hv' := hv
  rw [ed] at hv'
  suffices h : RtD K _ [some vb, some (.ref l), some v, none, none, none, none, none, none, none, none, none] G (dueD (chG bs rs c)) from h H hs _ fun r' G' H' n' hd => q r' G' H' n' hd
  refine rd_two (x := .int (bs.length : Int)) (y := .str k) (ed_tup (ea_cons (EvD.cast (ed_cb (ea_cons (ed_var (i := 0) rfl hb) ea_nil) rcl_len) (by rw [List.length_map])) (ea_cons (ed_op (ed_var (i := 2) rfl hv') ed_int (ro_ixT (k := 0) rfl rfl)) ea_nil)) (by show 2 ≤ sizeLine; omega)) fun vm vk G1 s1 hm hk => ?_
  have hb1 := dp_mono s1 _ hb
  have hl1 := s1 _ _ hl
  have hx1 := dpa_mono s1 _ hxs
  have hv1 := dp_mono s1 _ hv
  have hD1 := dp_mono s1 _ hlD
  refine rd_seqIf (b := decide (k = "put")) (eb_test (ed_op (ed_var (i := 4) rfl hk) ed_str ro_eqS)) (fun hb => ?_) fun hb => ?_
  · obtain ⟨a, b, rfl⟩ := k1.mp (of_decide_eq_true hb)
    have hv1 : Dp K G1 v (.tuple [.str "put", wD a, wD b]) := hv1
    have la := hc.1.2
    have lb := hc.2.2
    have i1 : ∀ {σ : L2.St}, σ[2]? = some (some v) → EvD K (tOp (rIxT K) (tVar 2) (tC (.int 1))) σ G1 (wD a) := fun h => ed_op (ed_var (i := 2) h hv1) ed_int (ro_ixT (k := 1) rfl rfl)
    have i2 : ∀ {σ : L2.St}, σ[2]? = some (some v) → EvD K (tOp (rIxT K) (tVar 2) (tC (.int 2))) σ G1 (wD b) := fun h => ed_op (ed_var (i := 2) h hv1) ed_int (ro_ixT (k := 2) rfl rfl)
    refine rd_seqIf (b := !lets bs.length (a ++ b)) (eb_not (eb_below (i := 5) (l := 3) (fun _ => rfl) (fun _ => rfl) (fun _ => rfl) (EvD.cast (ed_op (i1 rfl) (i2 rfl) (ro_cat (by rw [List.length_map, List.length_map]; omega))) (by show PyData.tuple _ = PyData.tuple _; rw [List.map_append])) hm (fun x hx => (List.mem_append.mp hx).elim (hc.1.1 x) (hc.2.1 x)) (by rw [List.length_append]; omega))) (fun hb2 => ?_) fun hb2 => ?_
    · refine (rd_ret ed_str).cast ?_
      have e : chG bs rs (.put a b) = .error "word" := if_neg (by rw [← lets_app, not_t hb2]; exact Bool.false_ne_true)
      rw [e]; rfl
    have el : chG bs rs (.put a b) = if rs.length = 40 then .error "many" else .ok (bs, rs ++ [(a, b)]) := if_pos (by rw [← lets_app]; exact not_f hb2)
    refine rd_ret (ed_if (b := decide (rs.length = 40)) (EvB.cast (eb_test (ed_op (ed_cb (ea_cons (ed_var (i := 1) rfl hD1) ea_nil) rcl_lenL) ed_int ro_b)) (decide_eq_decide.mpr (by rw [List.length_map]; omega))) (fun h40 => ?_) fun h40 => ?_)
    · rw [el, if_pos (of_decide_eq_true h40)]
      exact ed_str
    · rw [el, if_neg (of_decide_eq_false h40)]
      exact ed_tup (ea_cons (ed_var (i := 0) rfl hb1) (ea_cons (EvD.cast (EvN.toD (en_catV (i := 1) (es := [ruleD (a, b)]) rfl hl1 hx1 (en_lst (ea_cons (ed_tup (ea_cons (i1 rfl) (ea_cons (i2 rfl) ea_nil)) (by show 2 ≤ sizeLine; omega)) ea_nil) (by show 1 ≤ sizeLine; omega)) (by rw [List.length_map]; show _ + 1 ≤ _; omega))) (by rw [List.map_append]; rfl)) ea_nil)) (by show 2 ≤ sizeLine; omega)
  have n1 := of_decide_eq_false hb
  refine rd_seqIf (b := decide (k = "drop")) (eb_test (ed_op (ed_var (i := 4) rfl hk) ed_str ro_eqS)) (fun hb => ?_) fun hb => ?_
  · obtain ⟨m, rfl⟩ := k2.mp (of_decide_eq_true hb)
    have hv1 : Dp K G1 v (.tuple [.str "drop", .int (m : Int)]) := hv1
    have i1 : ∀ {σ : L2.St}, σ[2]? = some (some v) → EvD K (tOp (rIxT K) (tVar 2) (tC (.int 1))) σ G1 (.int (m : Int)) := fun h => ed_op (ed_var (i := 2) h hv1) ed_int (ro_ixT (k := 1) rfl rfl)
    refine rd_ret (ed_if (b := decide (rs.length ≤ m)) (EvB.cast (eb_test (ed_op (i1 rfl) (ed_cb (ea_cons (ed_var (i := 1) rfl hD1) ea_nil) rcl_lenL) ro_b)) (decide_eq_decide.mpr (by rw [List.length_map]; omega))) (fun hm' => ?_) fun hm' => ?_)
    · rw [show chG bs rs (.drop m) = .error "place" from if_pos (of_decide_eq_true hm')]
      exact ed_str
    · rw [show chG bs rs (.drop m) = .ok (bs, rs.take m ++ rs.drop (m + 1)) from if_neg (of_decide_eq_false hm')]
      exact ed_tup (ea_cons (ed_var (i := 0) rfl hb1) (ea_cons (EvD.cast (EvN.toD (en_cat2 (en_slL (lo := none) (hi := some (m : Int)) (ed_var (i := 1) rfl hD1) eo_none (eo_some (i1 rfl))) (en_slL (lo := some ((m + 1 : Nat) : Int)) (hi := none) (ed_var (i := 1) rfl hD1) (eo_some (EvD.cast (ed_op (i1 rfl) ed_int ro_i) (by rfl))) eo_none) (by rw [cutD_to, cutD_from, List.length_take, List.length_drop, List.length_map]; omega))) (by rw [cutD_to, cutD_from, ← List.map_take, ← List.map_drop, ← List.map_append])) ea_nil)) (by show 2 ≤ sizeLine; omega)
  have n2 := of_decide_eq_false hb
  refine rd_seqIf (b := decide (k = "letter")) (eb_test (ed_op (ed_var (i := 4) rfl hk) ed_str ro_eqS)) (fun hb => ?_) fun hb => ?_
  · obtain ⟨a, rfl⟩ := k3.mp (of_decide_eq_true hb)
    have hv1 : Dp K G1 v (.tuple [.str "letter", wD a]) := hv1
    have la : a.length ≤ 40 := hc.2
    have i1 : ∀ {σ : L2.St}, σ[2]? = some (some v) → EvD K (tOp (rIxT K) (tVar 2) (tC (.int 1))) σ G1 (wD a) := fun h => ed_op (ed_var (i := 2) h hv1) ed_int (ro_ixT (k := 1) rfl rfl)
    refine rd_seqIf (b := decide (12 < bs.length + 2)) (EvB.cast (eb_test (ed_op (ed_var (i := 3) rfl hm) ed_int ro_b)) (decide_eq_decide.mpr (by omega))) (fun hb2 => ?_) fun hb2 => ?_
    · refine (rd_ret ed_str).cast ?_
      rw [show chG bs rs (.letter a) = .error "letters" from if_pos (of_decide_eq_true hb2)]; rfl
    have e1 : chG bs rs (.letter a) = if lets bs.length a then if rs.length = 40 then .error "many" else .ok (bs ++ [(bs.length : Int) + 1, (bs.length : Int)], rs ++ [([(bs.length : Int)], a)]) else .error "word" := if_neg (of_decide_eq_false hb2)
    refine rd_seqIf (b := !lets bs.length a) (eb_not (eb_below (i := 5) (l := 3) (fun _ => rfl) (fun _ => rfl) (fun _ => rfl) (i1 rfl) hm hc.1 (by omega))) (fun hb3 => ?_) fun hb3 => ?_
    · refine (rd_ret ed_str).cast ?_
      rw [e1, if_neg (by rw [not_t hb3]; exact Bool.false_ne_true)]; rfl
    rw [e1, if_pos (not_f hb3)]
    refine rd_ret (ed_if (b := decide (rs.length = 40)) (EvB.cast (eb_test (ed_op (ed_cb (ea_cons (ed_var (i := 1) rfl hD1) ea_nil) rcl_lenL) ed_int ro_b)) (decide_eq_decide.mpr (by rw [List.length_map]; omega))) (fun h40 => ?_) fun h40 => ?_)
    · rw [if_pos (of_decide_eq_true h40)]
      exact ed_str
    · rw [if_neg (of_decide_eq_false h40)]
      exact ed_tup (ea_cons (EvD.cast (ed_op (z := .tuple (bs.map .int ++ ([(bs.length : Int) + 1, (bs.length : Int)] : List Int).map .int)) (ed_var (i := 0) rfl hb1) (ed_tup (ea_cons (ed_op (ed_var (i := 3) rfl hm) ed_int ro_i) (ea_cons (ed_var (i := 3) rfl hm) ea_nil)) (by show 2 ≤ sizeLine; omega)) (ro_cat (by rw [List.length_map]; show _ + 2 ≤ _; omega))) (by show PyData.tuple _ = PyData.tuple _; rw [List.map_append]))
        (ea_cons (EvD.cast (EvN.toD (en_catV (i := 1) (es := [ruleD ([(bs.length : Int)], a)]) rfl hl1 hx1 (en_lst (ea_cons (ed_tup (ea_cons (ed_tup (ea_cons (ed_var (i := 3) rfl hm) ea_nil) (by show 1 ≤ sizeLine; omega)) (ea_cons (i1 rfl) ea_nil)) (by show 2 ≤ sizeLine; omega)) ea_nil) (by show 1 ≤ sizeLine; omega)) (by rw [List.length_map]; show _ + 1 ≤ _; omega))) (by rw [List.map_append]; rfl)) ea_nil)) (by show 2 ≤ sizeLine; omega)
  have hcu : c = .unletter := by
    cases c with
    | put a b => exact absurd (k1.mpr ⟨a, b, rfl⟩) n1
    | drop m => exact absurd (k2.mpr ⟨m, rfl⟩) n2
    | letter a => exact absurd (k3.mpr ⟨a, rfl⟩) (of_decide_eq_false hb)
    | unletter => rfl
  subst hcu
  have nat2 : ((bs.length - 2 : Nat) : Int) = (bs.length : Int) - 2 := by omega
  have e2 : bs.getD ((bs.length : Int) - 2).toNat 0 = bs.getD (bs.length - 2) 0 := by congr 1; omega
  refine rd_seqIf (b := decide (bs.length < 4) || !decide (bs.getD (bs.length - 2) 0 = (bs.length : Int) - 1)) (eb_or (EvB.cast (eb_test (ed_op (ed_var (i := 3) rfl hm) ed_int ro_b)) (decide_eq_decide.mpr (by omega))) fun _ => eb_test (EvD.cast (ed_op (ix_ints (ed_var (i := 0) rfl hb1) (ed_op (ed_var (i := 3) rfl hm) ed_int ro_i) ⟨by omega, by omega⟩) (ed_op (ed_var (i := 3) rfl hm) ed_int ro_i) ro_neI) (by rw [e2]))) (fun hb2 => ?_) fun hb2 => ?_
  · refine (rd_ret ed_str).cast ?_
    have el : lastM bs rs = .error "letters" := by
      unfold lastM
      rw [if_pos]
      rw [Bool.or_eq_true] at hb2
      rcases hb2 with hb2 | hb2
      · exact .inl (of_decide_eq_true hb2)
      · exact .inr (of_decide_eq_false (not_t hb2))
    simp only [chG]
    rw [el]
    rfl
  have hbs : ¬ (bs.length < 4 ∨ bs.getD (bs.length - 2) 0 ≠ (bs.length : Int) - 1) := by
    rw [Bool.or_eq_false_iff] at hb2
    rintro (z | z)
    · exact of_decide_eq_false hb2.1 z
    · exact z (of_decide_eq_true (not_f hb2.2))
  have el : lastM bs rs = match placeM (bs.length - 2) rs with | none => .error "rule" | some p => .ok p := by
    unfold lastM
    rw [if_neg hbs]
    all_goals (cases placeM (bs.length - 2) rs <;> rfl)
  refine rd_set (ed_call (ea_cons (ed_var (i := 0) rfl hb1) (ea_cons (ed_var (i := 1) rfl hD1) ea_nil)) (R := R_law_letter_rule) (E := E0) ⟨bs, rs, rfl, b2, Vd.R, by omega, rfl⟩) fun vp G2 s2 hp => ?_
  cases hpl : placeM (bs.length - 2) rs with
  | none =>
    rw [hpl] at hp el
    refine rd_seqIf (b := true) (eb_test (ed_op (ed_var (i := 6) rfl hp) ed_non (fun G H s vx vy hx hy Q q => by rw [dp_non hx, dp_non hy]; exact ⟨rfl, q _ G H (Nx.refl s) (.bl _)⟩))) (fun _ => (rd_ret ed_str).cast ?_) fun z => nomatch z
    simp only [chG]
    rw [el]
    rfl
  | some p =>
    rw [hpl] at hp el
    obtain ⟨r0, h0, _, hm0⟩ := place_mem hpl
    have e0 : rs.getD p ([], []) = r0 := by rw [List.getD_eq_getElem?_getD, h0]; rfl
    have m40 : r0.2.length ≤ 40 := (Vd.R r0 (List.mem_of_getElem? h0)).2.1
    have hmn : Letters bs.length r0.2 := hm0.le (by omega)
    have hp : Dp K G2 vp (.int (p : Int)) := hp
    refine rd_seqIf (b := false) (eb_test (ed_op (ed_var (i := 6) rfl hp) ed_non (fun G H s vx vy hx hy Q q => by rw [dp_int hx, dp_non hy]; exact ⟨rfl, q _ G H (Nx.refl s) (.bl _)⟩))) (fun z => nomatch z) fun _ => ?_
    intro Hx sx D0 q0
    have hm2 := dp_mono s2 _ hm
    have hb2' := dp_mono s2 _ hb1
    have hD2 := dp_mono s2 _ hD1
    obtain ⟨L, _⟩ := lastM_ok el
    refine (ed_op (z := wD r0.2) (ed_op (z := ruleD r0) (ed_var (i := 1) rfl hD2) (ed_var (i := 6) rfl hp) (ro_ixL (k := p) rfl (by rw [List.getElem?_map, h0]; rfl))) ed_int (ro_ixT (k := 1) rfl rfl)) Hx sx _ fun vt G3 H3 n3 ht => ⟨Nat.zero_le _, fun pl hpl' => ⟨_, _, rfl, ?_⟩⟩
    have gr0 := Grow.start (K := K) n3.gh hpl'
    refine seq_let (K := K) (G := G3) (i := 9) (d := wD (undoW bs r0.2)) (ed_call (ea_cons (ed_var (i := 0) rfl (dp_mono n3.gg _ hb2')) (ea_cons (ed_var (i := 7) rfl ht) ea_nil)) (R := R_turned_back) (E := E0) ⟨bs, r0.2, rfl, hmn, by omega, rfl⟩) gr0.n.gh fun vu G4 H4 n4 hu => ?_
    have gr1 := gr0.step n4
    have s34 := n3.gg.trans n4.gg
    have hD4 := dp_mono s34 _ hD2
    have hm4 := dp_mono s34 _ hm2
    have hp4 := dp_mono s34 _ hp
    have ht4 := dp_mono n4.gg _ ht
    have ll := left_len (rs := rs) (p := p)
    have lok := rl_left (p := p) Vd.R
    have lu : (undoW bs r0.2).length ≤ 40 := by rw [undoW_len]; exact m40
    have eR : ∀ r ∈ rs.take p ++ rs.drop (p + 1), (spellW ((bs.length : Int) - 2) r0.2 (undoW bs r0.2) r.1, spellW ((bs.length : Int) - 2) r0.2 (undoW bs r0.2) r.2) = replR bs r0.2 r := fun r hr => by
      obtain ⟨_, _, l1, l2⟩ := lok r hr
      rw [spell_repl b2 l1, spell_repl b2 l2]
      rfl
    have eLR : leftR bs rs p = (rs.take p ++ rs.drop (p + 1)).map (replR bs r0.2) := by unfold leftR; rw [e0]
    refine seq_forDL (K := K) (G := G4) (ds := (rs.take p ++ rs.drop (p + 1)).map ruleD) (EvD.cast (EvN.toD (en_cat2 (en_slL (lo := none) (hi := some (p : Int)) (ed_var (i := 1) rfl hD4) eo_none (eo_some (ed_var (i := 6) rfl hp4))) (en_slL (lo := some ((p + 1 : Nat) : Int)) (hi := none) (ed_var (i := 1) rfl hD4) (eo_some (EvD.cast (ed_op (ed_var (i := 6) rfl hp4) ed_int ro_i) (by rfl))) eo_none) (by rw [cutD_to, cutD_from, List.length_take, List.length_drop, List.length_map]; omega))) (by rw [cutD_to, cutD_from, ← List.map_take, ← List.map_drop, ← List.map_append])) gr1.n.gh fun G5 H5 n5 => ?_
    generalize hlf : rs.take p ++ rs.drop (p + 1) = lf at ll lok eR eLR
    refine ⟨fun j σ Gi Hc => (Grow K G3 H3 pl (((lf.take j).map (replR bs r0.2)).map ruleD) Gi Hc ∧ Same G5 Gi) ∧ ∃ x10 x11, σ = [some vb, some (.ref l), some v, some vm, some vk, none, some vp, some vt, some (.ref pl), some vu, x10, x11],
      ⟨⟨gr1.step n5, Same.refl _⟩, _, _, rfl⟩, ⟨fun p => p.1.2, fun p => p.1.1.n.gh⟩, fun j d v' σ Gi Hc hj hv' hP => ?_, fun σ Gi Hc hP => ?_⟩
    · obtain ⟨⟨gr, s5⟩, x10, x11, rfl⟩ := hP
      rw [List.getElem?_map] at hj
      obtain ⟨r, hx, rfl⟩ := Option.map_eq_some_iff.mp hj
      have hrm := List.mem_of_getElem? hx
      obtain ⟨l1, l2, _, _⟩ := lok r hrm
      have hjl := (List.getElem?_eq_some_iff.mp hx).1
      obtain ⟨a2, y1, y2, rfl, hs2, d1, d2⟩ := rule_vs hv'
      refine ⟨a2, _, rfl, same_tup gr.n.gh hs2, rfl, _, _, rfl, _, _, rfl, rfl, ?_⟩
      dsimp only [gName, List.set_cons_succ, List.set_cons_zero]
      have s4i := n5.gg.trans s5
      refine app_data (i := 8) (d := ruleD (spellW ((bs.length : Int) - 2) r0.2 (undoW bs r0.2) r.1, spellW ((bs.length : Int) - 2) r0.2 (undoW bs r0.2) r.2)) rfl gr hpl' (ed_tup (ea_cons (ed_call (ea_cons (ed_var (i := 10) rfl d1) (ea_cons (ed_op (ed_var (i := 3) rfl (dp_mono s4i _ hm4)) ed_int ro_i) (ea_cons (ed_var (i := 7) rfl (dp_mono s4i _ ht4)) (ea_cons (ed_var (i := 9) rfl (dp_mono s4i _ hu)) ea_nil)))) (R := R_law_spelled) (E := E0) ⟨r.1, (bs.length : Int) - 2, r0.2, undoW bs r0.2, rfl, by omega, m40, lu, rfl⟩)
        (ea_cons (ed_call (ea_cons (ed_var (i := 11) rfl d2) (ea_cons (ed_op (ed_var (i := 3) rfl (dp_mono s4i _ hm4)) ed_int ro_i) (ea_cons (ed_var (i := 7) rfl (dp_mono s4i _ ht4)) (ea_cons (ed_var (i := 9) rfl (dp_mono s4i _ hu)) ea_nil)))) (R := R_law_spelled) (E := E0) ⟨r.2, (bs.length : Int) - 2, r0.2, undoW bs r0.2, rfl, by omega, m40, lu, rfl⟩) ea_nil)) (by show 2 ≤ sizeLine; omega)) (by rw [List.length_map, List.length_map, List.length_take]; omega) fun G6 H6 g6 s6 => ⟨G6, ⟨?_, s5.trans s6⟩, _, _, rfl⟩
      rw [eR r hrm] at g6
      rw [take_snoc hx, List.map_append, List.map_append]
      exact g6
    obtain ⟨⟨gr, s5⟩, x10, x11, rfl⟩ := hP
    rw [List.length_map, List.take_length, ← eLR] at gr
    obtain ⟨m1, dl⟩ := gr.done hpl'
    have gi5 : Same Gi (upd Gi pl (Hc pl |>.getD (.lst []))) := fun b u e => by rw [upd_ne (ne_of_none e gr.g)]; exact e
    generalize hGd : upd Gi pl (Hc pl |>.getD (.lst [])) = Gd at m1 dl gi5
    have sd := (n4.gg.trans (n5.gg.trans s5)).trans gi5
    have lL : (leftR bs rs p).length ≤ 40 := by rw [eLR, List.length_map]; omega
    have fin : ∀ {σ' : L2.St} {t : TS}, RtD K t σ' Gd (dueD (chG bs rs .unletter)) → t D0 σ' Hc := fun h => h Hc m1.gh D0 fun v' G' H' n' hd => q0 v' G' H' (n3.trans (m1.trans n')) hd
    refine fin ?_
    refine rd_seqIf (b := !((leftR bs rs p).map fun r => decide (r.1.length ≤ 40) && decide (r.2.length ≤ 40)).all id) (eb_not (eb_B (ed_cb (ea_cons (EvN.toD (en_lcL2 (i := 10) (j := 11) (fun d => .bool (match d with | .tuple [x, y] => decide ((itemsOf' x).length ≤ 40) && decide ((itemsOf' y).length ≤ 40) | _ => false)) (ed_var (i := 8) rfl dl) (fun _ _ => rfl) (by rw [List.length_map]; omega) (fun d hd => ?_) fun x y v1 v2 Gj hd gj hx hy => ?_)) ea_nil) ?_))) (fun hb3 => ?_) fun hb3 => ?_
    · obtain ⟨r, _, rfl⟩ := List.mem_map.mp hd
      exact ⟨_, _, rfl⟩
    · obtain ⟨r, _, e⟩ := List.mem_map.mp hd
      cases e
      have lenE : ∀ {i : Nat} {v : V} {ws : List Int} {σ : L2.St}, σ[i]? = some (some v) → Dp K Gj v (wD ws) → EvD K (tOp (rI0 fun i j => .bl (decide (i ≤ j))) (tCB (fun xs H Q => ∃ p ys, xs = [V.ref p] ∧ (SqL K H p ys ∨ SqT K H p ys) ∧ Q (V.int ys.length) H) (tCons (tVar i) tNil)) (tC (.int 40))) σ Gj (.bool (decide ((itemsOf' (wD ws)).length ≤ 40))) := fun {i v ws σ} h hv => EvD.cast (ed_op (ed_cb (ea_cons (ed_var h hv) ea_nil) rcl_len) ed_int ro_b) (congrArg PyData.bool (decide_eq_decide.mpr (by show ((ws.map PyData.int).length : Int) ≤ 40 ↔ (ws.map PyData.int).length ≤ 40; omega)))
      exact ed_and (lenE (i := 10) rfl hx) fun _ => lenE (i := 11) rfl hy
    · have h := rcl_all (K := K) (bs := (leftR bs rs p).map fun r => decide (r.1.length ≤ 40) && decide (r.2.length ≤ 40))
      rw [List.map_map] at h
      rw [List.map_map]
      refine cast ?_ h
      congr 2
      congr 1
      refine List.map_congr_left fun r hr => ?_
      show PyData.bool (decide (r.1.length ≤ 40) && decide (r.2.length ≤ 40)) = PyData.bool (decide ((r.1.map PyData.int).length ≤ 40) && decide ((r.2.map PyData.int).length ≤ 40))
      rw [List.length_map, List.length_map]
    · refine (rd_ret ed_str).cast ?_
      have ha : (leftR bs rs p).any (fun r => decide (40 < r.1.length) || decide (40 < r.2.length)) = true := by
        have h3 := not_t hb3
        rw [List.all_map, List.all_eq_false] at h3
        obtain ⟨r, hr, h3⟩ := h3
        rw [List.any_eq_true]
        refine ⟨r, hr, ?_⟩
        have h3 : ¬ (decide (r.1.length ≤ 40) && decide (r.2.length ≤ 40)) = true := h3
        rw [Bool.and_eq_true, decide_eq_true_eq, decide_eq_true_eq] at h3
        rw [Bool.or_eq_true, decide_eq_true_eq, decide_eq_true_eq]
        omega
      simp only [chG]
      rw [el]
      dsimp only
      rw [if_pos ha]
      rfl
    · have ha : ¬ (leftR bs rs p).any (fun r => decide (40 < r.1.length) || decide (40 < r.2.length)) = true := by
        have h3 := not_f hb3
        rw [List.all_map, List.all_eq_true] at h3
        rw [List.any_eq_true]
        rintro ⟨r, hr, h4⟩
        have h3 : (decide (r.1.length ≤ 40) && decide (r.2.length ≤ 40)) = true := h3 r hr
        rw [Bool.and_eq_true, decide_eq_true_eq, decide_eq_true_eq] at h3
        rw [Bool.or_eq_true, decide_eq_true_eq, decide_eq_true_eq] at h4
        omega
      have e : chG bs rs .unletter = .ok (bs.take (bs.length - 2), leftR bs rs p) := by
        simp only [chG]
        rw [el]
        dsimp only
        rw [if_neg ha]
      rw [e]
      refine rd_ret (ed_tup (ea_cons (EvD.cast (ed_slT (lo := none) (hi := some ((bs.length - 2 : Nat) : Int)) (ed_var (i := 0) rfl (dp_mono (n3.gg.trans sd) _ hb2')) eo_none (eo_some (EvD.cast (ed_op (ed_var (i := 3) rfl (dp_mono (n3.gg.trans sd) _ hm2)) ed_int ro_i) (by rw [nat2])))) (by rw [cutD_to, ← List.map_take])) (ea_cons (ed_var (i := 8) rfl dl) ea_nil)) (by show 2 ≤ sizeLine; omega))
end
end Gw
namespace Gw
open PySem PySem.Spec PyProof.Rows L2 LamX
/-! ### lists of permutations of three points: how many keep rules -/
def perms3 : List (List Int) := [[0, 1, 2], [0, 2, 1], [1, 0, 2], [1, 2, 0], [2, 0, 1], [2, 1, 0]]
/-- lines of k points of three -/
def extM (l : List Int) : List (List Int) := (List.range 3).filterMap fun (p : Nat) => if l.any (fun y => y == (p : Int)) then none else some (l ++ [(p : Int)])
def everyM : Nat → List (List Int)
  | 0 => [[]]
  | k + 1 => (everyM k).flatMap extM
theorem every3 : everyM 3 = perms3 := by decide +kernel
def idxM (l : List Int) (p : Int) : Nat := l.findIdx fun x => x == p
def invM (l : List Int) : List Int := (List.range 3).map fun (p : Nat) => (idxM l (p : Int) : Int)
def invoM (l : List Int) : Bool := ((List.range 3).map fun (p : Nat) => decide (l.getD (l.getD p 0).toNat 0 = (p : Int))).all id
def firstM (x : Nat) (o : Int) (c : List (List Int)) : List (List (List Int)) := if o < (x : Int) then [c ++ [invM (c.getD o.toNat [])]] else []
def linesM (x : Nat) (o : Int) : List (List Int) := if (x : Int) ≤ o then perms3 else []
def restM (x : Nat) (o : Int) (c : List (List Int)) (ls : List (List Int)) : List (List (List Int)) := (ls.filter fun l => decide ((x : Int) < o) || invoM l).map fun l => c ++ [l]
def optsM (x : Nat) (o : Int) (c : List (List Int)) : List (List (List Int)) := firstM x o c ++ restM x o c (linesM x o)
def movesM (bs : List Int) : Nat → List (List (List Int))
  | 0 => [[]]
  | k + 1 => (movesM bs k).flatMap (optsM k (bs.getD k 0))
def keptM (bs : List Int) (rs : List Rl) : Nat := (movesM bs bs.length).countP fun ms => keepM ms rs
/-! six permutations -/
theorem inv_mem : ∀ l ∈ perms3, invM l ∈ perms3 := by decide +kernel
theorem inv_l : ∀ l ∈ perms3, ∀ p : Fin 3, (invM l).getD (l.getD p.val 0).toNat 0 = (p.val : Int) := by decide +kernel
theorem inv_r : ∀ l ∈ perms3, ∀ p : Fin 3, l.getD ((invM l).getD p.val 0).toNat 0 = (p.val : Int) := by decide +kernel
theorem invo_l : ∀ l ∈ perms3, invoM l = true → ∀ p : Fin 3, l.getD (l.getD p.val 0).toNat 0 = (p.val : Int) := by decide +kernel
theorem perm_ok : ∀ l ∈ perms3, l.length = 3 ∧ ∀ x ∈ l, 0 ≤ x ∧ x < 3 := by decide +kernel
theorem perm_of : ∀ a b c : Fin 3, a ≠ b → a ≠ c → b ≠ c → [(a.val : Int), (b.val : Int), (c.val : Int)] ∈ perms3 := by decide +kernel
theorem perm_one : ∀ q ∈ perms3, perms3.countP (fun l => decide (l = q)) = 1 := by decide +kernel
theorem opts_len (x : Nat) (o : Int) (c : List (List Int)) : (optsM x o c).length ≤ 6 := by
  unfold optsM firstM restM linesM
  rw [List.length_append, List.length_map]
  have h := List.length_filter_le (fun l => decide ((x : Int) < o) || invoM l) (if (x : Int) ≤ o then perms3 else [])
  by_cases e : o < (x : Int)
  · rw [if_pos e]
    rw [if_neg (by omega)] at h ⊢
    have h' : ([] : List (List Int)).length = 0 := rfl
    have h'' : [c ++ [invM (c.getD o.toNat [])]].length = 1 := rfl
    omega
  · rw [if_neg e]
    rw [if_pos (by omega)] at h ⊢
    have h' : perms3.length = 6 := rfl
    have h'' : ([] : List (List (List Int))).length = 0 := rfl
    omega
theorem fm_len {α β : Type} (f : α → List β) (n : Nat) (h : ∀ x, (f x).length ≤ n) : ∀ l : List α, (l.flatMap f).length ≤ l.length * n
  | [] => Nat.zero_le _
  | x :: l => by
    have h1 := h x
    have h2 := fm_len f n h l
    rw [List.flatMap_cons, List.length_append, List.length_cons, Nat.succ_mul]
    omega
theorem moves_len (bs : List Int) : ∀ k, (movesM bs k).length ≤ 6 ^ k
  | 0 => Nat.le_refl _
  | k + 1 => by
    have h1 := moves_len bs k
    have h2 := fm_len (optsM k (bs.getD k 0)) 6 (opts_len _ _) (movesM bs k)
    have h3 : (movesM bs (k + 1)).length ≤ (movesM bs k).length * 6 := h2
    rw [Nat.pow_succ]
    exact Nat.le_trans h3 (Nat.mul_le_mul_right 6 h1)
theorem getD_past {α : Type} {c e : List α} {d : α} {x k : Nat} (h : x = c.length + k) : (c ++ e).getD x d = e.getD k d := by
  rw [List.getD_eq_getElem?_getD, List.getD_eq_getElem?_getD, List.getElem?_append_right (by omega), show x - c.length = k by omega]
/-! what such a list of permutations is -/
structure MvM (bs : List Int) (k : Nat) (c : List (List Int)) : Prop where
  len : c.length = k
  mem : ∀ l ∈ c, l ∈ perms3
  lt : ∀ x : Nat, x < k → bs.getD x 0 < (x : Int) → c.getD x [] = invM (c.getD (bs.getD x 0).toNat [])
  eq : ∀ x : Nat, x < k → bs.getD x 0 = (x : Int) → invoM (c.getD x []) = true
theorem getD_app {α : Type} {c : List α} {l d : α} {x : Nat} (h : x < c.length) : (c ++ [l]).getD x d = c.getD x d := by
  rw [List.getD_eq_getElem?_getD, List.getD_eq_getElem?_getD, List.getElem?_append_left h]
theorem getD_end {α : Type} {c : List α} {l d : α} : (c ++ [l]).getD c.length d = l := by
  rw [List.getD_eq_getElem?_getD, List.getElem?_append_right (Nat.le_refl _), Nat.sub_self]
  rfl
theorem moves_ok {bs : List Int} (h0 : ∀ x ∈ bs, 0 ≤ x) : ∀ k : Nat, k ≤ bs.length → ∀ c ∈ movesM bs k, MvM bs k c
  | 0, _, c, hc => by
    have : c = [] := List.mem_singleton.mp hc
    subst this
    exact ⟨rfl, (fun l hl => nomatch hl), fun x hx => absurd hx (Nat.not_lt_zero _), fun x hx => absurd hx (Nat.not_lt_zero _)⟩
  | k + 1, hk, c, hc => by
    obtain ⟨d, hd, hc⟩ := List.mem_flatMap.mp hc
    have M := moves_ok h0 k (by omega) d hd
    have hl := M.len
    have ob : 0 ≤ bs.getD k 0 := by
      rw [List.getD_eq_getElem?_getD, List.getElem?_eq_getElem (by omega)]
      exact h0 _ (List.getElem_mem _)
    have key : ∀ l, l ∈ perms3 → c = d ++ [l] → (bs.getD k 0 < (k : Int) → l = invM (d.getD (bs.getD k 0).toNat [])) → (bs.getD k 0 = (k : Int) → invoM l = true) → MvM bs (k + 1) c := fun l hp e e1 e2 => by
      subst e
      refine ⟨by rw [List.length_append, hl]; rfl, fun l' hl' => ?_, fun x hx hb => ?_, fun x hx hb => ?_⟩
      · rcases List.mem_append.mp hl' with z | z
        · exact M.mem l' z
        · rw [List.mem_singleton.mp z]; exact hp
      · by_cases ex : x = k
        · subst ex
          subst hl
          rw [getD_end, getD_app (by omega)]
          exact e1 hb
        · have ob2 : 0 ≤ bs.getD x 0 := by
            rw [List.getD_eq_getElem?_getD, List.getElem?_eq_getElem (by omega)]
            exact h0 _ (List.getElem_mem _)
          rw [getD_app (by omega), getD_app (by omega)]
          exact M.lt x (by omega) hb
      · by_cases ex : x = k
        · subst ex
          subst hl
          rw [getD_end]
          exact e2 hb
        · rw [getD_app (by omega)]
          exact M.eq x (by omega) hb
    unfold optsM firstM restM linesM at hc
    rcases List.mem_append.mp hc with z | z
    · split at z
      · rename_i hlt
        have hlen : (bs.getD k 0).toNat < d.length := by omega
        refine key _ (inv_mem _ (M.mem _ ?_)) (List.mem_singleton.mp z) (fun _ => rfl) fun e => by omega
        rw [List.getD_eq_getElem?_getD, List.getElem?_eq_getElem hlen]
        exact List.getElem_mem hlen
      · cases z
    · obtain ⟨l, hl', rfl⟩ := List.mem_map.mp z
      obtain ⟨h1, h2⟩ := List.mem_filter.mp hl'
      split at h1
      · rename_i hle
        refine key l h1 rfl (fun e => by omega) fun e => ?_
        rw [Bool.or_eq_true] at h2
        rcases h2 with h2 | h2
        · have := of_decide_eq_true h2; omega
        · exact h2
      · cases h1
theorem IsBk.nn {bs : List Int} (B : IsBk bs) : ∀ x ∈ bs, 0 ≤ x := fun x hx => by
  obtain ⟨k, hk⟩ := List.getElem?_of_mem hx
  obtain ⟨j, h1, _⟩ := B.inv k (List.getElem?_eq_some_iff.mp hk).1
  rw [hk] at h1
  cases h1
  exact Int.natCast_nonneg j
theorem MvM.ok {bs : List Int} {k : Nat} {c : List (List Int)} (M : MvM bs k c) (h : 0 < k) : MvOk 3 c := ⟨by rw [M.len]; exact h, fun l hl => by
  obtain ⟨h1, h2⟩ := perm_ok l (M.mem l hl)
  exact ⟨h1, h2⟩⟩
theorem MvM.at {bs : List Int} {k : Nat} {c : List (List Int)} (M : MvM bs k c) {x : Nat} (h : x < k) : c.getD x [] ∈ perms3 := by
  have hl : x < c.length := by rw [M.len]; exact h
  rw [List.getD_eq_getElem?_getD, List.getElem?_eq_getElem hl]
  exact M.mem _ (List.getElem_mem hl)
/-- a letter and what undoes it -/
theorem MvM.back {bs : List Int} (B : IsBk bs) {c : List (List Int)} (M : MvM bs bs.length c) {x : Int} (hx : 0 ≤ x ∧ x < (bs.length : Int)) {p : Int} (hp : 0 ≤ p ∧ p < 3) : act1 c (act1 c p x) (bs.getD x.toNat 0) = p := by
  have hxl : x.toNat < bs.length := by omega
  obtain ⟨j, h1, h2⟩ := B.inv x.toNat hxl
  have ej : bs.getD x.toNat 0 = (j : Int) := by rw [List.getD_eq_getElem?_getD, h1]; rfl
  have ex : bs.getD j 0 = ((x.toNat : Nat) : Int) := by rw [List.getD_eq_getElem?_getD, h2]; rfl
  have hj : j < bs.length := (List.getElem?_eq_some_iff.mp h2).1
  have ep : p = (((⟨p.toNat, by omega⟩ : Fin 3).val : Nat) : Int) := by show p = ((p.toNat : Nat) : Int); omega
  rw [ej]
  unfold act1
  rw [Int.toNat_natCast]
  rcases Nat.lt_trichotomy j x.toNat with z | z | z
  · have e := M.lt x.toNat hxl (by rw [ej]; omega)
    rw [ej, Int.toNat_natCast] at e
    rw [e]
    have h := inv_r _ (M.at hj) ⟨p.toNat, by omega⟩
    rw [ep]
    simp only [Int.toNat_natCast]
    exact h
  · subst z
    have e := M.eq _ hxl ej
    have h := invo_l _ (M.at hxl) e ⟨p.toNat, by omega⟩
    rw [ep]
    simp only [Int.toNat_natCast]
    exact h
  · have e := M.lt j hj (by rw [ex]; omega)
    rw [ex, Int.toNat_natCast] at e
    rw [e]
    have h := inv_l _ (M.at hxl) ⟨p.toNat, by omega⟩
    rw [ep]
    simp only [Int.toNat_natCast]
    exact h
theorem act_cons (ms : List (List Int)) (p x : Int) (ws : List Int) : act ms p (x :: ws) = act ms (act1 ms p x) ws := rfl
theorem MvM.undo {bs : List Int} (B : IsBk bs) {c : List (List Int)} (M : MvM bs bs.length c) : ∀ {a : List Int} {p : Int}, Letters bs.length a → 0 ≤ p ∧ p < 3 → act c (act c p a) (undoW bs a) = p
  | [], p, _, hp => rfl
  | x :: a, p, ha, hp => by
    have b2 := B.two
    have O := M.ok (by omega : 0 < bs.length)
    have hx := ha x List.mem_cons_self
    have hx' : 0 ≤ x ∧ x < (c.length : Int) := by rw [M.len]; exact hx
    have e : undoW bs (x :: a) = undoW bs a ++ [bs.getD x.toNat 0] := by
      unfold undoW
      rw [List.reverse_cons, List.map_append]
      rfl
    rw [act_cons, e, act_snoc, M.undo B (a := a) (fun y hy => ha y (List.mem_cons_of_mem _ hy)) (O.act1 hx' hp)]
    exact M.back B hx hp
def permOf (c : List (List Int)) (a : List Int) : List Int := [act c 0 a, act c 1 a, act c 2 a]
theorem MvM.perm {bs : List Int} (B : IsBk bs) {c : List (List Int)} (M : MvM bs bs.length c) {a : List Int} (ha : Letters bs.length a) : permOf c a ∈ perms3 := by
  have b2 := B.two
  have O := M.ok (by omega : 0 < bs.length)
  have ha' : Letters c.length a := by rw [M.len]; exact ha
  have r : ∀ p : Int, 0 ≤ p ∧ p < 3 → 0 ≤ act c p a ∧ act c p a < 3 := fun p hp => O.act ha' hp
  have inj : ∀ p q : Int, 0 ≤ p ∧ p < 3 → 0 ≤ q ∧ q < 3 → p ≠ q → act c p a ≠ act c q a := fun p q hp hq n e => n (by
    have h1 := M.undo B ha hp
    rw [e, M.undo B ha hq] at h1
    exact h1.symm)
  have r0 := r 0 (by decide)
  have r1 := r 1 (by decide)
  have r2 := r 2 (by decide)
  have n1 := inj 0 1 (by decide) (by decide) (by decide)
  have n2 := inj 0 2 (by decide) (by decide) (by decide)
  have n3 := inj 1 2 (by decide) (by decide) (by decide)
  have h := perm_of ⟨(act c 0 a).toNat, by omega⟩ ⟨(act c 1 a).toNat, by omega⟩ ⟨(act c 2 a).toNat, by omega⟩ (fun z => n1 (by have := congrArg Fin.val z; simp only at this; omega)) (fun z => n2 (by have := congrArg Fin.val z; simp only at this; omega)) (fun z => n3 (by have := congrArg Fin.val z; simp only at this; omega))
  have e : permOf c a = [(((act c 0 a).toNat : Nat) : Int), (((act c 1 a).toNat : Nat) : Int), (((act c 2 a).toNat : Nat) : Int)] := by
    unfold permOf
    rw [Int.toNat_of_nonneg r0.1, Int.toNat_of_nonneg r1.1, Int.toNat_of_nonneg r2.1]
  rw [e]
  exact h
theorem perm_at {c : List (List Int)} {a : List Int} {p : Int} (hp : 0 ≤ p ∧ p < 3) : (permOf c a).getD p.toNat 0 = act c p a := by
  have : p = 0 ∨ p = 1 ∨ p = 2 := by omega
  rcases this with rfl | rfl | rfl <;> rfl
/-! two letters more -/
section
variable {b : List Int} {c : List (List Int)} {a : List Int}
theorem act1_less {c d : List (List Int)} {x p : Int} (hx : 0 ≤ x ∧ x < (c.length : Int)) : act1 (c ++ d) p x = act1 c p x := by
  unfold act1
  rw [List.getD_eq_getElem?_getD, List.getD_eq_getElem?_getD, List.getElem?_append_left (by omega), ← List.getD_eq_getElem?_getD, ← List.getD_eq_getElem?_getD]
theorem act_less {c d : List (List Int)} : ∀ {w : List Int} {p : Int}, Letters c.length w → act (c ++ d) p w = act c p w
  | [], _, _ => rfl
  | x :: w, p, h => by rw [act_cons, act_cons, act1_less (h x List.mem_cons_self), act_less fun y hy => h y (List.mem_cons_of_mem _ hy)]
theorem undoW_more {d : List Int} : ∀ {w : List Int}, Letters b.length w → undoW (b ++ d) w = undoW b w := fun {w} h => by
  unfold undoW
  refine List.map_congr_left fun x hx => ?_
  have := h x (List.mem_reverse.mp hx)
  rw [List.getD_eq_getElem?_getD, List.getD_eq_getElem?_getD, List.getElem?_append_left (by omega)]
abbrev bk2 (b : List Int) : List Int := b ++ [(b.length : Int) + 1, (b.length : Int)]
theorem bk2_len : (bk2 b).length = b.length + 2 := by rw [List.length_append]; rfl
theorem act_repl (B : IsBk b) (M : MvM b b.length c) (ha : Letters b.length a) : ∀ {w : List Int} {p : Int}, Letters (b.length + 2) w → 0 ≤ p ∧ p < 3 → act (c ++ [permOf c a, invM (permOf c a)]) p w = act c p (replW (bk2 b) a w)
  | [], _, _, _ => rfl
  | x :: w, p, hw, hp => by
    have b2 := B.two
    have O := M.ok (by omega : 0 < b.length)
    have ha' : Letters c.length a := by rw [M.len]; exact ha
    have hx := hw x List.mem_cons_self
    have hw' : Letters (b.length + 2) w := fun y hy => hw y (List.mem_cons_of_mem _ hy)
    have hl := M.len
    have e : replW (bk2 b) a (x :: w) = (if x < (b.length : Int) then [x] else if x = (b.length : Int) then a else undoW b a) ++ replW (bk2 b) a w := by
      unfold replW
      rw [List.flatMap_cons, bk2_len, undoW_more ha, show ((b.length + 2 : Nat) : Int) - 2 = (b.length : Int) by omega]
    have hp2 := perm_at (c := c) (a := a) hp
    rw [e, act_app, act_cons]
    by_cases e1 : x < (b.length : Int)
    · rw [if_pos e1, act1_less ⟨hx.1, by omega⟩]
      have := O.act1 (x := x) ⟨hx.1, by omega⟩ hp
      rw [act_repl B M ha hw' this]
      rfl
    rw [if_neg e1]
    by_cases e2 : x = (b.length : Int)
    · rw [if_pos e2]
      have h1 : act1 (c ++ [permOf c a, invM (permOf c a)]) p x = act c p a := by
        unfold act1
        rw [getD_past (x := x.toNat) (k := 0) (by omega)]
        exact hp2
      rw [h1]
      exact act_repl B M ha hw' (O.act ha' hp)
    · rw [if_neg e2]
      have hq := M.perm B ha
      have h1 : act1 (c ++ [permOf c a, invM (permOf c a)]) p x = act c p (undoW b a) := by
        unfold act1
        rw [getD_past (x := x.toNat) (k := 1) (by omega)]
        show (invM (permOf c a)).getD p.toNat 0 = _
        have h2 := inv_r _ hq ⟨p.toNat, by omega⟩
        have h3 := perm_ok _ (inv_mem _ hq)
        have h4 : 0 ≤ (invM (permOf c a)).getD p.toNat 0 ∧ (invM (permOf c a)).getD p.toNat 0 < 3 := by
          rw [List.getD_eq_getElem?_getD, List.getElem?_eq_getElem (by rw [h3.1]; omega)]
          exact h3.2 _ (List.getElem_mem _)
        generalize (invM (permOf c a)).getD p.toNat 0 = j at h2 h4
        rw [perm_at h4] at h2
        have h5 := M.undo B ha h4
        rw [h2] at h5
        have h6 : ((p.toNat : Nat) : Int) = p := by omega
        simp only [h6] at h5
        exact h5.symm
      rw [h1]
      have r : 0 ≤ act c p (undoW b a) ∧ act c p (undoW b a) < 3 := by
        refine O.act ?_ hp
        intro y hy
        unfold undoW at hy
        obtain ⟨z, hz, rfl⟩ := List.mem_map.mp hy
        have := ha z (List.mem_reverse.mp hz)
        obtain ⟨j, h1, h2⟩ := B.inv z.toNat (by omega)
        have hj := (List.getElem?_eq_some_iff.mp h2).1
        rw [List.getD_eq_getElem?_getD, h1]
        show 0 ≤ (j : Int) ∧ (j : Int) < _
        omega
      exact act_repl B M ha hw' r
theorem first_len (h : 0 < c.length) {d : List (List Int)} (hm : ∀ l ∈ c, l ∈ perms3) : ((c ++ d).getD 0 []).length = 3 ∧ (c.getD 0 []).length = 3 := by
  have e : (c ++ d).getD 0 [] = c.getD 0 [] := by rw [List.getD_eq_getElem?_getD, List.getD_eq_getElem?_getD, List.getElem?_append_left h]
  rw [e]
  have : (c.getD 0 []).length = 3 := by
    rw [List.getD_eq_getElem?_getD, List.getElem?_eq_getElem h]
    exact (perm_ok _ (hm _ (List.getElem_mem h))).1
  exact ⟨this, this⟩
theorem alike_repl (B : IsBk b) (M : MvM b b.length c) (ha : Letters b.length a) {r : Rl} (h1 : Letters (b.length + 2) r.1) (h2 : Letters (b.length + 2) r.2) : alikeM (c ++ [permOf c a, invM (permOf c a)]) r = alikeM c (replR (bk2 b) a r) := by
  have b2 := B.two
  obtain ⟨l1, l2⟩ := first_len (c := c) (d := [permOf c a, invM (permOf c a)]) (by rw [M.len]; omega) M.mem
  unfold alikeM
  rw [l1, l2, Bool.eq_iff_iff, List.all_eq_true, List.all_eq_true]
  refine forall_congr' fun k => ?_
  refine forall_congr' fun hk => ?_
  have hk := List.mem_range.mp hk
  have hp : 0 ≤ (k : Int) ∧ (k : Int) < 3 := by omega
  rw [act_repl B M ha h1 hp, act_repl B M ha h2 hp]
  rfl
theorem alike_tells (B : IsBk b) (M : MvM b b.length c) (ha : Letters b.length a) {l : List Int} (hl : l ∈ perms3) : alikeM (c ++ [l, invM l]) ([(b.length : Int)], a) = decide (l = permOf c a) := by
  have b2 := B.two
  have ha' : Letters c.length a := by rw [M.len]; exact ha
  obtain ⟨l1, l2⟩ := first_len (c := c) (d := [l, invM l]) (by rw [M.len]; omega) M.mem
  have e1 : ∀ k : Nat, act (c ++ [l, invM l]) (k : Int) [(b.length : Int)] = l.getD k 0 := fun k => by
    show act1 _ _ _ = _
    unfold act1
    rw [Int.toNat_natCast, Int.toNat_natCast, getD_past (x := b.length) (k := 0) (by rw [M.len]; rfl)]
    rfl
  have e2 : ∀ k : Nat, act (c ++ [l, invM l]) (k : Int) a = act c (k : Int) a := fun k => act_less ha'
  unfold alikeM
  rw [l1, Bool.eq_iff_iff, List.all_eq_true, decide_eq_true_iff]
  have h3 := (perm_ok l hl).1
  constructor
  · intro h
    have t : ∀ k : Nat, k < 3 → l.getD k 0 = act c (k : Int) a := fun k hk => by
      have := of_decide_eq_true (h k (List.mem_range.mpr hk))
      simp only [e1, e2] at this
      exact this
    match l, h3, t with
    | [x, y, z], _, t =>
      have t0 := t 0 (by decide)
      have t1 := t 1 (by decide)
      have t2 := t 2 (by decide)
      show [x, y, z] = [act c 0 a, act c 1 a, act c 2 a]
      rw [show x = act c 0 a from t0, show y = act c 1 a from t1, show z = act c 2 a from t2]
  · intro e k hk
    have hk := List.mem_range.mp hk
    refine decide_eq_true ?_
    simp only [e1, e2]
    rw [e]
    have := perm_at (c := c) (a := a) (p := (k : Int)) ⟨by omega, by omega⟩
    rw [Int.toNat_natCast] at this
    exact this
theorem moves_pre {bs d : List Int} : ∀ k : Nat, k ≤ bs.length → movesM (bs ++ d) k = movesM bs k
  | 0, _ => rfl
  | k + 1, h => by
    show (movesM (bs ++ d) k).flatMap _ = (movesM bs k).flatMap _
    rw [moves_pre k (by omega), List.getD_eq_getElem?_getD, List.getD_eq_getElem?_getD, List.getElem?_append_left (by omega)]
theorem moves_two (hb : ∀ x ∈ b, 0 ≤ x) : movesM (bk2 b) (bk2 b).length = (movesM b b.length).flatMap fun c => perms3.map fun l => c ++ [l, invM l] := by
  have g1 : (bk2 b).getD b.length 0 = (b.length : Int) + 1 := by
    rw [List.getD_eq_getElem?_getD, List.getElem?_append_right (Nat.le_refl _), Nat.sub_self]; rfl
  have g2 : (bk2 b).getD (b.length + 1) 0 = (b.length : Int) := by
    rw [List.getD_eq_getElem?_getD, List.getElem?_append_right (by omega), Nat.add_sub_cancel_left]; rfl
  have e1 : ∀ c : List (List Int), optsM b.length ((b.length : Int) + 1) c = perms3.map fun l => c ++ [l] := fun c => by
    unfold optsM firstM restM linesM
    rw [if_neg (by omega), if_pos (by omega), List.nil_append, List.filter_eq_self.mpr fun l _ => by rw [decide_eq_true (by omega : (b.length : Int) < (b.length : Int) + 1)]; rfl]
  have e2 : ∀ c : List (List Int), optsM (b.length + 1) (b.length : Int) c = [c ++ [invM (c.getD b.length [])]] := fun c => by
    unfold optsM firstM restM linesM
    rw [if_pos (by omega), if_neg (by omega), Int.toNat_natCast]
    rfl
  rw [bk2_len]
  show ((movesM (bk2 b) b.length).flatMap (optsM b.length ((bk2 b).getD b.length 0))).flatMap (optsM (b.length + 1) ((bk2 b).getD (b.length + 1) 0)) = _
  rw [g1, g2, moves_pre _ (Nat.le_refl _), List.flatMap_assoc]
  have hl := moves_ok hb b.length (Nat.le_refl _)
  generalize movesM b b.length = cs at hl
  induction cs with
  | nil => rfl
  | cons c cs ih =>
    rw [List.flatMap_cons, List.flatMap_cons, ih fun c hc => hl c (List.mem_cons_of_mem _ hc)]
    congr 1
    rw [e1, List.flatMap_map]
    have lc := (hl c List.mem_cons_self).len
    have e3 : ∀ l : List Int, optsM (b.length + 1) (b.length : Int) (c ++ [l]) = [c ++ [l, invM l]] := fun l => by
      rw [e2, ← lc, getD_end, List.append_assoc]
      rfl
    show perms3.flatMap (fun l => optsM (b.length + 1) (b.length : Int) (c ++ [l])) = _
    simp only [e3]
    generalize perms3 = ps
    induction ps with
    | nil => rfl
    | cons q ps ihq => rw [List.flatMap_cons, ihq]; rfl
theorem all_split {α : Type} {f : α → Bool} {rs : List α} {p : Nat} {r : α} (h : rs[p]? = some r) : rs.all f = (f r && (rs.take p ++ rs.drop (p + 1)).all f) := by
  obtain ⟨hl, e⟩ := List.getElem?_eq_some_iff.mp h
  have e1 : rs = rs.take p ++ r :: rs.drop (p + 1) := by
    rw [← e, ← List.drop_eq_getElem_cons hl, List.take_append_drop]
  generalize hx : rs.take p = x at e1 ⊢
  generalize hy : rs.drop (p + 1) = y at e1 ⊢
  rw [e1, List.all_append, List.all_append, List.all_cons, ← Bool.and_assoc, Bool.and_comm (x.all f), Bool.and_assoc]
theorem kept_last (B : IsBk b) (ha : Letters b.length a) {rs : List Rl} (hr : ∀ r ∈ rs, Letters (b.length + 2) r.1 ∧ Letters (b.length + 2) r.2) {p : Nat} (hp : rs[p]? = some ([(b.length : Int)], a)) :
    keptM (bk2 b) rs = keptM b ((rs.take p ++ rs.drop (p + 1)).map (replR (bk2 b) a)) := by
  unfold keptM
  rw [moves_two B.nn]
  have hl := moves_ok B.nn b.length (Nat.le_refl _)
  generalize movesM b b.length = cs at hl
  induction cs with
  | nil => rfl
  | cons c cs ih =>
    have M := hl c List.mem_cons_self
    rw [List.flatMap_cons, List.countP_append, List.countP_cons, ih fun c hc => hl c (List.mem_cons_of_mem _ hc), Nat.add_comm]
    congr 1
    have hq := M.perm B ha
    have key : ∀ l ∈ perms3, keepM (c ++ [l, invM l]) rs = (decide (l = permOf c a) && keepM c ((rs.take p ++ rs.drop (p + 1)).map (replR (bk2 b) a))) := fun l hlp => by
      unfold keepM
      rw [all_split hp, alike_tells B M ha hlp]
      by_cases e : l = permOf c a
      · subst e
        congr 1
        rw [List.all_map, Bool.eq_iff_iff, List.all_eq_true, List.all_eq_true]
        refine forall_congr' fun r => ?_
        refine forall_congr' fun hm => ?_
        have hm' : r ∈ rs := by
          rcases List.mem_append.mp hm with z | z
          · exact List.mem_of_mem_take z
          · exact List.mem_of_mem_drop z
        obtain ⟨h1, h2⟩ := hr r hm'
        rw [alike_repl B M ha h1 h2]
        rfl
      · rw [decide_eq_false e]
        rfl
    rw [List.countP_map, List.countP_congr (q := fun l => decide (l = permOf c a) && keepM c ((rs.take p ++ rs.drop (p + 1)).map (replR (bk2 b) a))) fun l hlp => by show keepM (c ++ [l, invM l]) rs = true ↔ _; rw [key l hlp]]
    cases keepM c ((rs.take p ++ rs.drop (p + 1)).map (replR (bk2 b) a)) with
    | true =>
      simp only [Bool.and_true]
      rw [perm_one _ hq]
      rfl
    | false =>
      simp only [Bool.and_false]
      rw [List.countP_false]
      rfl
theorem repl_less {bs m w : List Int} (h : ∀ x ∈ w, x < (bs.length : Int) - 2) : replW bs m w = w := by
  unfold replW
  induction w with
  | nil => rfl
  | cons x w ih =>
    rw [List.flatMap_cons, ih fun y hy => h y (List.mem_cons_of_mem _ hy), if_pos (h x List.mem_cons_self)]
    rfl
theorem kept_more (B : IsBk b) (ha : Letters b.length a) {rs : List Rl} (hr : ∀ r ∈ rs, Letters b.length r.1 ∧ Letters b.length r.2) : keptM (bk2 b) (rs ++ [([(b.length : Int)], a)]) = keptM b rs := by
  have h := kept_last B ha (rs := rs ++ [([(b.length : Int)], a)]) (p := rs.length) (fun r hm => ?_) (by rw [List.getElem?_append_right (Nat.le_refl _), Nat.sub_self]; rfl)
  · rw [h]
    congr 1
    rw [List.take_append_of_le_length (Nat.le_refl _), List.take_length, List.drop_eq_nil_of_le (by rw [List.length_append]; exact Nat.le_refl _), List.append_nil]
    refine (List.map_congr_left fun r hm => ?_).trans (List.map_id rs)
    obtain ⟨h1, h2⟩ := hr r hm
    unfold replR
    rw [repl_less fun x hx => by rw [bk2_len]; have := h1 x hx; omega, repl_less fun x hx => by rw [bk2_len]; have := h2 x hx; omega]
    rfl
  · rcases List.mem_append.mp hm with z | z
    · obtain ⟨h1, h2⟩ := hr r z
      exact ⟨h1.le (by omega), h2.le (by omega)⟩
    · rw [List.mem_singleton.mp z]
      refine ⟨fun x hx => ?_, ha.le (by omega)⟩
      rw [List.mem_singleton.mp hx]
      omega
end
end Gw
namespace Gw
open PySem PySem.Spec PyProof.Rows L2 LamX
/-! ### tuples of the heap that are known to the letter, without a dict -/
def FzT (H : Hp) (a : Addr) (xs : List V) : Prop := ∃ o : Obj, H a = some (.frz o (.tup xs)) ∧ o.dict = none
theorem FzT.sq {K : PySem.W.Frag} {H : Hp} {a : Addr} {xs : List V} (h : FzT H a xs) : SqT K H a xs := by obtain ⟨o, e, _⟩ := h; exact .inl (.inr ⟨o, e⟩)
theorem FzT.mono {H H' : Hp} {a : Addr} {xs : List V} (s : Same H H') (h : FzT H a xs) : FzT H' a xs := by obtain ⟨o, e, d⟩ := h; exact ⟨o, s _ _ e, d⟩
/-- t + u, the new tuple known to the letter -/
def rCatX (K : PySem.W.Frag) : R2 := fun x y H Q => rCatA K x y H Q ∨ ∃ a b xs ys, x = .ref a ∧ y = .ref b ∧ SqT K H a xs ∧ SqT K H b ys ∧ xs.length + ys.length ≤ sizeLine ∧ xs ≠ [] ∧ ys ≠ [] ∧ ∀ (p : Addr) (o : Obj), H p = none → o.dict = none → Q (.ref p) (upd H p (.frz o (.tup (xs ++ ys))))
def rTupX (K : PySem.W.Frag) : List V → Hp → VK → Prop := fun xs H Q => rTupQ K xs H Q ∨ ∃ p ys, xs = [.ref p] ∧ SqL K H p ys ∧ ∀ (l : Addr) (o : Obj), H l = none → o.dict = none → Q (.ref l) (upd H l (.frz o (.tup ys)))
section
variable {X : Cx}
theorem op_catX : OpR X (binaryOp .Add) (rCatX X.K) := by
  intro pins s σ H x y v u Q I rx ry h
  rcases h with h | h
  · exact op_catA pins s σ H x y v u Q I rx ry h
  obtain ⟨a, b, xs, ys, rfl, rfl, ha, hb, hz, hx, hy, q⟩ := h
  cases rx
  cases ry
  obtain ⟨its, r1, p1, _⟩ := I.tuple ha
  obtain ⟨its2, r2, p2, _⟩ := I.tuple hb
  refine HT.cat_tup p1 p2 (fun z => hx (r1.nil_iff.mp z)) (fun z => absurd (r2.nil_iff.mp z) hy) (fun z => ?_) (by rw [← r1.length, ← r2.length]; exact hz)
  refine ⟨.ref s.heap.objs.size, _, I.laid (t' := s.toks) (o := .frz { cls := .type "tuple", data := .seq (its ++ its2).toArray } (.tup (xs ++ ys))) (fun b ob q => Heap.get?_push_of_some _ q) (Nat.le_refl _) ?_, rfl, q _ _ (I.hok.fresh (Nat.le_refl _)) rfl⟩
  exact ⟨Heap.get?_push_size _ rfl, by rw [List.length_append]; exact hz, _, r1.append r2, IsTup.new _ _⟩
theorem q_catX (K : PySem.W.Frag) (e : X.K = K) : OpR X (binaryOp .Add) (rCatX K) := by subst e; exact op_catX
theorem call_tupX : CallR X (.type "tuple") (rTupX X.K) := by
  intro pins s σ H xs us Q I r h
  rcases h with h | h
  · exact call_tuple_of pins s σ H xs us Q I r h
  obtain ⟨p, ys, rfl, hq, q⟩ := h
  obtain ⟨u, rfl, rx⟩ := vals1 r
  cases rx
  obtain ⟨its, r', pl, hz⟩ := I.list hq
  have hlen := r'.length
  refine call_tuple_list pl.isList (fun h' kp => ?_) (by simp only [List.size_toArray] <;> omega)
  have I1 : Inv X pins σ H { s with heap := h' } := I.kept (t' := s.toks) kp
  have I2 : Inv X pins σ (upd H h'.objs.size (.frz { cls := .type "tuple", data := .seq its.toArray } (.tup ys))) { s with heap := h'.push { cls := .type "tuple", data := .seq its.toArray } } :=
    I1.laid (t' := s.toks) (fun b o e => Heap.get?_push_of_some _ e) (Nat.le_refl _) (show ObjOk X.prog X.w _ _ _ (.frz _ (.tup ys)) from ⟨Heap.get?_push_size _ rfl, hz, its, r', IsTup.new _ _⟩)
  exact ⟨.ref h'.objs.size, _, I2, rfl, q _ _ (I1.hok.fresh (Nat.le_refl _)) rfl⟩
theorem q_tupX (K : PySem.W.Frag) (e : X.K = K) : CallR X (.type "tuple") (rTupX K) := by subst e; exact call_tupX
/-- the call of a method of such a tuple -/
def tBMZ (r : V → List V → Hp → VK → Prop) (to : TE) (t : TA) : TE := fun σ H Q => to σ H fun x H1 => (∃ a xs, x = .ref a ∧ FzT H1 a xs) ∧ t σ H1 fun xs H2 => r x xs H2 Q
variable {o e : Expr} {es : List Expr} {to : TE} {t : TA} {name : Str} {apos cpos : Pos} {id : String} {r : V → List V → Hp → VK → Prop}
theorem pe_bmZ (pa : PlainAttrs "tuple") (slot : Slot "tuple" name id) (hty : typeOf (.builtin id) = pure (.type "method_descriptor")) (hm : MtR X id r) (ho : PE X o to) (ha : PA X (e :: es) t)
    (hbase : attributeBase o name X.env (eval o X.env) = eval o X.env := by rfl)
    (hfew : ((backTo cpos (starEach (e :: es) X.env)).all (fun x => !x.1) && (backToKw cpos (keywordEach [] X.env)).all (fun x => x.1.isSome)
      && decide ((e :: es).length + ([] : List Keyword).length + (if ([] : List Keyword).isEmpty then 0 else 1) < 30)) = true := by rfl)
    (hline : (apos.endLine == cpos.line) = true := by rfl) (hs : starEach (e :: es) X.env = (false, eval e X.env) :: starEach es X.env := by rfl) (hplain : (backTo cpos (starEach es X.env)).any (·.1) = false := by rfl) :
    PE X (.Call (.Attribute o name apos) (e :: es) [] cpos) (tBMZ r to t) := by
  refine ⟨fun pins s σ H Q I h => ?_⟩
  refine wpAny_Call_method_late hbase hfew hline rfl (thn (ho.run pins s σ H _ I h) fun v s1 ⟨x, H1, I1, r1, ty, q1⟩ => ?_)
  obtain ⟨a, xs, rfl, ob, hob, hd⟩ := ty
  cases r1
  obtain ⟨e1, _, its, _, ⟨o2, e2, c2, _⟩⟩ := I1.hok a _ hob
  rw [e1] at e2
  cases e2
  refine ⟨"tuple", id, pa, slot, hty, ⟨_, e1, c2⟩, fun b eb => by cases eb; exact ⟨_, e1, hd⟩, ?_⟩
  have hA := ha.run cpos pins s1 σ H1 _ I1 q1
  rw [hs] at hA ⊢
  refine Calls.callWith_builtin (by show (false || (backTo cpos (starEach es X.env)).any (·.1)) = false; rw [hplain] <;> rfl) (Calls.evalArgs_plain ?_)
  exact thn hA fun us s2 ⟨vs, H2, I2, r2, q2⟩ => hm pins s2 σ H2 (.ref a) vs _ us Q I2 rfl r2 q2
end
/-! ### values and lists of values in a relation -/
inductive All2 {α : Type} (R : V → α → Prop) : List V → List α → Prop
  | nil : All2 R [] []
  | cons {v : V} {x : α} {vs : List V} {xs : List α} : R v x → All2 R vs xs → All2 R (v :: vs) (x :: xs)
section
variable {α : Type} {R S : V → α → Prop}
theorem All2.imp (i : ∀ v x, R v x → S v x) : ∀ {vs : List V} {xs : List α}, All2 R vs xs → All2 S vs xs
  | _, _, .nil => .nil
  | _, _, .cons h t => .cons (i _ _ h) (All2.imp i t)
theorem All2.length : ∀ {vs : List V} {xs : List α}, All2 R vs xs → vs.length = xs.length
  | _, _, .nil => rfl
  | _, _, .cons _ t => by rw [List.length_cons, List.length_cons, t.length]
theorem All2.append : ∀ {vs ws : List V} {xs ys : List α}, All2 R vs xs → All2 R ws ys → All2 R (vs ++ ws) (xs ++ ys)
  | _, _, _, _, .nil, h => h
  | _, _, _, _, .cons a t, h => .cons a (All2.append t h)
theorem All2.get : ∀ {vs : List V} {xs : List α} {i : Nat} {v : V}, All2 R vs xs → vs[i]? = some v → ∃ x, xs[i]? = some x ∧ R v x
  | _, _, _, _, .nil, e => by simp at e
  | _, _, 0, _, .cons r _, e => by simp at e; subst e; exact ⟨_, rfl, r⟩
  | _, _, i + 1, _, .cons _ t, e => by
    obtain ⟨u, h1, h2⟩ := All2.get (i := i) t (by simpa using e)
    exact ⟨u, by simpa using h1, h2⟩
theorem All2.at : ∀ {vs : List V} {xs : List α} {i : Nat} {x : α}, All2 R vs xs → xs[i]? = some x → ∃ v, vs[i]? = some v ∧ R v x
  | _, _, _, _, .nil, e => by simp at e
  | _, _, 0, _, .cons r _, e => by simp at e; subst e; exact ⟨_, rfl, r⟩
  | _, _, i + 1, _, .cons _ t, e => by
    obtain ⟨u, h1, h2⟩ := All2.at (i := i) t (by simpa using e)
    exact ⟨u, by simpa using h1, h2⟩
end
theorem All2.dp {α : Type} {R : V → α → Prop} {K : PySem.W.Frag} {G : Hp} {f : α → PyData} (i : ∀ v x, R v x → Dp K G v (f x)) : ∀ {vs : List V} {xs : List α}, All2 R vs xs → DpAll K G vs (xs.map f)
  | _, _, .nil => .nil
  | _, _, .cons h t => .cons (i _ _ h) (All2.dp i t)
def MonoR {α : Type} (R : Hp → V → α → Prop) : Prop := ∀ G G' v x, Same G G' → R G v x → R G' v x
structure GrowR {α : Type} (R : Hp → V → α → Prop) (G H : Hp) (p : Addr) (xs : List α) (Gi Hc : Hp) : Prop where
  n : Nx G H Gi Hc
  g : Gi p = none
  ex : ∃ acc, Hc p = some (.lst acc) ∧ All2 (R Gi) acc xs
section
variable {α : Type} {R : Hp → V → α → Prop} {K : PySem.W.Frag} {σ : L2.St} {G H Gi Hc G2 H2 : Hp} {p : Addr} {xs ys : List α} {x : α} {i : Nat} {te tl : TE} {D : Ends}
theorem GrowR.start (s : Same G H) (hp : H p = none) : GrowR R G H p [] G (upd H p (.lst [])) := ⟨Nx.lay s hp, s.free hp, [], upd_same, .nil⟩
theorem GrowR.step (m : MonoR R) (h : GrowR R G H p xs Gi Hc) (n : Nx Gi Hc G2 H2) : GrowR R G H p xs G2 H2 := by
  obtain ⟨acc, e, ha⟩ := h.ex
  exact ⟨h.n.trans n, (n.fr p (ne_none e)).trans h.g, acc, n.hh _ _ e, ha.imp fun v x r => m _ _ v x n.gg r⟩
theorem GrowR.ext (h : GrowR R G H p xs Gi Hc) (hp : H p = none) {zs : List V} (hd : All2 (R Gi) zs ys) {acc : List V} (e : Hc p = some (.lst acc)) : GrowR R G H p (xs ++ ys) Gi (upd Hc p (.lst (acc ++ zs))) := by
  obtain ⟨acc', e', ha⟩ := h.ex
  rw [e] at e'
  cases e'
  refine ⟨⟨h.n.gg, fun b u q => ?_, fun b u q => ?_, h.n.fr⟩, h.g, acc ++ zs, upd_same, ha.append hd⟩
  · rw [upd_ne (ne_of_none q h.g)]; exact h.n.gh b u q
  · rw [upd_ne (ne_of_none q hp)]; exact h.n.hh b u q
theorem GrowR.len (h : GrowR R G H p xs Gi Hc) {acc : List V} (e : Hc p = some (.lst acc)) : acc.length = xs.length := by
  obtain ⟨acc', e', ha⟩ := h.ex
  rw [e] at e'
  cases e'
  exact ha.length
theorem GrowR.done (m : MonoR R) (h : GrowR R G H p xs Gi Hc) (hp : H p = none) : ∃ acc Gd, Nx G H Gd Hc ∧ Same Gi Gd ∧ Gd p = some (.lst acc) ∧ All2 (R Gd) acc xs := by
  obtain ⟨acc, e, ha⟩ := h.ex
  obtain ⟨n, gi⟩ := h.n.tell hp h.g e
  exact ⟨acc, _, n, gi, upd_same, ha.imp fun v x r => m _ _ v x gi r⟩
/-- a value in the relation; a list of such; a new one -/
def EvXR (R : Hp → V → α → Prop) (te : TE) (σ : L2.St) (G : Hp) (x : α) : Prop := ∀ H, Same G H → ∀ Q : VK, (∀ v G' H', Nx G H G' H' → R G' v x → Q v H') → te σ H Q
def EvLR (K : PySem.W.Frag) (R : Hp → V → α → Prop) (te : TE) (σ : L2.St) (G : Hp) (xs : List α) : Prop := ∀ H, Same G H → ∀ Q : VK, (∀ a vs G' H', Nx G H G' H' → SqL K G' a vs → All2 (R G') vs xs → Q (.ref a) H') → te σ H Q
def EvNR (R : Hp → V → α → Prop) (te : TE) (σ : L2.St) (G : Hp) (xs : List α) : Prop := ∀ H, Same G H → ∀ Q : VK, (∀ p vs G' H', Nx G H G' H' → H p = none → G' p = none → H' p = some (.lst vs) → All2 (R G') vs xs → Q (.ref p) H') → te σ H Q
theorem el_var {a : Addr} {vs : List V} (h : σ[i]? = some (some (.ref a))) (hs : SqL K G a vs) (ha : All2 (R G) vs xs) : EvLR K R (tVar i) σ G xs := fun H s Q q => ⟨_, h, q a vs G H (Nx.refl s) hs ha⟩
theorem el_nil (hz : 0 ≤ sizeLine) : EvLR K R (tLst tNil) σ G [] := fun H s Q q => ⟨hz, fun p hp => by
  have n := Nx.new (o := .lst []) s hp
  exact q p [] _ _ n (SqL.of upd_same) .nil⟩
theorem el_if {tt : TT} {ta tb : TE} {b : Bool} (h : EvB K tt σ G b) (h1 : b = true → ∀ G1, Same G G1 → EvLR K R ta σ G1 xs) (h2 : b = false → ∀ G1, Same G G1 → EvLR K R tb σ G1 xs) : EvLR K R (tIf tt ta tb) σ G xs := fun H s Q q => h H s _ fun G1 H1 n1 => by
  cases b with
  | true => exact (show ta σ H1 Q from h1 rfl G1 n1.gg H1 n1.gh Q fun a vs G2 H2 n2 hs ha => q a vs G2 H2 (n1.trans n2) hs ha)
  | false => exact (show tb σ H1 Q from h2 rfl G1 n1.gg H1 n1.gh Q fun a vs G2 H2 n2 hs ha => q a vs G2 H2 (n1.trans n2) hs ha)
theorem for_LR {g : TG} {tb : TS} (m : MonoR R) (h : EvLR K R tl σ G xs) (s : Same G H)
    (k : ∀ G1 H1, Nx G H G1 H1 → ∃ Pv : Nat → L2.St → Hp → Hp → Prop, Pv 0 σ G1 H1 ∧ LpOk G1 H1 Pv ∧
      (∀ j x v σ Gi Hc, xs[j]? = some x → R Gi v x → Pv j σ Gi Hc → g v σ Hc fun σ2 H2 => tb { D with nx := fun σ' H' => ∃ G', Pv (j + 1) σ' G' H', ct := fun σ' H' => ∃ G', Pv (j + 1) σ' G' H', bk := D.nx } σ2 H2) ∧ ∀ σ Gi Hc, Pv xs.length σ Gi Hc → D.nx σ Hc) : tFor (iList K tl) g tb D σ H :=
  h H s _ fun a vs G1 H1 n1 hs ha => by
    obtain ⟨Pv, p0, ok, step, fin⟩ := k G1 H1 n1
    have lx := ha.length
    refine ⟨a, rfl, ⟨vs, n1.gh.seq hs⟩, for_list (xs := vs) (fun j σ Hc => ∃ Gi, Pv j σ Gi Hc) ⟨G1, p0⟩ (fun j σ Hc _ ⟨Gi, p⟩ => ((ok.gg p).trans (ok.gh p)).seq hs) (fun j v σ Hc hj ⟨Gi, p⟩ => ?_) fun σ Hc ⟨Gi, p⟩ => ?_⟩
    · obtain ⟨x, hx, hr⟩ := ha.get hj
      exact step j x v σ Gi Hc hx (m _ _ _ _ (ok.gg p) hr) p
    · rw [lx] at p
      exact fin σ Gi Hc p
/-- [.. for i in range(m) if ..] -/
theorem nr_lcR {tt : TT} {vs : List Nat} {m : Int} (mo : MonoR R) (f : Nat → Option α) (h : EvD K tl σ G (.int m)) (hw : ∀ v, wipe ((wipe σ vs).set i (some v)) vs = wipe σ vs) (hm0 : -(2 ^ 62) ≤ m) (hz : m.toNat ≤ sizeLine)
    (ht : ∀ k Gi, k < m.toNat → Same G Gi → EvB K tt ((wipe σ vs).set i (some (.int k))) Gi (f k).isSome)
    (he : ∀ k e Gi, k < m.toNat → f k = some e → Same G Gi → EvXR R te ((wipe σ vs).set i (some (.int k))) Gi e) : EvNR R (tLc (iRng1 (tCons tl tNil)) (gName i) tt te vs) σ G ((List.range m.toNat).filterMap f) := fun H s Q q =>
  h H s _ fun v G1 H1 n1 hv => by
    rw [dp_int hv]
    refine ⟨m, rfl, hm0, ?_, fun D hD => ?_⟩
    · have : sizeLine ≤ 2 ^ 61 := by decide
      omega
    refine lc_range (lo := 0) (n := m.toNat) (fun k Hc => ∃ Gi acc, Nx G1 H1 Gi Hc ∧ Gi D = none ∧ Hc D = some (.lst acc) ∧ All2 (R Gi) acc ((List.range k).filterMap f)) ⟨G1, [], Nx.lay n1.gh hD, n1.gh.free hD, upd_same, .nil⟩ (fun k Hc hk p => ?_) fun Hc p => ?_
    · have e0 : (0 : Int) + (k : Int) = (k : Int) := by omega
      rw [e0]
      refine ⟨hw _, ?_⟩
      obtain ⟨Gi, acc, n, gD, eD, ha⟩ := p
      refine ht k Gi hk (n1.gg.trans n.gg) Hc n.gh _ fun G2 H2 n2 => ?_
      have g2 : G2 D = none := (n2.fr D (ne_none eD)).trans gD
      have e2 := n2.hh _ _ eD
      have ha2 := ha.imp fun v x r => mo _ _ v x n2.gg r
      cases hf : f k with
      | none =>
        refine iteF ?_
        exact ⟨G2, acc, n.trans n2, g2, e2, by rw [List.range_succ, List.filterMap_append, List.filterMap_cons, hf]; simpa using ha2⟩
      | some e =>
        refine iteT ?_
        refine he k e G2 hk hf (n1.gg.trans (n.gg.trans n2.gg)) H2 n2.gh _ fun y G3 H3 n3 hy => ?_
        have g3 : G3 D = none := (n3.fr D (ne_none e2)).trans g2
        have e3 := n3.hh _ _ e2
        have ha3 := ha2.imp fun v x r => mo _ _ v x n3.gg r
        have nn := n.trans (n2.trans n3)
        refine ⟨acc, e3, ?_, G3, acc ++ [y], ⟨nn.gg, fun b u q => ?_, fun b u q => ?_, nn.fr⟩, g3, upd_same, ?_⟩
        · rw [ha.length]
          refine Nat.lt_of_le_of_lt (List.length_filterMap_le _ _) ?_
          rw [List.length_range]; omega
        · rw [upd_ne (ne_of_none q g3)]; exact nn.gh b u q
        · rw [upd_ne (ne_of_none q hD)]; exact nn.hh b u q
        · rw [List.range_succ, List.filterMap_append, List.filterMap_cons, hf]
          exact ha3.append (.cons hy .nil)
    · obtain ⟨Gi, acc, n, gD, eD, ha⟩ := p
      exact q D acc Gi Hc (n1.trans n) (n1.hh.free hD) gD eD ha
theorem ext_augR (mo : MonoR R) (hσ : σ[i]? = some (some (.ref p))) (gr : GrowR R G H p xs Gi Hc) (hp : H p = none) (h : EvNR R te σ Gi ys) (hz : xs.length + ys.length ≤ sizeLine) (k : ∀ G2 H2, GrowR R G H p (xs ++ ys) G2 H2 → Same Gi G2 → D.nx (σ.set i (some (.ref p))) H2) : tAug i te rExt2 D σ Hc := by
  obtain ⟨acc, e, _⟩ := id gr.ex
  refine ⟨_, hσ, h Hc gr.n.gh _ fun b ws G2 H2 n2 hb gb eb hw => ⟨p, b, acc, ws, rfl, rfl, n2.hh _ _ e, eb, by rw [gr.len e, hw.length]; exact hz, ?_⟩⟩
  exact k G2 _ ((gr.step mo n2).ext hp hw (n2.hh _ _ e)) n2.gg
theorem app_dataR (mo : MonoR R) (hσ : σ[i]? = some (some (.ref p))) (gr : GrowR R G H p xs Gi Hc) (hp : H p = none) (h : EvXR R te σ Gi x) (hz : xs.length < sizeLine) (k : ∀ G2 H2, GrowR R G H p (xs ++ [x]) G2 H2 → Same Gi G2 → D.nx σ H2) : tDrop (tBM K "list" rAppend (tVar i) (tCons te tNil)) D σ Hc := by
  obtain ⟨acc, e, _⟩ := id gr.ex
  refine ⟨_, hσ, .inl ⟨rfl, _, SqL.of e⟩, h _ gr.n.gh _ fun v G2 H2 n2 hd => ⟨p, acc, v, rfl, rfl, n2.hh _ _ e, by rw [gr.len e]; exact hz, ?_⟩⟩
  exact k G2 _ ((gr.step mo n2).ext hp (.cons hd .nil) (n2.hh _ _ e)) n2.gg
end
end Gw
namespace Gw
open PySem PySem.Spec PyProof.Rows L2 LamX
/-! ### lists of permutations, as the law makes them -/
def FzV (G : Hp) (v : V) (l : List Int) : Prop := ∃ a, v = .ref a ∧ FzT G a (l.map V.int)
def RLn (K : PySem.W.Frag) (j : Nat) : Hp → V → List Int → Prop := fun G v l => Dp K G v (wD l) ∧ (2 ≤ j → FzV G v l)
def RC (K : PySem.W.Frag) : Hp → V → List (List Int) → Prop := fun G v c => ∃ a vs, v = .ref a ∧ SqT K G a vs ∧ All2 (RLn K 2 G) vs c
theorem rl_mono {K : PySem.W.Frag} {j : Nat} : MonoR (RLn K j) := fun G G' v l s h => ⟨dp_mono s _ h.1, fun z => by
  obtain ⟨a, e, f⟩ := h.2 z
  exact ⟨a, e, f.mono s⟩⟩
theorem rc_mono {K : PySem.W.Frag} : MonoR (RC K) := fun G G' v c s ⟨a, vs, e, h1, h2⟩ => ⟨a, vs, e, same_tup s h1, h2.imp fun v x r => rl_mono _ _ v x s r⟩
theorem rc_dp {K : PySem.W.Frag} {G : Hp} {v : V} {c : List (List Int)} (h : RC K G v c) : Dp K G v (movD c) := by
  obtain ⟨a, vs, rfl, h1, h2⟩ := h
  exact .tup h1 (h2.dp fun v x r => r.1)
section
variable {K : PySem.W.Frag} {σ : L2.St} {G H : Hp} {te ta tb : TE} {i k : Nat} {v : V} {l : List Int} {c : List (List Int)} {p : Int}
theorem xc_snoc (hσ : σ[i]? = some (some v)) (hv : RC K G v c) (hz : c.length + 1 ≤ sizeLine) (he : EvXR (RLn K 2) te σ G l) : EvXR (RC K) (tOp (rCatA K) (tVar i) (tTup (tCons te tNil))) σ G (c ++ [l]) := fun H s Q q => by
  obtain ⟨a, vs, rfl, hs, ha⟩ := hv
  have lv := ha.length
  refine ⟨_, hσ, he H s _ fun y G1 H1 n1 hy => ⟨by show 1 ≤ sizeLine; omega, fun p hp => ?_⟩⟩
  have n2 := Nx.new (o := .tup [y]) n1.gh hp
  have n12 := n1.trans n2
  refine ⟨a, p, vs, [y], rfl, rfl, same_tup n12.hh (same_tup s hs), SqT.of upd_same, by show vs.length + 1 ≤ sizeLine; omega, fun e => ?_, (fun _ e => nomatch e), fun h1 _ p3 hp3 => ?_⟩
  · subst e
    cases ha
    exact q _ _ _ n12 ⟨p, [y], rfl, SqT.of upd_same, .cons (rl_mono _ _ _ _ n2.gg hy) .nil⟩
  · have n3 := Nx.new (o := .tup (vs ++ [y])) n2.gh hp3
    exact q _ _ _ (n12.trans n3) ⟨p3, vs ++ [y], rfl, SqT.of upd_same, (ha.imp fun v x r => rl_mono _ _ v x (n12.gg.trans n3.gg) r).append (.cons (rl_mono _ _ _ _ (n2.gg.trans n3.gg) hy) .nil)⟩
theorem xl_snoc {j : Nat} (hσ : σ[i]? = some (some v)) (hp : σ[k]? = some (some (.int p))) (hv : RLn K j G v l) (hl : l.length = j) (hj : j ≤ 3) : EvXR (RLn K (j + 1)) (tOp (rCatX K) (tVar i) (tTup (tCons (tVar k) tNil))) σ G (l ++ [p]) := fun H s Q q => by
  have big : 100000 ≤ sizeLine := by decide
  obtain ⟨a, rfl, hs⟩ := dp_ints_t hv.1
  refine ⟨_, hσ, _, hp, by show 1 ≤ sizeLine; omega, fun b hb => ?_⟩
  have n2 := Nx.new (o := .tup [V.int p]) s hb
  have hs2 := same_tup n2.hh (same_tup s hs)
  cases l with
  | nil =>
    refine .inl ⟨a, b, _, _, rfl, rfl, hs2, SqT.of upd_same, by show 0 + 1 ≤ sizeLine; omega, fun _ => ?_, fun z => absurd rfl z, fun z => absurd rfl z⟩
    exact q _ _ _ n2 ⟨.tup (SqT.of upd_same) (dpa_ints [p]), fun z => by have : j = 0 := hl.symm; omega⟩
  | cons x l =>
    refine .inr ⟨a, b, _, _, rfl, rfl, hs2, SqT.of upd_same, ?_, fun z => (nomatch z), fun z => (nomatch z), fun d o hd ho => ?_⟩
    · rw [List.length_map, hl]; show j + 1 ≤ sizeLine; omega
    have n3 := Nx.new (o := .frz o (.tup ((x :: l).map V.int ++ [V.int p]))) n2.gh hd
    have f : FzT (upd (upd G b (.tup [V.int p])) d (.frz o (.tup ((x :: l).map V.int ++ [V.int p])))) d (((x :: l) ++ [p]).map V.int) := ⟨o, by rw [List.map_append]; exact upd_same, ho⟩
    exact q _ _ _ (n2.trans n3) ⟨.tup f.sq (dpa_ints _), fun _ => ⟨d, rfl, f⟩⟩
theorem ro_notI : ROp K (rIn K true) (.int p) (wD l) (.bool (!l.any fun y => y == p)) := fun G H s vx vy dx dy Q q => by
  obtain ⟨a, rfl, hs⟩ := dp_ints_t dy
  rw [dp_int dx]
  refine ⟨a, l.map V.int, rfl, .inr (same_tup s hs), rfl, flat_intsV l, ?_⟩
  have e : (if true = true then !inV (V.int p) (l.map V.int) else inV (V.int p) (l.map V.int)) = !l.any fun y => y == p := by
    rw [if_pos rfl]
    unfold inV
    rw [List.any_map]
    rfl
  rw [e]
  exact q _ G H (Nx.refl s) (.bl _)
/-- chosen[other] -/
theorem xl_at {x : Int} (hσ : σ[i]? = some (some v)) (hv : RC K G v c) (hk : σ[k]? = some (some (.int x))) (hx : 0 ≤ x ∧ x < (c.length : Int)) : EvXR (RLn K 2) (tOp (rIxT K) (tVar i) (tVar k)) σ G (c.getD x.toNat []) := fun H s Q q => by
  obtain ⟨a, vs, rfl, hs, ha⟩ := hv
  have hl : x.toNat < c.length := by omega
  have e : c[x.toNat]? = some (c.getD x.toNat []) := by rw [List.getD_eq_getElem?_getD, List.getElem?_eq_getElem hl]; rfl
  obtain ⟨u, h1, h2⟩ := ha.at e
  exact ⟨_, hσ, _, hk, a, vs, x, u, rfl, rfl, same_tup s hs, by rw [show x = ((x.toNat : Nat) : Int) by omega]; exact atI_nat h1, q u G H (Nx.refl s) h2⟩
/-- t.index(number) -/
theorem ed_tix {j : Nat} {ys : List Int} (h : EvXR (RLn K 2) ta σ G ys) (hp : σ[k]? = some (some (.int p))) (hj : ys[j]? = some p) (first : ∀ m, m < j → ys[m]? ≠ some p) : EvD K (tBMZ (rTix K) ta (tCons (tVar k) tNil)) σ G (.int (j : Int)) := fun H s Q q =>
  h H s _ fun v G1 H1 n1 hv => by
    obtain ⟨a, rfl, f⟩ := hv.2 (Nat.le_refl _)
    exact ⟨⟨a, _, rfl, f.mono n1.gh⟩, _, hp, a, ys, p, j, rfl, rfl, (f.mono n1.gh).sq, hj, first, q _ G1 H1 n1 (.int _)⟩
/-- tuple of a new list, known to the letter -/
theorem xl_tuple (h : EvN K te σ G (l.map .int)) : EvXR (RLn K 2) (tCB (rTupX K) (tCons te tNil)) σ G l := fun H s Q q =>
  h H s _ fun b vs G1 H1 n1 hb gb e ha => by
    have ev := dpa_ints_inv ha
    subst ev
    refine .inr ⟨b, _, rfl, SqL.of e, fun d o hd ho => ?_⟩
    have n3 := Nx.new (o := .frz o (.tup (l.map V.int))) n1.gh hd
    have f : FzT (upd G1 d (.frz o (.tup (l.map V.int)))) d (l.map V.int) := ⟨o, upd_same, ho⟩
    exact q _ _ _ (n1.trans n3) ⟨.tup f.sq (dpa_ints _), fun _ => ⟨d, rfl, f⟩⟩
end
/-! what the loops make -/
theorem idx_ok : ∀ l ∈ perms3, ∀ p : Fin 3, l[idxM l (p.val : Int)]? = some (p.val : Int) ∧ ∀ m, m < idxM l (p.val : Int) → l[m]? ≠ some (p.val : Int) := by
  have h : ∀ l ∈ perms3, ∀ p : Fin 3, l[idxM l (p.val : Int)]? = some (p.val : Int) ∧ ∀ m : Fin 3, m.val < idxM l (p.val : Int) → l[m.val]? ≠ some (p.val : Int) := by decide +kernel
  have h3 : ∀ l ∈ perms3, ∀ p : Fin 3, idxM l (p.val : Int) < 3 := by decide +kernel
  intro l hl p
  obtain ⟨h1, h2⟩ := h l hl p
  exact ⟨h1, fun m hm => h2 ⟨m, Nat.lt_trans hm (h3 l hl p)⟩ hm⟩
theorem every_len : ∀ (j : Nat) (l : List Int), l ∈ everyM j → l.length = j
  | 0, l, h => by rw [List.mem_singleton.mp h]; rfl
  | j + 1, l, h => by
    obtain ⟨m, hm, h⟩ := List.mem_flatMap.mp h
    have lm := every_len j m hm
    unfold extM at h
    obtain ⟨k, _, e⟩ := List.mem_filterMap.mp h
    split at e
    · cases e
    · cases e
      rw [List.length_append, lm]; rfl
theorem every_many : ∀ j : Nat, j ≤ 3 → (everyM j).length ≤ 6 := by decide +kernel
theorem ext_many (l : List Int) : (extM l).length ≤ 3 := Nat.le_trans (List.length_filterMap_le _ _) (by rw [List.length_range]; exact Nat.le_refl 3)
theorem xr_var {K : PySem.W.Frag} {σ : L2.St} {G : Hp} {i j : Nat} {v : V} {l : List Int} (hσ : σ[i]? = some (some v)) (hv : RLn K j G v l) : EvXR (RLn K j) (tVar i) σ G l := fun H s Q q => ⟨_, hσ, q v G H (Nx.refl s) hv⟩
theorem first_len1 (x : Nat) (o : Int) (c : List (List Int)) : (firstM x o c).length ≤ 1 := by 
  unfold firstM
  split
  · exact Nat.le_refl 1
  · exact Nat.zero_le 1
theorem rest_len (x : Nat) (o : Int) (c : List (List Int)) (ls : List (List Int)) : (restM x o c ls).length ≤ ls.length := by unfold restM; rw [List.length_map]; exact List.length_filter_le _ _
theorem lines_mem {x : Nat} {o : Int} {l : List Int} (h : l ∈ linesM x o) : l ∈ perms3 := by
  unfold linesM at h
  split at h
  · exact h
  · cases h
theorem lines_len (x : Nat) (o : Int) : (linesM x o).length ≤ 6 := by unfold linesM; split <;> decide
theorem rest_snoc {x : Nat} {o : Int} {c : List (List Int)} {ls : List (List Int)} {m : Nat} {l : List Int} (h : ls[m]? = some l) : restM x o c (ls.take (m + 1)) = restM x o c (ls.take m) ++ if (decide ((x : Int) < o) || invoM l) = true then [c ++ [l]] else [] := by
  unfold restM
  rw [take_snoc h, List.filter_append, List.map_append, List.filter_cons]
  cases decide ((x : Int) < o) || invoM l <;> rfl
def R_law_small_moves : List PyData → PyData → Prop := fun ds d => ∃ bs : List Int, ds = [wD bs, .int 3] ∧ IsBk bs ∧ bs.length ≤ 6 ∧ d = .list ((movesM bs bs.length).map movD)
section
variable {P : Program} {w : World} {K : PySem.W.Frag} {mg : Str → Option Value} {base : Heap} {f : Addr} {fd : FuncData}
theorem ok_law_small_moves (D : DefAt K mg "_law_small_moves" s_law_small_moves P_law_small_moves f fd) (T : Bt mg) : Ok P w K mg base "_law_small_moves" P_law_small_moves 1 (SpD K R_law_small_moves) := by
  refine D.ok (okD D.F sc_law_small_moves (fun ds d h => ?_) fun cdv A outer s H hr => ?_)
  · obtain ⟨bs, rfl, _⟩ := h; rfl
  have S := sc_law_small_moves
  refine ⟨_, (pss_cons (ps_set (i := 2) S.nd rfl (by first | exact .inl rfl | exact .inr rfl) (pe_lst (pa_cons (pe_tup pa_nil) pa_nil)))
  (pss_cons (ps_for PassesOwn.never rfl (pi_range1 (by rfl) T.range (pa_cons (pv 1) pa_nil)) (pg_name (i := 3) S.nd rfl (by first | exact .inl rfl | exact .inr rfl)) (pss_cons (ps_set (i := 4) S.nd rfl (by first | exact .inl rfl | exact .inr rfl) (pe_lst pa_nil))
  (pss_cons (ps_for PassesOwn.never rfl (q_iL K rfl (pv 2)) (pg_name (i := 5) S.nd rfl (by first | exact .inl rfl | exact .inr rfl)) (pss_one (ps_aug (i := 4) S.nd rfl (by first | exact .inl rfl | exact .inr rfl) (pe_lc (own := [("point", 6)]) (g := gName 6) (by rfl) S.nd  (pi_range1 (by rfl) T.range (pa_cons (pv 1) pa_nil)) (blkOk_by (N := N_law_small_moves) (sc := defScope s_law_small_moves) (by decide +kernel)) (fun _ _ _ _ _ => (pg_name (i := 6) S.nd rfl (by first | exact .inl rfl | exact .inr rfl))) (fun _ _ _ _ _ => (pts_one (pt_cmpR (q_notin K rfl) (pv 6) (pv 5) (by rfl)))) (fun _ _ _ _ _ => (pe_op (q_catX K rfl) (pv 5) (pe_tup (pa_cons (pv 6) pa_nil))))) iop_ext)))
  (pss_one (ps_set (i := 2) S.nd rfl (by first | exact .inl rfl | exact .inr rfl) (pv 4))))))
  (pss_cons (ps_set (i := 7) S.nd rfl (by first | exact .inl rfl | exact .inr rfl) (pe_lst (pa_cons (pe_tup pa_nil) pa_nil)))
  (pss_cons (ps_for PassesOwn.never rfl (q_iEnT K rfl (by rfl) T.enumerate (pa_cons (pv 0) pa_nil)) (q_gT K 2 rfl rfl (pgs_cons (pg_name (i := 8) S.nd rfl (by first | exact .inl rfl | exact .inr rfl)) (pgs_cons (pg_name (i := 9) S.nd rfl (by first | exact .inl rfl | exact .inr rfl)) pgs_nil))) (pss_cons (ps_set (i := 4) S.nd rfl (by first | exact .inl rfl | exact .inr rfl) (pe_lst pa_nil))
  (pss_cons (ps_for PassesOwn.never rfl (q_iL K rfl (pv 7)) (pg_name (i := 10) S.nd rfl (by first | exact .inl rfl | exact .inr rfl)) (pss_cons (ps_if (pt_cmpR op_lt (pv 9) (pv 8) (nomark _)) (pss_one (ps_expr (pe_bm PySem.F.plainAttrs_list PySem.F.slot_list_append PySem.F.type_list_append mt_append (pv 4) (pa_cons (pe_op (q_catT K rfl) (pv 10) (pe_tup (pa_cons (pe_callTy (q_tupX K rfl) (by rfl) T.tuple (by decide +kernel) (pa_cons (pe_lc (own := [("point", 6)]) (g := gName 6) (by rfl) S.nd  (pi_range1 (by rfl) T.range (pa_cons (pv 1) pa_nil)) (blkOk_by (N := N_law_small_moves) (sc := defScope s_law_small_moves) (by decide +kernel)) (fun _ _ _ _ _ => (pg_name (i := 6) S.nd rfl (by first | exact .inl rfl | exact .inr rfl))) (fun _ _ _ _ _ => pts_nil) (fun _ _ _ _ _ => (pe_bmZ PySem.F.plainAttrs_tuple PySem.F.slot_tuple_index PySem.F.type_tuple_index (q_tix K rfl) (pe_ix (q_ixT K rfl) (pv 10) (pv 9) (fun _ _ => rfl)) (pa_cons (pv 6) pa_nil)))) pa_nil)) pa_nil))) pa_nil)))) pss_nil)
  (pss_one (ps_for PassesOwn.never rfl (q_iL K rfl (pe_ifExp (pt_cmpR op_ge (pv 9) (pv 8) (nomark _)) (pv 2) (pe_lst pa_nil))) (pg_name (i := 5) S.nd rfl (by first | exact .inl rfl | exact .inr rfl)) (pss_one (ps_if (PW.pt (pw_or (pt_cmpR op_gt (pv 9) (pv 8) (nomark _)) (pw_or1 (pt_val (pe_callB (q_all K rfl rfl) (by rfl) T.all (by decide +kernel) (pa_cons (pe_lc (own := [("point", 6)]) (g := gName 6) (by rfl) S.nd  (pi_range1 (by rfl) T.range (pa_cons (pv 1) pa_nil)) (blkOk_by (N := N_law_small_moves) (sc := defScope s_law_small_moves) (by decide +kernel)) (fun _ _ _ _ _ => (pg_name (i := 6) S.nd rfl (by first | exact .inl rfl | exact .inr rfl))) (fun _ _ _ _ _ => pts_nil) (fun _ _ _ _ _ => (pe_cmpR (q_eqD K rfl hr.units) (pe_ix (q_ixT K rfl) (pv 5) (pe_ix (q_ixT K rfl) (pv 5) (pv 6) (fun _ _ => rfl)) (fun _ _ => rfl)) (pv 6) (nomark _)))) pa_nil)))))) (pss_one (ps_expr (pe_bm PySem.F.plainAttrs_list PySem.F.slot_list_append PySem.F.type_list_append mt_append (pv 4) (pa_cons (pe_op (q_catT K rfl) (pv 10) (pe_tup (pa_cons (pv 5) pa_nil))) pa_nil)))) pss_nil))))))
  (pss_one (ps_set (i := 7) S.nd rfl (by first | exact .inl rfl | exact .inr rfl) (pv 4))))))
  (pss_one (ps_ret (pv 7))))))), fun G ds d vs hR ha H0 hs D' q _ => ?_⟩
  obtain ⟨bs, rfl, B, b6, rfl⟩ := hR
  obtain _ | ⟨hb, _ | ⟨h3, _ | _⟩⟩ := ha
  rename_i va vb
  have big : 100000 ≤ sizeLine := by decide
  -- every = [()]
  refine ⟨by show 0 ≤ sizeLine; omega, fun p0 hp0 => ⟨by show 1 ≤ sizeLine; omega, fun p1 hp1 => ?_⟩⟩
  have n0 := Nx.new (o := .tup []) hs hp0
  have n1 := n0.trans (Nx.new (o := .lst [.ref p0]) n0.gh hp1)
  have a0 : All2 (RLn K 0 (upd (upd G p0 (.tup [])) p1 (.lst [.ref p0]))) [V.ref p0] (everyM 0) := .cons ⟨.tup (SqT.of ((upd_ne (ne_of_none upd_same (n0.gh.free hp1))).trans upd_same)) (dpa_ints []), fun z => absurd z (by decide)⟩ .nil
  have s1 : SqL K (upd (upd G p0 (.tup [])) p1 (.lst [.ref p0])) p1 [V.ref p0] := SqL.of upd_same
  generalize upd (upd G p0 (.tup [])) p1 (.lst [.ref p0]) = G1 at n1 a0 s1
  generalize upd (upd H0 p0 (.tup [])) p1 (.lst [.ref p0]) = H1 at n1
  -- the laps
  refine seq_forR (K := K) (G := G1) (n := 3) (fun j σ Hc => ∃ Gi, Nx G1 H1 Gi Hc ∧ ∃ a vs x3 x4 x5 x6, σ = [some va, some vb, some (.ref a), x3, x4, x5, x6, none, none, none, none] ∧ SqL K Gi a vs ∧ All2 (RLn K j Gi) vs (everyM j)) (ed_var (i := 1) rfl (dp_mono n1.gg _ h3)) n1.gh (by decide)
    (fun G2 H2 n2 => ⟨G2, n2, p1, _, _, _, _, _, rfl, n2.gg.seq s1, a0.imp fun v x r => rl_mono _ _ v x n2.gg r⟩) (fun j σ Hc hj hP => ?_) fun σ Hc hP => ?_
  · obtain ⟨Gi, n, a, us, x3, x4, x5, x6, rfl, hsq, hal⟩ := hP
    dsimp only [gName, List.set_cons_succ, List.set_cons_zero]
    refine ⟨Nat.zero_le _, fun pl hpl => ?_⟩
    dsimp only [gName, List.set_cons_succ, List.set_cons_zero]
    have gr0 := GrowR.start (R := RLn K (j + 1)) n.gh hpl
    refine for_LR (K := K) (G := Gi) (xs := everyM j) rl_mono (el_var (i := 2) rfl hsq hal) gr0.n.gh fun G2 H2 n2 => ⟨fun k σ Gk Hk => (GrowR (RLn K (j + 1)) Gi Hc pl (((everyM j).take k).flatMap extM) Gk Hk ∧ Same G2 Gk) ∧ ∃ x5 x6, σ = [some va, some vb, some (.ref a), some (.int ((0 : Int) + (j : Int))), some (.ref pl), x5, x6, none, none, none, none],
      ⟨⟨gr0.step rl_mono n2, Same.refl _⟩, _, _, rfl⟩, ⟨fun p => p.1.2, fun p => p.1.1.n.gh⟩, fun k l v σ Gk Hk hk hv hP => ?_, fun σ Gk Hk hP => ?_⟩
    · obtain ⟨⟨gr, s2⟩, x5, x6, rfl⟩ := hP
      dsimp only [gName, List.set_cons_succ, List.set_cons_zero]
      have hl := every_len j l (List.mem_of_getElem? hk)
      have many := fm_len extM 3 ext_many ((everyM j).take k)
      have many2 : ((everyM j).take k).length ≤ 6 := by rw [List.length_take]; have := every_many j (by omega); omega
      refine ext_augR (i := 4) (ys := extM l) rl_mono rfl gr hpl (nr_lcR (i := 6) (m := 3) rl_mono (fun (p : Nat) => if l.any (fun y => y == (p : Int)) then none else some (l ++ [(p : Int)])) (ed_var (i := 1) rfl (dp_mono (n1.gg.trans (n.gg.trans gr.n.gg)) _ h3)) (fun _ => rfl) (by decide) (by show 3 ≤ sizeLine; omega) (fun p Gp hp g => ?_) fun p e Gp hp he g => ?_) (by have := ext_many l; omega) fun G3 H3 g3 s3 => ⟨G3, ⟨?_, s2.trans s3⟩, _, _, rfl⟩
      · refine EvB.cast (eb_test (ed_op (ed_var (i := 6) rfl (.int _)) (ed_var (i := 5) rfl (dp_mono g _ hv.1)) ro_notI)) ?_
        cases l.any fun y => y == (p : Int) <;> rfl
      · try dsimp only at he
        split at he
        · cases he
        · cases he
          exact xl_snoc (i := 5) (k := 6) rfl rfl (rl_mono _ _ _ _ g hv) hl (by omega)
      · rw [take_snoc hk, List.flatMap_append, List.flatMap_cons, List.flatMap_nil, List.append_nil]
        exact g3
    · obtain ⟨⟨gr, s2⟩, x5, x6, rfl⟩ := hP
      rw [List.take_length] at gr
      obtain ⟨acc, Gd, nd, sd, e1, e2⟩ := gr.done rl_mono hpl
      exact ⟨_, rfl, Gd, n.trans nd, pl, acc, _, _, _, _, rfl, SqL.of e1, e2⟩
  obtain ⟨Gi, n, a, us, x3, x4, x5, x6, rfl, hsq, hal⟩ := hP
  have hal : All2 (RLn K 2 Gi) us perms3 := by
    rw [← every3]
    exact hal.imp fun v x r => ⟨r.1, fun _ => r.2 (by decide)⟩
  have n1i := n1.trans n
  have hbi := dp_mono n1i.gg _ hb
  have h3i := dp_mono n1i.gg _ h3
  -- found = [()]
  refine ⟨by show 0 ≤ sizeLine; omega, fun p2 hp2 => ⟨by show 1 ≤ sizeLine; omega, fun p3 hp3 => ?_⟩⟩
  dsimp only [gName, List.set_cons_succ, List.set_cons_zero]
  have n3 := Nx.new (o := .tup []) n.gh hp2
  have n4 := n3.trans (Nx.new (o := .lst [.ref p2]) n3.gh hp3)
  have c0 : All2 (RC K (upd (upd Gi p2 (.tup [])) p3 (.lst [.ref p2]))) [V.ref p2] (movesM bs 0) := .cons ⟨p2, [], rfl, SqT.of ((upd_ne (ne_of_none upd_same (n3.gh.free hp3))).trans upd_same), .nil⟩ .nil
  have s4 : SqL K (upd (upd Gi p2 (.tup [])) p3 (.lst [.ref p2])) p3 [V.ref p2] := SqL.of upd_same
  generalize upd (upd Gi p2 (.tup [])) p3 (.lst [.ref p2]) = G3 at n4 c0 s4
  generalize upd (upd Hc p2 (.tup [])) p3 (.lst [.ref p2]) = H3 at n4
  refine seq_forET (K := K) (G := G3) (ed_var (i := 0) rfl (dp_mono n4.gg _ hbi)) n4.gh fun G5 H5 n5 => ⟨fun j σ Gj Hj => Nx G5 H5 Gj Hj ∧ ∃ a7 us7 x4 x5 x6 x8 x9 x10, σ = [some va, some vb, some (.ref a), x3, x4, x5, x6, some (.ref a7), x8, x9, x10] ∧ SqL K Gj a7 us7 ∧ All2 (RC K Gj) us7 (movesM bs j),
    ⟨Nx.refl n5.gh, _, _, _, _, _, _, _, _, rfl, n5.gg.seq s4, c0.imp fun v x r => rc_mono _ _ v x n5.gg r⟩, lp_ok, fun j d v σ Gj Hj Tt hj hv hP hT => ?_, fun σ Gj Hj hP => ?_⟩
  · obtain ⟨nj, a7, us7, x4, x5, x6, x8, x9, x10, rfl, hq7, ha7⟩ := hP
    rw [List.getElem?_map] at hj
    obtain ⟨o, ho, rfl⟩ := Option.map_eq_some_iff.mp hj
    have hjl := (List.getElem?_eq_some_iff.mp ho).1
    have hv := dp_int hv
    subst hv
    have eo : bs.getD j 0 = o := by rw [List.getD_eq_getElem?_getD, ho]; rfl
    have o0 : 0 ≤ o := B.nn o (List.mem_of_getElem? ho)
    have nT := Nx.new (o := .tup [.int (j : Int), .int o]) nj.gh hT
    refine ⟨Tt, _, rfl, SqT.of upd_same, rfl, _, _, rfl, _, _, rfl, rfl, ?_⟩
    dsimp only [gName, List.set_cons_succ, List.set_cons_zero]
    refine ⟨Nat.zero_le _, fun pl hpl => ?_⟩
    dsimp only [gName, List.set_cons_succ, List.set_cons_zero]
    have njT := n4.trans (n5.trans (nj.trans nT))
    have all6 : (movesM bs j).length ≤ 7776 := by
      have h1 := moves_len bs j
      have h2 : 6 ^ j ≤ 6 ^ 5 := Nat.pow_le_pow_right (by decide) (by omega)
      omega
    have gr0 := GrowR.start (R := RC K) nT.gh hpl
    have hq7 := nT.gg.seq hq7
    have ha7 := ha7.imp fun v x r => rc_mono _ _ v x nT.gg r
    generalize upd Gj Tt (.tup [.int (j : Int), .int o]) = GT at nT njT gr0 hq7 ha7
    generalize upd Hj Tt (.tup [.int (j : Int), .int o]) = HT at nT njT gr0 hpl
    have sT := njT.gg
    refine for_LR (K := K) (G := GT) (xs := movesM bs j) rc_mono (el_var (i := 7) rfl hq7 ha7) gr0.n.gh fun G2 H2 n2 => ⟨fun k σ Gk Hk => (GrowR (RC K) GT HT pl (((movesM bs j).take k).flatMap (optsM j o)) Gk Hk ∧ Same G2 Gk) ∧ ∃ x5 x6 x10, σ = [some va, some vb, some (.ref a), x3, some (.ref pl), x5, x6, some (.ref a7), some (.int (j : Int)), some (.int o), x10],
      ⟨⟨gr0.step rc_mono n2, Same.refl _⟩, _, _, _, rfl⟩, ⟨fun p => p.1.2, fun p => p.1.1.n.gh⟩, fun k c v σ Gk Hk hk hv hP => ?_, fun σ Gk Hk hP => ?_⟩
    · obtain ⟨⟨gr, s2⟩, x5, x6, x10, rfl⟩ := hP
      dsimp only [gName, List.set_cons_succ, List.set_cons_zero]
      have M := moves_ok B.nn j (by omega) c (List.mem_of_getElem? hk)
      have lc := M.len
      have many := fm_len (optsM j o) 6 (opts_len _ _) ((movesM bs j).take k)
      have many2 : ((movesM bs j).take k).length ≤ 7776 := by rw [List.length_take]; omega
      have snoc : ((movesM bs j).take (k + 1)).flatMap (optsM j o) = ((movesM bs j).take k).flatMap (optsM j o) ++ firstM j o c ++ restM j o c (linesM j o) := by
        rw [take_snoc hk, List.flatMap_append, List.flatMap_cons, List.flatMap_nil, List.append_nil, List.append_assoc]
        rfl
      generalize ((movesM bs j).take k).flatMap (optsM j o) = acc at gr many snoc
      have f1 := first_len1 j o c
      have sk := sT.trans gr.n.gg
      refine seq_cut (fun σ' H' => ∃ Gx, (GrowR (RC K) GT HT pl (acc ++ firstM j o c) Gx H' ∧ Same Gk Gx) ∧ σ' = [some va, some vb, some (.ref a), x3, some (.ref pl), x5, x6, some (.ref a7), some (.int (j : Int)), some (.int o), some v]) ?_ fun fin => ?_
      · rintro σ' H' ⟨Gx, ⟨gx, sx⟩, rfl⟩
        have skx := sk.trans sx
        refine for_LR (K := K) (G := Gx) (R := RLn K 2) (xs := linesM j o) rl_mono (el_if (b := decide ((j : Int) ≤ o)) (EvB.cast (eb_test (ed_op (ed_var (i := 9) rfl (.int o)) (ed_var (i := 8) rfl (.int _)) ro_b)) (decide_eq_decide.mpr (by omega))) (fun hb Gy sy => ?_) fun hb Gy sy => ?_) gx.n.gh fun G6 H6 n6 =>
          ⟨fun m σ Gm Hm => (GrowR (RC K) GT HT pl (acc ++ firstM j o c ++ restM j o c ((linesM j o).take m)) Gm Hm ∧ Same G6 Gm) ∧ ∃ x5 x6, σ = [some va, some vb, some (.ref a), x3, some (.ref pl), x5, x6, some (.ref a7), some (.int (j : Int)), some (.int o), some v],
          ⟨⟨by rw [List.take_zero]; show GrowR (RC K) GT HT pl (acc ++ firstM j o c ++ []) G6 H6; rw [List.append_nil]; exact gx.step rc_mono n6, Same.refl _⟩, _, _, rfl⟩, ⟨fun p => p.1.2, fun p => p.1.1.n.gh⟩, fun m l vl σ Gm Hm hm hvl hP => ?_, fun σ Gm Hm hP => ?_⟩
        · have e : linesM j o = perms3 := if_pos (of_decide_eq_true hb)
          rw [e]
          have sy' := (n4.gg.trans (n5.gg.trans (nj.gg.trans (nT.gg.trans gr.n.gg)))).trans (sx.trans sy)
          exact el_var (i := 2) rfl (sy'.seq hsq) (hal.imp fun v x r => rl_mono _ _ v x sy' r)
        · have e : linesM j o = [] := if_neg (of_decide_eq_false hb)
          rw [e]
          exact el_nil (Nat.zero_le _)
        · obtain ⟨⟨gm, s6⟩, y5, y6, rfl⟩ := hP
          dsimp only [gName, List.set_cons_succ, List.set_cons_zero]
          have lp := lines_mem (List.mem_of_getElem? hm)
          obtain ⟨l3, lr⟩ := perm_ok l lp
          have sm := sx.trans (n6.gg.trans s6)
          have inr : ∀ p : Int, 0 ≤ p ∧ p < 3 → 0 ≤ l.getD p.toNat 0 ∧ l.getD p.toNat 0 < (l.length : Int) := fun p hp => by
            rw [List.getD_eq_getElem?_getD, List.getElem?_eq_getElem (by omega)]
            have := lr _ (List.getElem_mem (by omega : p.toNat < l.length))
            show 0 ≤ l[p.toNat] ∧ l[p.toNat] < (l.length : Int)
            omega
          have rl := rest_len j o c ((linesM j o).take m)
          have ll := lines_len j o
          have lt : ((linesM j o).take m).length ≤ 6 := by rw [List.length_take]; omega
          refine if_B (K := K) (G := Gm) (b := decide ((j : Int) < o) || invoM l) (eb_or (EvB.cast (eb_test (ed_op (ed_var (i := 9) rfl (.int o)) (ed_var (i := 8) rfl (.int _)) ro_b)) (decide_eq_decide.mpr (by omega))) fun _ => eb_B (ed_cb (ea_cons (EvN.toD (en_lcR1 (i := 6) (m := 3) (fun p => .bool (decide (l.getD (l.getD p 0).toNat 0 = (p : Int)))) (ed_var (i := 1) rfl (dp_mono (n4.gg.trans (n5.gg.trans (nj.gg.trans (nT.gg.trans (gr.n.gg.trans sm))))) _ h3i)) (fun _ => rfl) (by decide) (by show 3 ≤ sizeLine; omega) fun p Gp hp g => ?_)) ea_nil) ?_)) gm.n.gh (fun hb Ga Ha na => ?_) fun hb Ga Ha na => ?_
          · have hp : p < 3 := hp
            have hvp := dp_mono g _ hvl.1
            have hq : 0 ≤ (p : Int) ∧ (p : Int) < (l.length : Int) := by omega
            have h1 := inr (p : Int) (by omega)
            rw [Int.toNat_natCast] at h1
            have e1 : EvD K (tOp (rIxT K) (tVar 5) (tVar 6)) [some va, some vb, some (.ref a), x3, some (.ref pl), some vl, some (.int (p : Int)), some (.ref a7), some (.int (j : Int)), some (.int o), some v] Gp (.int (l.getD p 0)) := EvD.cast (ix_ints (ed_var (i := 5) rfl hvp) (ed_var (i := 6) rfl (.int _)) hq) (by rw [Int.toNat_natCast])
            exact EvD.cast (ed_op (ix_ints (ed_var (i := 5) rfl hvp) e1 h1) (ed_var (i := 6) rfl (.int _)) (ro_eqD (shaped_int _) (shaped_int _))) (by rw [show PyData.eqv (.int (l.getD (l.getD p 0).toNat 0)) (.int (p : Int)) = decide (l.getD (l.getD p 0).toNat 0 = (p : Int)) by simp [PyData.eqv]; rfl])
          · have h := rcl_all (K := K) (bs := (List.range 3).map fun (p : Nat) => decide (l.getD (l.getD p 0).toNat 0 = (p : Int)))
            rw [List.map_map] at h
            exact h
          · refine app_dataR (i := 4) rc_mono rfl (gm.step rc_mono na) hpl (xc_snoc (i := 10) rfl (rc_mono _ _ _ _ (sm.trans na.gg) hv) (by omega) (xr_var (i := 5) rfl (rl_mono _ _ _ _ na.gg hvl))) (by rw [List.length_append, List.length_append]; omega) fun G7 H7 g7 s7 => ⟨G7, ⟨?_, s6.trans (na.gg.trans s7)⟩, _, _, rfl⟩
            rw [rest_snoc hm, if_pos hb, ← List.append_assoc]
            exact g7
          · refine nx_of ⟨Ga, ⟨?_, s6.trans na.gg⟩, _, _, rfl⟩
            rw [rest_snoc hm, if_neg (by rw [hb]; exact Bool.false_ne_true), List.append_nil]
            exact gm.step rc_mono na
        · obtain ⟨⟨gm, s6⟩, y5, y6, rfl⟩ := hP
          rw [List.take_length, ← snoc] at gm
          exact ⟨Gm, ⟨gm, s2.trans (sx.trans (n6.gg.trans s6))⟩, _, _, _, rfl⟩
      · refine if_B (K := K) (G := Gk) (b := decide (o < (j : Int))) (eb_test (ed_op (ed_var (i := 9) rfl (.int o)) (ed_var (i := 8) rfl (.int _)) ro_b)) gr.n.gh (fun hb Ga Ha na => ?_) fun hb Ga Ha na => ?_
        · have hb := of_decide_eq_true hb
          have ho2 : 0 ≤ o ∧ o < (c.length : Int) := by omega
          have hlm : c.getD o.toNat [] ∈ perms3 := M.at (x := o.toNat) (by omega)
          refine app_dataR (i := 4) (x := c ++ [invM (c.getD o.toNat [])]) rc_mono rfl (gr.step rc_mono na) hpl (xc_snoc (i := 10) rfl (rc_mono _ _ _ _ na.gg hv) (by omega) (xl_tuple (EvN.cast (en_lcR1 (i := 6) (m := 3) (fun (p : Nat) => .int (idxM (c.getD o.toNat []) (p : Int) : Int)) (ed_var (i := 1) rfl (dp_mono (n4.gg.trans (n5.gg.trans (nj.gg.trans (nT.gg.trans (gr.n.gg.trans na.gg))))) _ h3i)) (fun _ => rfl) (by decide) (by show 3 ≤ sizeLine; omega) fun p Gp hp g => ?_) ?_))) (by omega) fun G7 H7 g7 s7 => fin _ _ ⟨G7, ⟨?_, na.gg.trans s7⟩, rfl⟩
          · have hp : p < 3 := hp
            obtain ⟨h1, h2⟩ := idx_ok _ hlm ⟨p, hp⟩
            exact ed_tix (k := 6) (xl_at (i := 10) (k := 9) rfl (rc_mono _ _ _ _ (na.gg.trans g) hv) rfl ho2) rfl h1 h2
          · unfold invM
            rw [List.map_map]
            rfl
          · rw [show firstM j o c = [c ++ [invM (c.getD o.toNat [])]] from if_pos hb]
            exact g7
        · refine nx_of (fin _ _ ⟨Ga, ⟨?_, na.gg⟩, rfl⟩)
          rw [show firstM j o c = [] from if_neg (of_decide_eq_false hb), List.append_nil]
          exact gr.step rc_mono na
    · obtain ⟨⟨gr, s2⟩, x5, x6, x10, rfl⟩ := hP
      rw [List.take_length] at gr
      obtain ⟨acc, Gd, nd, sd, e1, e2⟩ := gr.done rc_mono hpl
      refine ⟨_, rfl, Gd, nj.trans (nT.trans nd), pl, acc, _, _, _, _, _, _, rfl, SqL.of e1, ?_⟩
      have e3 : movesM bs (j + 1) = (movesM bs j).flatMap (optsM j o) := by rw [← eo]; rfl
      rw [e3]
      exact e2
  · obtain ⟨nj, a7, us7, x4, x5, x6, x8, x9, x10, rfl, hq7, ha7⟩ := hP
    rw [List.length_map] at ha7
    obtain hd : DpAll K Gj us7 ((movesM bs bs.length).map movD) := ha7.dp fun v x r => rc_dp r
    exact (rd_ret (K := K) (G := Gj) (d := .list ((movesM bs bs.length).map movD)) (ed_var (i := 7) rfl (.lst hq7 hd))) Hj nj.gh D' fun v G' H' n' hdv => q v G' H' (n1i.trans (n4.trans (n5.trans (nj.trans n')))) hdv
end
end Gw
namespace Gw
open PySem PySem.Spec PyProof.Rows L2 LamX
/-! ### how many keep rules; what words become -/
def toMv : PyData → List (List Int) | .tuple ds => ds.map toWs | _ => []
theorem toMv_mov (ms : List (List Int)) : toMv (movD ms) = ms := by
  show (ms.map wD).map toWs = ms
  rw [List.map_map]
  exact (List.map_congr_left fun m _ => toWs_ints m).trans (List.map_id ms)
theorem fm_count {α β : Type} {p : α → Bool} {f : α → β} {g : β → Option β} : ∀ {l : List α}, (∀ x ∈ l, g (f x) = if p x = true then some (f x) else none) → ((l.map f).filterMap g).length = l.countP p
  | [], _ => rfl
  | x :: l, h => by
    have ih := fm_count (l := l) fun y hy => h y (List.mem_cons_of_mem _ hy)
    rw [List.map_cons, List.filterMap_cons, h x List.mem_cons_self, List.countP_cons]
    rw [List.filterMap_map] at ih ⊢
    cases p x with
    | true => simp [ih]
    | false => simp [ih]
section
variable {P : Program} {w : World} {K : PySem.W.Frag} {mg : Str → Option Value} {base : Heap} {f : Addr} {fd : FuncData}
def R_law_kept_lists : List PyData → PyData → Prop := fun ds d => ∃ (bs : List Int) (rs : List Rl), ds = [wD bs, .list (rs.map ruleD)] ∧ IsBk bs ∧ bs.length ≤ 6 ∧ RulesOk bs.length rs ∧ rs.length ≤ 1000 ∧ d = .int (keptM bs rs : Int)
theorem ok_law_kept_lists (D : DefAt K mg "_law_kept_lists" s_law_kept_lists P_law_kept_lists f fd) (T : Bt mg) (h__law_small_moves : Ok P w K mg base "_law_small_moves" P_law_small_moves 1 (SpD K R_law_small_moves)) (h__law_keeps : Ok P w K mg base "_law_keeps" P_law_keeps 3 (SpD K R_law_keeps)) : Ok P w K mg base "_law_kept_lists" P_law_kept_lists 4 (SpD K R_law_kept_lists) := by
  refine D.ok (okD D.F sc_law_kept_lists (fun ds d h => ?_) fun cdv A outer s H hr => ?_)
  · obtain ⟨bs, rs, rfl, _⟩ := h; rfl
  have S := sc_law_kept_lists
  refine ⟨_, (pss_one (ps_ret (pe_callB (q_len K rfl) (by rfl) T.len PySem.boot_len (pa_cons (pe_lc (own := [("item", 2)]) (g := gName 2) (by rfl) S.nd  (q_iL K rfl (pe_ok h__law_small_moves (hr.mono (by decide)) (by rfl) (pa_cons (pv 0) (pa_cons pe_int pa_nil)))) (blkOk_by (N := N_law_kept_lists) (sc := defScope s_law_kept_lists) (by decide +kernel)) (fun _ _ _ _ _ => (pg_name (i := 2) S.nd rfl (by first | exact .inl rfl | exact .inr rfl))) (fun _ _ _ _ _ => (pts_one (pt_val (pe_ok h__law_keeps (hr.mono (by decide)) (by rfl) (pa_cons (pv 2) (pa_cons (pv 1) pa_nil)))))) (fun _ _ _ _ _ => (pv 2))) pa_nil)))), fun G ds d vs hR ha H0 hs D' q _ => ?_⟩
  obtain ⟨bs, rs, rfl, B, b6, hro, lr, rfl⟩ := hR
  obtain _ | ⟨hb, _ | ⟨hrs, _ | _⟩⟩ := ha
  have big : 100000 ≤ sizeLine := by decide
  have many : (movesM bs bs.length).length ≤ 46656 := by
    have h1 := moves_len bs bs.length
    have h2 : 6 ^ bs.length ≤ 6 ^ 6 := Nat.pow_le_pow_right (by decide) b6
    omega
  refine (RtD.cast (rd_ret (ed_cb (ea_cons (EvN.toD (en_lcL (i := 2) (fun d => if keepM (toMv d) rs = true then some d else none) (ed_call (ea_cons (ed_var (i := 0) rfl hb) (ea_cons ed_int ea_nil)) (R := R_law_small_moves) (E := E0) ⟨bs, rfl, B, b6, rfl⟩) (fun _ => rfl) (by rw [List.length_map]; omega) (fun d v Gi hd g hv => ?_) fun d v e Gi hd he g hv => ?_)) ea_nil) rcl_lenL)) ?_) H0 hs D' q
  · obtain ⟨ms, hm, rfl⟩ := List.mem_map.mp hd
    have M := moves_ok B.nn bs.length (Nat.le_refl _) ms hm
    have b2 := B.two
    rw [toMv_mov]
    refine EvB.cast (eb_B (ed_call (ea_cons (ed_var (i := 2) rfl hv) (ea_cons (ed_var (i := 1) rfl (dp_mono g _ hrs)) ea_nil)) (R := R_law_keeps) (E := E0) ⟨3, ms, rs, rfl, M.ok (by omega), by decide, by rw [M.len]; exact hro, lr, rfl⟩)) ?_
    cases keepM ms rs <;> rfl
  · try dsimp only at he
    split at he
    · cases he
      exact ed_var (i := 2) rfl hv
    · cases he
  · congr 1
    congr 1
    exact fm_count fun ms _ => by rw [toMv_mov]
def R_law_carried : List PyData → PyData → Prop := fun ds d => ∃ (bs : List Int) (rs : List Rl) (c : Chg) (ws : List Int) (p : List Int × List Rl), ds = [wD bs, .list (rs.map ruleD), c.d, wD ws] ∧ BkR bs rs ∧ chG bs rs c = .ok p ∧ Letters bs.length ws ∧ ws.length ≤ 1000 ∧ d = wD (carryW bs rs c ws)
theorem ok_law_carried (D : DefAt K mg "_law_carried" s_law_carried P_law_carried f fd) (T : Bt mg) (h__law_letter_rule : Ok P w K mg base "_law_letter_rule" P_law_letter_rule 1 (SpD K R_law_letter_rule)) (h__law_undoing : Ok P w K mg base "_law_undoing" P_law_undoing 1 (SpD K R_turned_back)) (h__law_spelled : Ok P w K mg base "_law_spelled" P_law_spelled 1 (SpD K R_law_spelled)) : Ok P w K mg base "_law_carried" P_law_carried 2 (SpD K R_law_carried) := by
  refine D.ok (okD D.F sc_law_carried (fun ds d h => ?_) fun cdv A outer s H hr => ?_)
  · obtain ⟨bs, rs, c, ws, p, rfl, _⟩ := h; rfl
  have S := sc_law_carried
  refine ⟨_, (pss_cons (ps_if (pt_cmpR op_ne (pe_ix (q_ixT K rfl) (pv 2) pe_int (fun _ _ => rfl)) pe_str (nomark _)) (pss_one (ps_ret (pv 3))) pss_nil)
  (pss_cons (ps_set (i := 4) S.nd rfl (by first | exact .inl rfl | exact .inr rfl) (pe_ix (q_ixT K rfl) (pe_ix (q_ixL K rfl) (pv 1) (pe_ok h__law_letter_rule (hr.mono (by decide)) (by rfl) (pa_cons (pv 0) (pa_cons (pv 1) pa_nil))) (fun _ _ => rfl)) pe_int (fun _ _ => rfl)))
  (pss_one (ps_ret (pe_ok h__law_spelled (hr.mono (by decide)) (by rfl) (pa_cons (pv 3) (pa_cons (pe_op op_sub (pe_callB (q_len K rfl) (by rfl) T.len PySem.boot_len (pa_cons (pv 0) pa_nil)) pe_int) (pa_cons (pv 4) (pa_cons (pe_ok h__law_undoing (hr.mono (by decide)) (by rfl) (pa_cons (pv 0) (pa_cons (pv 4) pa_nil))) pa_nil))))))))), fun G ds d vs hR ha H0 hs D' q _ => ?_⟩
  obtain ⟨bs, rs, c, ws, p, rfl, Vd, hc, lw, l1000, rfl⟩ := hR
  obtain _ | ⟨hb, _ | ⟨hrs, _ | ⟨hc', _ | ⟨hw, _ | _⟩⟩⟩⟩ := ha
  have big : 100000 ≤ sizeLine := by decide
  have b2 := Vd.B.two
  have lr := Vd.L
  obtain ⟨k, r, ed, k1, k2, k3, k4⟩ := chg_first c
  rw [ed] at hc'
  refine RtD.cast (d := wD (carryW bs rs c ws)) (rd_seqIf (b := !decide (k = "unletter")) (eb_test (ed_op (ed_op (ed_var (i := 2) rfl hc') ed_int (ro_ixT (k := 0) rfl rfl)) ed_str ro_neS)) (fun hb' => ?_) fun hb' => ?_) rfl H0 hs D' q
  · have e : carryW bs rs c ws = ws := by
      cases c with
      | unletter => exact absurd (k4.mpr rfl) (of_decide_eq_false (not_t hb'))
      | _ => rfl
    rw [e]
    exact rd_ret (ed_var (i := 3) rfl hw)
  have hcu := k4.mp (of_decide_eq_true (not_f hb'))
  subst hcu
  cases hl : lastM bs rs with
  | error e' => simp only [chG] at hc; rw [hl] at hc; cases hc
  | ok pl =>
  obtain ⟨L, hpl⟩ := lastM_ok hl
  obtain ⟨r0, h0, _, hm⟩ := place_mem hpl
  have e0 : rs.getD pl ([], []) = r0 := by rw [List.getD_eq_getElem?_getD, h0]; rfl
  have m40 : r0.2.length ≤ 40 := (Vd.R r0 (List.mem_of_getElem? h0)).2.1
  have hmn : Letters bs.length r0.2 := hm.le (by omega)
  have e : carryW bs rs .unletter ws = spellW ((bs.length : Int) - 2) r0.2 (undoW bs r0.2) ws := by
    rw [spell_repl b2 lw]
    simp only [carryW]
    rw [hl]
    show replW bs (rs.getD pl ([], [])).2 ws = _
    rw [e0]
  rw [e]
  have ep : optD (placeM (bs.length - 2) rs) = .int (pl : Int) := by rw [hpl]; rfl
  refine rd_set (i := 4) (ed_op (z := wD r0.2) (ed_op (z := ruleD r0) (ed_var (i := 1) rfl hrs) (EvD.cast (ed_call (ea_cons (ed_var (i := 0) rfl hb) (ea_cons (ed_var (i := 1) rfl hrs) ea_nil)) (R := R_law_letter_rule) (E := E0) ⟨bs, rs, rfl, b2, Vd.R, by omega, rfl⟩) ep) (ro_ixL (k := pl) rfl (by rw [List.getElem?_map, h0]; rfl))) ed_int (ro_ixT (k := 1) rfl rfl)) fun vt G1 s1 ht => ?_
  refine rd_ret (ed_call (ea_cons (ed_var (i := 3) rfl (dp_mono s1 _ hw)) (ea_cons (EvD.cast (ed_op (ed_cb (ea_cons (ed_var (i := 0) rfl (dp_mono s1 _ hb)) ea_nil) rcl_len) ed_int ro_i) (by rw [List.length_map])) (ea_cons (ed_var (i := 4) rfl ht) (ea_cons (ed_call (ea_cons (ed_var (i := 0) rfl (dp_mono s1 _ hb)) (ea_cons (ed_var (i := 4) rfl ht) ea_nil)) (R := R_turned_back) (E := E0) ⟨bs, r0.2, rfl, hmn, by omega, rfl⟩) ea_nil)))) (R := R_law_spelled) (E := E0) ⟨ws, (bs.length : Int) - 2, r0.2, undoW bs r0.2, rfl, l1000, m40, by rw [undoW_len]; exact m40, rfl⟩)
end
end Gw
namespace Gw
open PySem PySem.Spec PyProof.Rows L2 LamX
open PySem.AutoSeq1 (wpAny_loadPart')
/-! ### t * k for every small k -/
theorem tuple_mul1 (l : Addr) (items : Array Value) (n : Nat) (dd : Option Addr) (sl : Array (Option Value)) (u : Tok) :
    Meets (Builtin.«tuple.__mul__» ⟨[.ref l, .int 1 u], []⟩) (fun _ R s => s.heap.get? l = some { cls := .type "tuple", dict := dd, data := .seq items n, slots := sl } ∧ R (.ok (.ret (Value.ref l))) s) :=
  .of_wp fun prog w A R s h => by
    obtain ⟨hp, g, d, tk, os⟩ := s
    obtain ⟨hl, h⟩ := h
    have f1 := AutoSeq1.idx_int
    have c0 : (decide ((1 : Int) < -(2 ^ 63)) || decide ((1 : Int) ≥ 2 ^ 63)) = false := by decide
    have c1 : (items.isEmpty || (1 : Int) == 1) = true := by rw [Bool.or_eq_true]; exact .inr rfl
    wp_walk using wpAny_loadPart' hl
    repeat (first
      | (refine wpAny_ite_false (decide_eq_false (by rw [c0]; exact Bool.false_ne_true)) ?_; wp_walk using wpAny_loadPart' hl)
      | (refine wpAny_ite_true (decide_eq_true c1) ?_; wp_walk using wpAny_loadPart' hl))
    exact ⟨_, rfl, h⟩
theorem tuple_mul0 (l : Addr) (items : Array Value) (n : Nat) (dd : Option Addr) (sl : Array (Option Value)) (u : Tok) (hi : items.isEmpty = false) :
    Meets (Builtin.«tuple.__mul__» ⟨[.ref l, .int 0 u], []⟩) (fun _ R s => s.heap.get? l = some { cls := .type "tuple", dict := dd, data := .seq items n, slots := sl } ∧
      R (.ok (.ret (Value.ref s.heap.objs.size))) { s with heap := s.heap.push { cls := Value.type "tuple", data := Data.seq #[] }, toks := s.toks }) :=
  .of_wp fun prog w A R s h => by
    obtain ⟨hp, g, d, tk, os⟩ := s
    obtain ⟨hl, h⟩ := h
    have f1 := AutoSeq1.idx_int
    have c0 : (decide ((0 : Int) < -(2 ^ 63)) || decide ((0 : Int) ≥ 2 ^ 63)) = false := by decide
    have c1 : (items.isEmpty || (0 : Int) == 1) = false := by rw [hi]; rfl
    have c2 : (decide ((0 : Int) ≤ 0) || items.isEmpty) = true := by rw [Bool.or_eq_true]; exact .inl rfl
    wp_walk using wpAny_loadPart' hl
    repeat (first
      | (refine wpAny_ite_false (decide_eq_false (by rw [c0]; exact Bool.false_ne_true)) ?_; wp_walk using wpAny_loadPart' hl)
      | (refine wpAny_ite_false (decide_eq_false (by rw [c1]; exact Bool.false_ne_true)) ?_; wp_walk using wpAny_loadPart' hl)
      | (refine wpAny_ite_true (decide_eq_true c2) ?_; wp_walk using wpAny_loadPart' hl))
    exact ⟨_, rfl, h⟩
def rRepA (K : PySem.W.Frag) : R2 := fun x y H Q => ∃ l k xs, x = .ref l ∧ y = .int k ∧ SqT K H l xs ∧ xs ≠ [] ∧ 0 ≤ k ∧ k ≤ 1000 ∧ xs.length ≤ 1000 ∧ (k = 1 → Q (.ref l) H) ∧ (k ≠ 1 → ∀ p, H p = none → Q (.ref p) (upd H p (.tup (List.replicate k.toNat xs).flatten)))
section
variable {X : Cx}
theorem op_repA : OpR X (binaryOp .Mult) (rRepA X.K) := by
  intro pins s σ H x y v u Q I rx ry h
  obtain ⟨l, k, xs, rfl, rfl, hT, hne, h1, h2, hz, q1, q⟩ := h
  by_cases k2 : 2 ≤ k
  · exact op_repT pins s σ H _ _ v u Q I rx ry ⟨l, k, xs, rfl, rfl, hT, hne, k2, h2, hz, q (by omega)⟩
  cases rx
  obtain ⟨t, rfl⟩ := ry
  obtain ⟨its, r, ⟨⟨cls, dd, data, sl⟩, ho, hc, n, hd⟩, hs⟩ := I.tuple hT
  simp only at hc hd
  subst hc hd
  have hle : its.length = xs.length := r.length.symm
  have hi : its.toArray.isEmpty = false := by
    cases its with
    | nil => exact absurd (List.eq_nil_of_length_eq_zero hle.symm) hne
    | cons a b => rfl
  by_cases k1 : k = 1
  · subst k1
    refine wpAny_binaryOp_repeat_ref (T := "tuple") (U := "int") (by decide) ⟨_, ho, rfl⟩ (fun s' => typeIs_int s' 1 t) noFill_tuple_mul F.fills_int_mul F.slot_int_rmul repeat_tuple F.slot_int_index.lookup
      (call_meets F.slot_int_rmul (typeIs_int s 1 t) F.entry_int_rmul (F.args_int_rmul_2 _ _) (int_rmul_tuple 1 t l its.toArray n dd sl)
        ⟨ho, rfl, ⟨_, ho, rfl⟩, call_meets F.slot_tuple_mul ⟨_, ho, rfl⟩ F.entry_tuple_mul (F.args_tuple_mul_2 _ _) (tuple_mul1 l its.toArray n dd sl t) ⟨ho, ?_⟩⟩)
    exact ⟨.ref l, H, I, rfl, q1 rfl⟩
  have k0 : k = 0 := by omega
  subst k0
  refine wpAny_binaryOp_repeat_ref (T := "tuple") (U := "int") (by decide) ⟨_, ho, rfl⟩ (fun s' => typeIs_int s' 0 t) noFill_tuple_mul F.fills_int_mul F.slot_int_rmul repeat_tuple F.slot_int_index.lookup
    (call_meets F.slot_int_rmul (typeIs_int s 0 t) F.entry_int_rmul (F.args_int_rmul_2 _ _) (int_rmul_tuple 0 t l its.toArray n dd sl)
      ⟨ho, rfl, ⟨_, ho, rfl⟩, call_meets F.slot_tuple_mul ⟨_, ho, rfl⟩ F.entry_tuple_mul (F.args_tuple_mul_2 _ _) (tuple_mul0 l its.toArray n dd sl t hi) ⟨ho, ?_⟩⟩)
  refine ⟨.ref s.heap.objs.size, _, I.laid (t' := s.toks) (o := .tup []) (fun b ob q => Heap.get?_push_of_some _ q) (Nat.le_refl _) ?_, rfl, q (by decide) _ (I.hok.fresh (Nat.le_refl _))⟩
  exact ⟨Nat.zero_le _, [], .nil, IsTup.new _ _⟩
theorem q_repA (K : PySem.W.Frag) (e : X.K = K) : OpR X (binaryOp .Mult) (rRepA K) := by subst e; exact op_repA
end
/-! over a view -/
section
variable {K : PySem.W.Frag} {σ : L2.St} {G : Hp} {te tk : TE} {ds : List PyData} {k : Int}
theorem dpa_rep {H : Hp} {vs : List V} (h : DpAll K H vs ds) : ∀ n : Nat, DpAll K H (List.replicate n vs).flatten (List.replicate n ds).flatten
  | 0 => .nil
  | n + 1 => by
    rw [List.replicate_succ, List.replicate_succ, List.flatten_cons, List.flatten_cons]
    exact dpa_append h (dpa_rep h n)
theorem ro_repA (hne : ds ≠ []) (hl : ds.length ≤ 1000) (h0 : 0 ≤ k) (h1 : k ≤ 1000) : ROp K (rRepA K) (.tuple ds) (.int k) (.tuple (List.replicate k.toNat ds).flatten) := fun G H s vx vy dx dy Q q => by
  cases dx with
  | @tup a xs _ hs ha =>
    rw [dp_int dy]
    have lx := dpa_length ha
    refine ⟨a, k, xs, rfl, rfl, same_tup s hs, fun z => hne (by subst z; exact List.eq_nil_of_length_eq_zero lx.symm), h0, h1, by omega, fun e => ?_, fun _ p hp => ?_⟩
    · subst e
      refine q _ G H (Nx.refl s) ?_
      have e : (List.replicate (1 : Int).toNat ds).flatten = ds := by show (List.replicate 1 ds).flatten = ds; simp
      rw [e]
      exact .tup hs ha
    · have n := Nx.new (o := .tup (List.replicate k.toNat xs).flatten) s hp
      exact q _ _ _ n (.tup (SqT.of upd_same) (dpa_mono n.gg _ (dpa_rep ha _)))
/-- tuple(range(n)) -/
theorem ed_tupRg {n : Int} (h : EvD K te σ G (.int n)) (h0 : 0 ≤ n) (h1 : n ≤ 100000) : EvD K (tTupRg (tRg1 te)) σ G (.tuple ((List.range n.toNat).map fun (i : Nat) => PyData.int (i : Int))) := fun H s Q q => h H s _ fun v G1 H1 n1 hv => by
  refine ⟨n, dp_int hv, RgOk.of_le (Int.le_refl _) (by omega) (by omega) h0, fun p hp => ?_⟩
  have n2 := Nx.new (o := .tup (rgV 0 n)) n1.gh hp
  refine q _ _ _ (n1.trans n2) (.tup (SqT.of upd_same) ?_)
  unfold rgV
  have e : ∀ l : List Nat, DpAll K (upd G1 p (.tup ((List.range (n - 0).toNat).map fun (i : Nat) => V.int (0 + (i : Int))))) (l.map fun (i : Nat) => V.int (0 + (i : Int))) (l.map fun (i : Nat) => PyData.int (i : Int)) := fun l => by
    induction l with
    | nil => exact .nil
    | cons i l ih =>
      refine .cons ?_ ih
      show Dp K _ (V.int (0 + (i : Int))) (PyData.int (i : Int))
      rw [Int.zero_add]
      exact .int _
  rw [show (n - 0).toNat = n.toNat by omega] at e ⊢
  exact e _
end
end Gw
namespace Gw
open PySem PySem.Spec PyProof.Rows L2 LamX
/-! ### moves of a view that stands beside a draw -/
structure Mv (K : PySem.W.Frag) (TQ : List (Addr × Str)) (d l c : Addr) (G H G' H' : Hp) : Prop where
  vw : Vw G' H' d l c
  tb : Tabs TQ H'
  dp : ∀ {v : V} {x : PyData}, Dp K G v x → Dp K G' v x
  is : ∀ {a C dx : Addr} {fs : List (Str × V)}, G a = some (.ins C dx fs) → G' a = some (.ins C dx fs)
  ls : ∀ {p : Addr} {xs : List V}, H p = some (.lst xs) → p ≠ d → p ≠ l → H' p = some (.lst xs)
  no : ∀ {p : Addr} {xs : List V}, H p = some (.lst xs) → p ≠ d → p ≠ l → G p = none → G' p = none
  lv : ∀ {p : Addr} {o : HO}, (∀ ps, o ≠ .tbl ps) → G p = some o → G' p = some o
section
variable {K : PySem.W.Frag} {TQ : List (Addr × Str)} {d l c : Addr} {G H G1 H1 G2 H2 : Hp}
theorem Mv.refl (v : Vw G H d l c) (t : Tabs TQ H) : Mv K TQ d l c G H G H := ⟨v, t, fun h => h, fun h => h, fun h _ _ => h, fun _ _ _ h => h, fun _ h => h⟩
theorem Mv.trans (a : Mv K TQ d l c G H G1 H1) (b : Mv K TQ d l c G1 H1 G2 H2) : Mv K TQ d l c G H G2 H2 :=
  ⟨b.vw, b.tb, fun h => b.dp (a.dp h), fun h => b.is (a.is h), fun h p q => b.ls (a.ls h p q) p q, fun h p q g => b.no (a.ls h p q) p q (a.no h p q g), fun n h => b.lv n (a.lv n h)⟩
theorem Mv.nx (v : Vw G H d l c) (t : Tabs TQ H) (n : Nx G H G1 H1) : Mv K TQ d l c G H G1 H1 :=
  have w := Nw.of v n
  ⟨w.vw, tabs_same t n.hh, fun h => dp_mono n.gg _ h, fun h => n.gg _ _ h, fun h _ _ => n.hh _ _ h, fun h _ _ g => (n.fr _ (ne_none h)).trans g, fun _ h => n.gg _ _ h⟩
theorem Mv.nw (v : Vw G H d l c) (t : Tabs TQ H) (n : Nw d l c G H G1 H1) : Mv K TQ d l c G H G1 H1 :=
  ⟨n.vw, tabs_nd t n.nd v.dr, fun h => dp_mono n.gg _ h, fun h => n.gg _ _ h, fun h p q => n.nd.hh _ _ p q h, fun h _ _ g => (n.fr _ (ne_none h)).trans g, fun _ h => n.gg _ _ h⟩
theorem Mv.nd (v : Vw G H d l c) (t : Tabs TQ H) (n : Nd d l H H1) (D : Drw H1 d l c) : Mv K TQ d l c G H G H1 := Mv.nw v t (Nw.draw v n D)
theorem Mv.same (v : Vw G H d l c) (t : Tabs TQ H) (s : Same H H1) : Mv K TQ d l c G H G H1 := Mv.nw v t (Nw.draw v (Nd.of s) (v.dr.same s))
/-- a lambda's table was laid -/
theorem Mv.ext (v : Vw G H d l c) (e : ExtN H H1) (t : Tabs TQ H1) : Mv K TQ d l c G H (noT G) H1 :=
  ⟨⟨noT_ext (noT_same.trans v.gh) e, noT_none v.gd, noT_none v.gl, noT_none v.gc, by
      obtain ⟨r, t, ls, cs, h1, h2, h3, h4, h5⟩ := v.dr.at'
      exact ⟨v.dr.ne, r, t, ls, cs, e _ _ h1 (fun _ z => nomatch z), e _ _ h2 (fun _ z => nomatch z), e _ _ h3 (fun _ z => nomatch z), h4, h5⟩⟩, t, (fun h => dp_noT _ h), (fun h => noT_of h (fun _ z => nomatch z)), (fun h _ _ => e _ _ h (fun _ z => nomatch z)), (fun _ _ _ g => noT_none g), (fun n h => noT_of h n)⟩
/-- a list of this heap comes into the view -/
theorem Mv.tell {p : Addr} {xs : List V} (v : Vw G H d l c) (t : Tabs TQ H) (g : G p = none) (h : H p = some (.lst xs)) (h1 : p ≠ d) (h2 : p ≠ l) (h3 : p ≠ c) : Vw (upd G p (.lst xs)) H d l c ∧ Same G (upd G p (.lst xs)) := by
  have gi : Same G (upd G p (.lst xs)) := fun b u q => by rw [upd_ne (ne_of_none q g)]; exact q
  refine ⟨⟨fun b u q => ?_, (upd_ne (Ne.symm h1)).trans v.gd, (upd_ne (Ne.symm h2)).trans v.gl, (upd_ne (Ne.symm h3)).trans v.gc, v.dr⟩, gi⟩
  by_cases hq : b = p
  · subst hq; rw [upd_same] at q; rw [h]; exact q
  · rw [upd_ne hq] at q; exact v.gh b u q
/-- a list that grows or is changed, beside the view -/
structure Gr (K : PySem.W.Frag) (d l c : Addr) (G H : Hp) (p : Addr) (ds : List PyData) : Prop where
  g : G p = none
  nd : p ≠ d
  nl : p ≠ l
  nc : p ≠ c
  ex : ∃ acc, H p = some (.lst acc) ∧ DpAll K G acc ds
theorem dpa_by {G G1 : Hp} (h : ∀ {v : V} {x : PyData}, Dp K G v x → Dp K G1 v x) : ∀ {vs : List V} {ds : List PyData}, DpAll K G vs ds → DpAll K G1 vs ds
  | _, _, .nil => .nil
  | _, _, .cons a t => .cons (h a) (dpa_by h t)
theorem Gr.mv {p : Addr} {ds : List PyData} (r : Gr K d l c G H p ds) (m : Mv K TQ d l c G H G1 H1) : Gr K d l c G1 H1 p ds := by
  obtain ⟨acc, e, ha⟩ := r.ex
  exact ⟨m.no e r.nd r.nl r.g, r.nd, r.nl, r.nc, acc, m.ls e r.nd r.nl, dpa_by m.dp ha⟩
theorem Gr.start {p : Addr} (v : Vw G H d l c) (hp : H p = none) : Gr K d l c G (upd H p (.lst [])) p [] ∧ Vw G (upd H p (.lst [])) d l c ∧ Same H (upd H p (.lst [])) := by
  have s : Same H (upd H p (.lst [])) := same_upd hp
  obtain ⟨h1, h2, h3⟩ := v.dr.off hp
  exact ⟨⟨v.gh.free hp, h1, h2, h3, [], upd_same, .nil⟩, ⟨v.gh.trans s, v.gd, v.gl, v.gc, v.dr.same s⟩, s⟩
theorem tabs_updM {T : List (Addr × Str)} {p : Addr} {ys : List V} {o : HO} (t : Tabs T H) (hp : H p = some (.lst ys)) : Tabs T (upd H p o) := fun q hq => by
  obtain ⟨ps, h1, h2, h3⟩ := t q hq
  refine ⟨ps, (upd_ne (fun z => by rw [z, hp] at h1; cases h1)).trans h1, h2, fun pos cv hc => ?_⟩
  obtain ⟨c0, e1, e2⟩ := h3 pos cv hc
  exact ⟨c0, e1, (upd_ne (fun z => by rw [z, hp] at e2; cases e2)).trans e2⟩
/-- the list is written anew -/
theorem Gr.put {p : Addr} {ds es : List PyData} {xs : List V} (r : Gr K d l c G H p ds) (v : Vw G H d l c) (t : Tabs TQ H) (ha : DpAll K G xs es) : Gr K d l c G (upd H p (.lst xs)) p es ∧ Mv K TQ d l c G H G H ∧ Vw G (upd H p (.lst xs)) d l c ∧ Tabs TQ (upd H p (.lst xs)) := by
  obtain ⟨acc, e, _⟩ := r.ex
  refine ⟨⟨r.g, r.nd, r.nl, r.nc, xs, upd_same, ha⟩, Mv.refl v t, ⟨fun b u q => ?_, v.gd, v.gl, v.gc, v.dr.upd r.nd r.nl r.nc⟩, tabs_updM t e⟩
  rw [upd_ne (ne_of_none q r.g)]
  exact v.gh b u q
/-- a deed upon the draw that lays a tuple, too -/
theorem Nw.tup {p : Addr} {xs : List V} {H' : Hp} (v : Vw G H d l c) (n : Nd d l H H') (D : Drw H' d l c) (h0 : H p = none) (h : H' p = some (.tup xs)) : Nw d l c G H (upd G p (.tup xs)) H' := by
  have g := v.gh.free h0
  obtain ⟨h1, h2, h3⟩ := v.dr.off h0
  refine ⟨fun b u q => by rw [upd_ne (ne_of_none q g)]; exact q, ⟨fun b u q => ?_, (upd_ne (Ne.symm h1)).trans v.gd, (upd_ne (Ne.symm h2)).trans v.gl, (upd_ne (Ne.symm h3)).trans v.gc, D⟩, n, fun b hb => upd_ne fun z => hb (by rw [z]; exact h0)⟩
  by_cases hq : b = p
  · subst hq; rw [upd_same] at q; rw [← Option.some.inj q]; exact h
  · rw [upd_ne hq] at q
    exact n.hh b u (fun z => by rw [z, v.gd] at q; cases q) (fun z => by rw [z, v.gl] at q; cases q) (v.gh b u q)
end
/-! ### the whole heap as a view beside the draw -/
def offD (d l c : Addr) (H : Hp) : Hp := fun a => if a = d ∨ a = l ∨ a = c then none else H a
section
variable {K : PySem.W.Frag} {d l c : Addr} {H : Hp}
theorem offD_of {a : Addr} {o : HO} (h : H a = some o) (h1 : a ≠ d) (h2 : a ≠ l) (h3 : a ≠ c) : offD d l c H a = some o := by
  unfold offD
  rw [if_neg (by rintro (z | z | z) <;> contradiction)]; exact h
theorem offD_vw (D : Drw H d l c) : Vw (offD d l c H) H d l c := by
  refine ⟨fun a o h => ?_, by simp [offD], by simp [offD], by simp [offD], D⟩
  unfold offD at h
  split at h
  · cases h
  · exact h
theorem sqT_off (D : Drw H d l c) {a : Addr} {xs : List V} (h : SqT K H a xs) : SqT K (offD d l c H) a xs := by
  obtain ⟨r, t, ls, cs, h1, h2, h3, h4, h5⟩ := D.at'
  rcases h with (e | ⟨o, e⟩) | e
  · exact SqT.of (offD_of e (ne_of e h1 (fun z => nomatch z)) (ne_of e h2 (fun z => nomatch z)) (ne_of e h3 (fun z => nomatch z)))
  · exact .inl (.inr ⟨o, offD_of e (ne_of e h1 (fun z => nomatch z)) (ne_of e h2 (fun z => nomatch z)) (ne_of e h3 (fun z => nomatch z))⟩)
  · exact .inr e
mutual
theorem dp_off (D : Drw H d l c) : ∀ (x : PyData) {v : V}, noL x = true → Dp K H v x → Dp K (offD d l c H) v x
  | .none, _, _, .non => .non
  | .bool b, _, _, .bl _ => .bl b
  | .int i, _, _, .int _ => .int i
  | .str x, _, _, .str _ => .str x
  | .tuple ds, _, z, .tup hs ha => .tup (sqT_off D hs) (dpa_off D ds (by rw [noL] at z; exact z) ha)
theorem dpa_off (D : Drw H d l c) : ∀ (ds : List PyData) {vs : List V}, noLA ds = true → DpAll K H vs ds → DpAll K (offD d l c H) vs ds
  | [], _, _, .nil => .nil
  | x :: ds, _, z, .cons h t => by
    rw [noLA, Bool.and_eq_true] at z
    exact .cons (dp_off D x z.1 h) (dpa_off D ds z.2 t)
end
end
end Gw
namespace Gw
open PySem PySem.Spec PyProof.Rows L2 LamX
/-! ### draws beside a view -/
def spPickG (K : PySem.W.Frag) : Sp := fun vs H Q _ => ∃ d l c a xs, vs = [.ref d, .ref a] ∧ Drw H d l c ∧ SqL K H a xs ∧ (∀ H', Nd d l H H' → SqL K H' a xs) ∧ 0 < xs.length ∧ xs.length < 1000000 ∧ ∀ v H', v ∈ xs → Nd d l H H' → Drw H' d l c → Q v H'
/-- a word over the letters of a tuple or of a list -/
def spWordG (K : PySem.W.Frag) : Sp := fun vs H Q _ => ∃ (d l c b : Addr) (xs : List V) (m : Int), vs = [.ref d, .ref b, .int m] ∧ Drw H d l c ∧ (∀ H', Nd d l H H' → SqL K H' b xs ∨ SqT K H' b xs) ∧ 0 < xs.length ∧ xs.length < 1000 ∧ 0 ≤ m ∧ m < 100000 ∧
  ∀ (p : Addr) (ws : List Int) (H' : Hp), (ws.length : Int) ≤ m → Letters xs.length ws → H p = none → H' p = some (.tup (ws.map V.int)) → Nd d l H H' → Drw H' d l c → Q (.ref p) H'
section
variable {P : Program} {w : World} {K : PySem.W.Frag} {mg : Str → Option Value} {base : Heap} {f : Addr} {fd : FuncData}
theorem ok_law_pickG (D : DefAt K mg "_law_pick" s_law_pick P_law_pick f fd) (T : Bt mg) (h__law_take : Ok P w K mg base "_law_take" P_law_take 2 spTake) : Ok P w K mg base "_law_pick" P_law_pick 3 (spPickG K) := by
  refine D.ok (D.F.ok sc_law_pick (fun vs H Q E h => ?_) fun cdv A outer s H vs Q E hr h => ?_)
  · obtain ⟨d, l, c, a, xs, rfl, _⟩ := h; rfl
  have S := sc_law_pick
  obtain ⟨d, l, c, a, xs, rfl, Dw, hS, hN, hx0, hx1, q⟩ := h
  refine ⟨_, (pss_one (ps_ret (pe_ix (q_ixL K rfl) (pv 1) (pe_ok h__law_take (hr.mono (by decide)) (by rfl) (pa_cons (pv 0) (pa_cons (pe_callB (q_len K rfl) (by rfl) T.len PySem.boot_len (pa_cons (pv 1) pa_nil)) pa_nil))) (fun _ _ => rfl)))), ?_⟩
  refine ⟨_, rfl, _, rfl, _, rfl, a, xs, rfl, .inl hS, d, l, c, (xs.length : Int), rfl, Dw, by omega, by omega, fun k H2 hk0 hk1 n2 D2 => ?_⟩
  obtain ⟨j, rfl⟩ : ∃ j : Nat, k = (j : Int) := ⟨k.toNat, by omega⟩
  have hj : j < xs.length := by omega
  exact ⟨a, xs, (j : Int), xs[j], rfl, rfl, hN H2 n2, atI_nat (List.getElem?_eq_getElem hj), q _ _ (List.getElem_mem hj) n2 D2⟩
theorem ok_law_wordG (D : DefAt K mg "_law_word" s_law_word P_law_word f fd) (T : Bt mg) (h__law_take : Ok P w K mg base "_law_take" P_law_take 2 spTake) : Ok P w K mg base "_law_word" P_law_word 3 (spWordG K) := by
  refine D.ok (D.F.ok sc_law_word (fun vs H Q E h => ?_) fun cdv A outer s H vs Q E hr h => ?_)
  · obtain ⟨d, l, c, b, xs, m, rfl, _⟩ := h; rfl
  have S := sc_law_word
  obtain ⟨d, l, c, b, xs, m, rfl, Dw, hB, hx0, hx1, hm0, hm1, q⟩ := h
  refine ⟨_, (pss_one (ps_ret (pe_callTy (q_tuple K rfl) (by rfl) T.tuple (by decide +kernel) (pa_cons (pe_lc (own := [("k", 3)]) (g := gName 3) (by rfl) S.nd  (pi_range1 (by rfl) T.range (pa_cons (pe_ok h__law_take (hr.mono (by decide)) (by rfl) (pa_cons (pv 0) (pa_cons (pe_op op_add (pv 2) pe_int) pa_nil))) pa_nil)) (blkOk_by (N := N_law_word) (sc := defScope s_law_word) (by decide +kernel)) (fun _ _ _ _ _ => (pg_name (i := 3) S.nd rfl (by first | exact .inl rfl | exact .inr rfl))) (fun _ _ _ _ _ => pts_nil) (fun _ _ _ _ _ => (pe_ok h__law_take (hr.mono (by decide)) (by rfl) (pa_cons (pv 0) (pa_cons (pe_callB (q_len K rfl) (by rfl) T.len PySem.boot_len (pa_cons (pv 1) pa_nil)) pa_nil))))) pa_nil)))), ?_⟩
  refine ⟨_, rfl, _, rfl, _, _, rfl, rfl, d, l, c, m + 1, rfl, Dw, by omega, by omega, fun j H1 hj0 hj1 n1 D1 => ?_⟩
  refine ⟨j, rfl, by omega, by omega, fun p hp => ?_⟩
  have hp0 : H p = none := by
    cases e : H p with
    | none => rfl
    | some o =>
      obtain ⟨z1, z2, z3⟩ := D1.off hp
      rw [n1.hh p o z1 z2 e] at hp
      cases hp
  obtain ⟨o1, o2, o3⟩ := D1.off hp
  refine lc_range (lo := 0) (n := j.toNat) (fun k Hc => ∃ acc : List Int, Hc p = some (.lst (acc.map V.int)) ∧ acc.length = k ∧ Letters xs.length acc ∧ Nd d l H Hc ∧ Drw Hc d l c) ⟨[], upd_same, rfl, (fun x z => nomatch z), ⟨fun a o h1 h2 e => by rw [upd_ne (ne_of_none e hp0)]; exact n1.hh a o h1 h2 e⟩, D1.upd o1 o2 o3⟩ (fun k Hc hk hP => ?_) fun Hc hP => ?_
  · obtain ⟨acc, e1, e2, e3, e4, e5⟩ := hP
    refine ⟨rfl, tyes ?_⟩
    refine ⟨_, rfl, _, rfl, b, xs, rfl, hB Hc e4, d, l, c, (xs.length : Int), rfl, e5, by omega, by omega, fun y H2 hy0 hy1 n2 D2 => ?_⟩
    have e6 : H2 p = some (.lst (acc.map V.int)) := n2.hh _ _ o1 o2 e1
    refine ⟨_, e6, ?_, acc ++ [y], ?_, ?_, ?_, ?_, D2.upd o1 o2 o3⟩
    · rw [List.length_map, e2]
      have : k < 200000 := by omega
      exact Nat.lt_of_lt_of_le this (by decide)
    · rw [upd_same, List.map_append]; rfl
    · rw [List.length_append, e2]; rfl
    · intro x hx
      rcases List.mem_append.mp hx with hx | hx
      · exact e3 x hx
      · rw [List.mem_singleton.mp hx]; exact ⟨hy0, hy1⟩
    · exact ⟨fun a o h1 h2 e => by rw [upd_ne (ne_of_none e hp0)]; exact (e4.trans n2).hh a o h1 h2 e⟩
  · obtain ⟨acc, e1, e2, e3, e4, e5⟩ := hP
    refine ⟨p, _, rfl, .inl ⟨SqL.of e1, fun z hz => ?_⟩⟩
    have hz0 : H z = none := by
      cases e : H z with
      | none => rfl
      | some o =>
        obtain ⟨z1, z2, z3⟩ := e5.off hz
        rw [e4.hh z o z1 z2 e] at hz
        cases hz
    obtain ⟨u1, u2, u3⟩ := e5.off hz
    exact q z acc _ (by rw [e2]; omega) e3 hz0 upd_same ⟨fun a o h1 h2 e => by rw [upd_ne (ne_of_none e hz0)]; exact e4.hh a o h1 h2 e⟩ (e5.upd u1 u2 u3)
end
section
variable {K : PySem.W.Frag} {TQ : List (Addr × Str)} {d l c : Addr} {G H : Hp} {Q : VK} {E : XK} {vb : V} {bs : List Int} {ds : List PyData}
theorem sqL_nd {H' : Hp} {a : Addr} {xs : List V} (v : Vw G H d l c) (h : SqL K G a xs) (n : Nd d l H H') : SqL K H' a xs := by
  have go : ∀ {o : HO}, G a = some o → H' a = some o := fun {o} e => n.hh a o (fun z => by rw [z, v.gd] at e; cases e) (fun z => by rw [z, v.gl] at e; cases e) (v.gh a o e)
  rcases h with (e | ⟨o, e⟩) | e
  · exact SqL.of (go e)
  · exact .inl (.inr ⟨o, go e⟩)
  · exact .inr e
theorem sqT_nd {H' : Hp} {a : Addr} {xs : List V} (v : Vw G H d l c) (h : SqT K G a xs) (n : Nd d l H H') : SqT K H' a xs := by
  have go : ∀ {o : HO}, G a = some o → H' a = some o := fun {o} e => n.hh a o (fun z => by rw [z, v.gd] at e; cases e) (fun z => by rw [z, v.gl] at e; cases e) (v.gh a o e)
  rcases h with (e | ⟨o, e⟩) | e
  · exact SqT.of (go e)
  · exact .inl (.inr ⟨o, go e⟩)
  · exact .inr e
/-- the letters of a word to be drawn -/
theorem word_at (v : Vw G H d l c) (hb : Dp K G vb (wD bs) ∨ Dp K G vb (.list (bs.map .int))) : ∃ b, vb = .ref b ∧ ∀ H', Nd d l H H' → SqL K H' b (bs.map V.int) ∨ SqT K H' b (bs.map V.int) := by
  rcases hb with hb | hb
  · obtain ⟨b, e, h⟩ := dp_ints_t hb; exact ⟨b, e, fun H' n => .inr (sqT_nd v h n)⟩
  · obtain ⟨b, e, h⟩ := dp_ints_l hb; exact ⟨b, e, fun H' n => .inl (sqL_nd v h n)⟩
theorem word_mv {p : Addr} {ws : List Int} {H' : Hp} (v : Vw G H d l c) (t : Tabs TQ H) (h0 : H p = none) (h : H' p = some (.tup (ws.map V.int))) (n : Nd d l H H') (D : Drw H' d l c) : Mv K TQ d l c G H (upd G p (.tup (ws.map V.int))) H' ∧ Dp K (upd G p (.tup (ws.map V.int))) (.ref p) (wD ws) :=
  ⟨Mv.nw v t (Nw.tup (G := G) v n D h0 h), .tup (SqT.of upd_same) (dpa_ints ws)⟩
/-- a pick of data -/
theorem pickD_go {vl : V} (v : Vw G H d l c) (t : Tabs TQ H) (hl : Dp K G vl (.list ds)) (h0 : 0 < ds.length) (h1 : ds.length < 1000000) (q : ∀ u x H', x ∈ ds → Dp K G u x → Mv K TQ d l c G H G H' → Q u H') : spPickG K [.ref d, vl] H Q E := by
  cases hl with
  | @lst a xs _ hs ha =>
    have lx := dpa_length ha
    refine ⟨d, l, c, a, xs, rfl, v.dr, v.gh.seq hs, fun H' n => sqL_nd v hs n, by omega, by omega, fun u H' hu nd D => ?_⟩
    obtain ⟨i, hi⟩ := List.getElem?_of_mem hu
    obtain ⟨x, hx, hd⟩ := dpa_get ha hi
    exact q u x H' (List.mem_of_getElem? hx) hd (Mv.nd v t nd D)
theorem Mv.told {p : Addr} {xs : List V} {G1 H1 : Hp} (m : Mv K TQ d l c G H G1 H1) (h0 : H p = none) (g : G1 p = none) (e : H1 p = some (.lst xs)) (n1 : p ≠ d) (n2 : p ≠ l) (n3 : p ≠ c) : Mv K TQ d l c G H (upd G1 p (.lst xs)) H1 := by
  obtain ⟨v, s⟩ := Mv.tell m.vw m.tb g e n1 n2 n3
  exact ⟨v, m.tb, fun h => dp_mono s _ (m.dp h), fun h => s _ _ (m.is h), m.ls, fun h p1 p2 g1 => by
    rw [upd_ne (fun z => by rw [z, h0] at h; cases h)]; exact m.no h p1 p2 g1, fun n h => s _ _ (m.lv n h)⟩
theorem Mv.put {p : Addr} {es : List PyData} {xs : List V} {G1 H1 : Hp} (m : Mv K TQ d l c G H G1 H1) (h0 : H p = none) (r : Gr K d l c G1 H1 p ds) (ha : DpAll K G1 xs es) : Mv K TQ d l c G H G1 (upd H1 p (.lst xs)) ∧ Gr K d l c G1 (upd H1 p (.lst xs)) p es := by
  obtain ⟨r1, _, r3, r4⟩ := r.put m.vw m.tb ha
  exact ⟨⟨r3, r4, m.dp, m.is, fun h p1 p2 => by rw [upd_ne (fun z => by rw [z, h0] at h; cases h)]; exact m.ls h p1 p2, m.no, m.lv⟩, r1⟩
end
/-! a group drawn -/
theorem bk_range (n : Nat) (h0 : 2 ≤ n) (h1 : n ≤ 12) : IsBk ((List.range n).map fun (i : Nat) => (i : Int)) where
  two := by rw [List.length_map, List.length_range]; exact h0
  six := by rw [List.length_map, List.length_range]; exact h1
  inv := fun k hk => by
    rw [List.length_map, List.length_range] at hk
    refine ⟨k, ?_, ?_⟩ <;> rw [List.getElem?_map, List.getElem?_range hk] <;> rfl
theorem bk_of {bs : List Int} (h : decide (2 ≤ bs.length) = true) (h1 : decide (bs.length ≤ 12) = true) (h2 : ((List.range bs.length).all fun k => (List.range bs.length).any fun j => bs[k]? == some (j : Int) && bs[j]? == some (k : Int)) = true) : IsBk bs where
  two := of_decide_eq_true h
  six := of_decide_eq_true h1
  inv := fun k hk => by
    have := List.all_eq_true.mp h2 k (List.mem_range.mpr hk)
    obtain ⟨j, _, hj⟩ := List.any_eq_true.mp this
    rw [Bool.and_eq_true, beq_iff_eq, beq_iff_eq] at hj
    exact ⟨j, hj.1, hj.2⟩
def toldD : Option (List Int) → PyData | none => .none | some ws => wD ws
def spSomeG (K : PySem.W.Frag) : Sp := fun vs H Q _ => ∃ (G : Hp) (TQ : List (Addr × Str)) (d l c : Addr), vs = [.ref d] ∧ Vw G H d l c ∧ Tabs TQ H ∧
  ∀ p vb lr xs G' H' bs rs, BkR bs rs → Mv K TQ d l c G H G' H' → SqT K G' p [vb, .ref lr] → Dp K G' vb (wD bs) → G' lr = some (.lst xs) → DpAll K G' xs (rs.map ruleD) → Q (.ref p) H'
end Gw
namespace Gw
open PySem PySem.Spec PyProof.Rows L2 LamX
/-! ### a group drawn -/
theorem Gr.off {K : PySem.W.Frag} {d l c : Addr} {G H : Hp} {p q : Addr} {ds : List PyData} {o : HO} (r : Gr K d l c G H q ds) (hne : q ≠ p) : Gr K d l c G (upd H p o) q ds := by
  obtain ⟨acc, e, ha⟩ := r.ex
  exact ⟨r.g, r.nd, r.nl, r.nc, acc, (upd_ne hne).trans e, ha⟩
theorem some_backs {x : PyData} (h : x ∈ [wD [1, 0], wD [0, 1], wD [1, 0, 2], wD [0, 1, 2], wD [1, 0, 3, 2]]) : ∃ bs : List Int, x = wD bs ∧ IsBk bs ∧ bs.length ≤ 4 := by
  simp only [List.mem_cons, List.not_mem_nil, or_false] at h
  rcases h with rfl | rfl | rfl | rfl | rfl
  · exact ⟨[1, 0], rfl, bk_of rfl rfl (by decide +kernel), by decide⟩
  · exact ⟨[0, 1], rfl, bk_of rfl rfl (by decide +kernel), by decide⟩
  · exact ⟨[1, 0, 2], rfl, bk_of rfl rfl (by decide +kernel), by decide⟩
  · exact ⟨[0, 1, 2], rfl, bk_of rfl rfl (by decide +kernel), by decide⟩
  · exact ⟨[1, 0, 3, 2], rfl, bk_of rfl rfl (by decide +kernel), by decide⟩
section
variable {P : Program} {w : World} {K : PySem.W.Frag} {mg : Str → Option Value} {base : Heap} {f : Addr} {fd : FuncData}
theorem ok_law_some_group (D : DefAt K mg "_law_some_group" s_law_some_group P_law_some_group f fd) (T : Bt mg) (h__law_take : Ok P w K mg base "_law_take" P_law_take 2 spTake) (h__law_pick : Ok P w K mg base "_law_pick" P_law_pick 3 (spPickG K)) (h__law_word : Ok P w K mg base "_law_word" P_law_word 3 (spWordG K)) :
    Ok P w K mg base "_law_some_group" P_law_some_group 4 (spSomeG K) := by
  refine D.ok (D.F.ok sc_law_some_group (fun vs H Q E h => ?_) fun cdv A outer s H vs Q E hr h => ?_)
  · obtain ⟨G, TQ, d, l, c, rfl, _⟩ := h; rfl
  have S := sc_law_some_group
  obtain ⟨G, TQ, d, l, c, rfl, vw, tb, q⟩ := h
  refine ⟨_, (pss_cons (ps_par (i := 1) (j := 2) rfl S.nd rfl rfl (by decide) rfl rfl (pa_cons (pe_ok h__law_pick (hr.mono (by decide)) (by rfl) (pa_cons (pv 0) (pa_cons (pe_lst (pa_cons (pe_tup (pa_cons pe_int (pa_cons pe_int pa_nil))) (pa_cons (pe_tup (pa_cons pe_int (pa_cons pe_int pa_nil))) (pa_cons (pe_tup (pa_cons pe_int (pa_cons pe_int (pa_cons pe_int pa_nil)))) (pa_cons (pe_tup (pa_cons pe_int (pa_cons pe_int (pa_cons pe_int pa_nil)))) (pa_cons (pe_tup (pa_cons pe_int (pa_cons pe_int (pa_cons pe_int (pa_cons pe_int pa_nil))))) pa_nil)))))) pa_nil))) (pa_cons (pe_lst pa_nil) pa_nil)) (by rfl))
  (pss_cons (ps_set (i := 3) S.nd rfl (by first | exact .inl rfl | exact .inr rfl) (pe_ifExp (pt_cmpR op_gt (pe_ok h__law_take (hr.mono (by decide)) (by rfl) (pa_cons (pv 0) (pa_cons pe_int pa_nil))) pe_int (nomark _)) (pe_ok h__law_word (hr.mono (by decide)) (by rfl) (pa_cons (pv 0) (pa_cons (pv 1) (pa_cons pe_int pa_nil)))) pe_non))
  (pss_cons (ps_if (pt_cmpR op_notN (pv 3) pe_non (nomark _)) (pss_one (ps_set (i := 1) S.nd rfl (by first | exact .inl rfl | exact .inr rfl) (pe_op (q_catT K rfl) (pv 1) (pe_tup (pa_cons (pe_op op_add (pe_callB (q_len K rfl) (by rfl) T.len PySem.boot_len (pa_cons (pv 1) pa_nil)) pe_int) (pa_cons (pe_callB (q_len K rfl) (by rfl) T.len PySem.boot_len (pa_cons (pv 1) pa_nil)) pa_nil)))))) pss_nil)
  (pss_cons (ps_for PassesOwn.never rfl (pi_range1 (by rfl) T.range (pa_cons (pe_ok h__law_take (hr.mono (by decide)) (by rfl) (pa_cons (pv 0) (pa_cons pe_int pa_nil))) pa_nil)) (pg_name (i := 4) S.nd rfl (by first | exact .inl rfl | exact .inr rfl)) (pss_one (ps_expr (pe_bm PySem.F.plainAttrs_list PySem.F.slot_list_append PySem.F.type_list_append mt_append (pv 2) (pa_cons (pe_tup (pa_cons (pe_ok h__law_word (hr.mono (by decide)) (by rfl) (pa_cons (pv 0) (pa_cons (pv 1) (pa_cons pe_int pa_nil)))) (pa_cons (pe_ok h__law_word (hr.mono (by decide)) (by rfl) (pa_cons (pv 0) (pa_cons (pv 1) (pa_cons pe_int pa_nil)))) pa_nil))) pa_nil)))))
  (pss_cons (ps_if (PW.pt (pw_and (pt_cmpR op_notN (pv 3) pe_non (nomark _)) (pw_and1 (pt_cmpR op_gt (pe_ok h__law_take (hr.mono (by decide)) (by rfl) (pa_cons (pv 0) (pa_cons pe_int pa_nil))) pe_int (nomark _))))) (pss_cons (ps_set (i := 5) S.nd rfl (by first | exact .inl rfl | exact .inr rfl) (pe_ok h__law_take (hr.mono (by decide)) (by rfl) (pa_cons (pv 0) (pa_cons (pe_op op_add (pe_callB (q_len K rfl) (by rfl) T.len PySem.boot_len (pa_cons (pv 2) pa_nil)) pe_int) pa_nil))))
  (pss_one (ps_set (i := 2) S.nd rfl (by first | exact .inl rfl | exact .inr rfl) (pe_op op_cat (pe_op op_cat (pe_slice (q_slL K rfl) (pv 2) po_none (po_some (pv 5))) (pe_lst (pa_cons (pe_tup (pa_cons (pe_tup (pa_cons (pe_op op_sub (pe_callB (q_len K rfl) (by rfl) T.len PySem.boot_len (pa_cons (pv 1) pa_nil)) pe_int) pa_nil)) (pa_cons (pv 3) pa_nil))) pa_nil))) (pe_slice (q_slL K rfl) (pv 2) (po_some (pv 5)) po_none))))) pss_nil)
  (pss_one (ps_ret (pe_tup (pa_cons (pv 1) (pa_cons (pv 2) pa_nil)))))))))), ?_⟩
  have big : 2000000 ≤ sizeLine := by decide
  have le : ∀ {n : Nat}, n ≤ 100 → n ≤ sizeLine := fun h => by omega
  refine ⟨_, rfl, (ed_lst (ea_cons (ed_tup (ea_cons ed_int (ea_cons ed_int ea_nil)) (le (by decide))) (ea_cons (ed_tup (ea_cons ed_int (ea_cons ed_int ea_nil)) (le (by decide))) (ea_cons (ed_tup (ea_cons ed_int (ea_cons ed_int (ea_cons ed_int ea_nil))) (le (by decide))) (ea_cons (ed_tup (ea_cons ed_int (ea_cons ed_int (ea_cons ed_int ea_nil))) (le (by decide))) (ea_cons (ed_tup (ea_cons ed_int (ea_cons ed_int (ea_cons ed_int (ea_cons ed_int ea_nil)))) (le (by decide))) ea_nil))))) (le (by decide)) : EvD K _ _ G (.list [wD [1, 0], wD [0, 1], wD [1, 0, 2], wD [0, 1, 2], wD [1, 0, 3, 2]])) H vw.gh _ fun vl G1 H1 n1 hl => ?_⟩
  have m1 := Mv.nx (K := K) vw tb n1
  refine pickD_go (E := E0) m1.vw m1.tb hl (by decide) (by decide) fun vb x H2 hx hvb m2 => ⟨Nat.zero_le _, fun pl hpl => ⟨_, _, rfl, ?_⟩⟩
  obtain ⟨bs, rfl, B, b4⟩ := some_backs hx
  obtain ⟨gr3, v3, s3⟩ := Gr.start (K := K) m2.vw hpl
  have m3 : Mv K TQ d l c G1 H2 G1 (upd H2 pl (.lst [])) := Mv.same (K := K) m2.vw m2.tb s3
  have m12 := m1.trans m2
  have b2 := B.two
  dsimp only [gName, List.set_cons_succ, List.set_cons_zero]
  generalize upd H2 pl (.lst []) = H3 at gr3 v3 s3 m3
  -- told
  refine seq_cut (fun σ' H' => ∃ G4 vt to, σ' = [some (.ref d), some vb, some (.ref pl), some vt, none, none] ∧ Mv K TQ d l c G1 H3 G4 H' ∧ Dp K G4 vt (toldD to) ∧ ∀ ws, to = some ws → ws.length ≤ 3 ∧ Letters bs.length ws) ?_ fun fin => ?_
  rotate_left
  · refine ⟨_, rfl, ?_⟩
    refine ⟨d, l, c, 4, rfl, m3.vw.dr, by decide, by decide, fun k H4 k0 k1 nd4 D4 => ⟨_, _, rfl, rfl, _, rfl, ?_⟩⟩
    have m4 := Mv.nd (K := K) m3.vw m3.tb nd4 D4
    cases decide ((0 : Int) < k) with
    | true =>
      obtain ⟨b, rfl, hB⟩ := word_at m4.vw (.inl hvb)
      refine iteT ⟨_, rfl, _, rfl, d, l, c, b, _, 3, rfl, m4.vw.dr, hB, by rw [List.length_map]; omega, by rw [List.length_map]; omega, by decide, by decide, fun p ws H5 e1 e2 e3 e4 e5 e6 => ?_⟩
      obtain ⟨m5, hu⟩ := word_mv (K := K) m4.vw m4.tb e3 e4 e5 e6
      rw [List.length_map] at e2
      exact fin _ _ ⟨_, _, some ws, rfl, m4.trans m5, hu, fun ws' e => by cases e; exact ⟨by omega, e2⟩⟩
    | false =>
      refine iteF ?_
      exact fin _ _ ⟨G1, .non, none, rfl, m4, .non, fun ws' e => nomatch e⟩
  rintro σ' H4 ⟨G4, vt, to, rfl, m4, ht, hto⟩
  have gr4 := gr3.mv m4
  have m04 := m3.trans m4
  have hvb4 := m4.dp hvb
  -- two letters more
  refine seq_cut (fun σ' H' => ∃ G5 vb5 bs5, σ' = [some (.ref d), some vb5, some (.ref pl), some vt, none, none] ∧ Mv K TQ d l c G4 H4 G5 H' ∧ Dp K G5 vb5 (wD bs5) ∧ IsBk bs5 ∧ bs5.length ≤ 6 ∧ ∀ ws, to = some ws → ws.length ≤ 3 ∧ Letters (bs5.length - 2) ws) ?_ fun fin => ?_
  rotate_left
  · cases to with
    | none =>
      rw [dp_non ht]
      refine ⟨_, rfl, rfl, _, rfl, if_off rfl (nx_of (fin _ _ ⟨G4, vb, bs, ?_, Mv.nx m04.vw m04.tb (Nx.refl m04.vw.gh), hvb4, B, by omega, fun ws e => nomatch e⟩))⟩
      rw [dp_non ht]
    | some ws =>
      obtain ⟨lw, hL⟩ := hto ws rfl
      obtain ⟨at', et, _⟩ := dp_ints_t ht
      refine ⟨_, rfl, rfl, _, rfl, if_on (by rw [et]; rfl) ?_⟩
      refine asg_let (K := K) (G := G4) (d := wD (bs ++ [(bs.length : Int) + 1, (bs.length : Int)])) (EvD.cast (ed_op (z := .tuple (bs.map .int ++ ([(bs.length : Int) + 1, (bs.length : Int)] : List Int).map .int)) (ed_var (i := 1) rfl hvb4) (ed_tup (ea_cons (EvD.cast (ed_op (ed_cb (ea_cons (ed_var (i := 1) rfl hvb4) ea_nil) rcl_len) ed_int ro_i) (by rw [List.length_map])) (ea_cons (EvD.cast (ed_cb (ea_cons (ed_var (i := 1) rfl hvb4) ea_nil) rcl_len) (by rw [List.length_map])) ea_nil)) (by show 2 ≤ sizeLine; omega)) (ro_cat (by rw [List.length_map]; show _ + 2 ≤ _; omega))) (by show PyData.tuple _ = PyData.tuple _; rw [List.map_append])) m04.vw.gh fun vb5 G5 H5 n5 hb5 => ?_
      refine fin _ _ ⟨G5, vb5, _, rfl, Mv.nx m04.vw m04.tb n5, hb5, B.more (by omega), by rw [List.length_append]; show _ + 2 ≤ 6; omega, fun ws' e => ?_⟩
      cases e
      exact ⟨lw, by rw [List.length_append]; show Letters (bs.length + 2 - 2) ws; rw [Nat.add_sub_cancel]; exact hL⟩
  rintro σ' H5 ⟨G5, vb5, bs5, rfl, m5, hb5, B5, l5, hto5⟩
  clear hto
  have gr5 := gr4.mv m5
  have m05 := m04.trans m5
  have b25 := B5.two
  have ht5 := m5.dp ht
  -- the rules
  refine ⟨_, rfl, ?_⟩
  refine ⟨d, l, c, 4, rfl, m05.vw.dr, by decide, by decide, fun k H6 k0 k1 nd6 D6 => ?_⟩
  have m6 := Mv.nd (K := K) m05.vw m05.tb nd6 D6
  have gr6 := gr5.mv m6
  have m06 := m05.trans m6
  have hb6 := m6.dp hb5
  have ht6 := m6.dp ht5
  refine ⟨k, rfl, by omega, by omega, for_range (lo := 0) (n := k.toNat) (fun i σ Hc => ∃ x4 Gi rs, σ = [some (.ref d), some vb5, some (.ref pl), some vt, x4, none] ∧ Mv K TQ d l c G1 H2 Gi Hc ∧ Gr K d l c Gi Hc pl (rs.map ruleD) ∧ rs.length = i ∧ RulesOk bs5.length rs ∧ Dp K Gi vb5 (wD bs5) ∧ Dp K Gi vt (toldD to)) ⟨_, G5, [], rfl, m06, gr6, rfl, (fun r hr => nomatch hr), hb6, ht6⟩ (fun i σ Hc hi hP => ?_) fun σ Hc hP => ?_⟩
  · obtain ⟨x4, Gi, rs, rfl, mi, gri, lr, ro, hbi, hti⟩ := hP
    dsimp only [gName, List.set_cons_succ, List.set_cons_zero]
    obtain ⟨acc, ea, ha⟩ := id gri.ex
    obtain ⟨b, rfl, hB⟩ := word_at mi.vw (.inl hbi)
    refine ⟨_, rfl, .inl ⟨rfl, _, SqL.of ea⟩, ?_⟩
    refine ⟨_, rfl, _, rfl, d, l, c, b, _, 5, rfl, mi.vw.dr, hB, by rw [List.length_map]; omega, by rw [List.length_map]; omega, by decide, by decide, fun p w1 H7 e1 e2 e3 e4 e5 e6 => ?_⟩
    obtain ⟨m7, hu⟩ := word_mv (K := K) mi.vw mi.tb e3 e4 e5 e6
    rw [List.length_map] at e2
    obtain ⟨b', eb, hB⟩ := word_at m7.vw (.inl (m7.dp hbi))
    cases eb
    refine ⟨_, rfl, _, rfl, d, l, c, b, _, 3, rfl, m7.vw.dr, hB, by rw [List.length_map]; omega, by rw [List.length_map]; omega, by decide, by decide, fun p2 w2 H8 e7 e8 e9 e10 e11 e12 => ?_⟩
    obtain ⟨m8, hu2⟩ := word_mv (K := K) m7.vw m7.tb e9 e10 e11 e12
    rw [List.length_map] at e8
    refine ⟨by show 2 ≤ sizeLine; omega, fun t ht => ?_⟩
    have n9 := Nx.new (o := .tup [.ref p, .ref p2]) m8.vw.gh ht
    have m9 := Mv.nx (K := K) m8.vw m8.tb n9
    have mm := m7.trans (m8.trans m9)
    have gr9 := gri.mv mm
    obtain ⟨ac9, ea9, ha9⟩ := id gr9.ex
    have hd : Dp K _ (.ref t) (ruleD (w1, w2)) := .tup (SqT.of (K := K) (upd_same (o := .tup [V.ref p, V.ref p2]))) (.cons (m9.dp (m8.dp hu)) (.cons (m9.dp hu2) .nil))
    obtain ⟨m10, r1⟩ := (mi.trans mm).put hpl gr9 (dpa_append ha9 (.cons hd .nil))
    have lac := dpa_length ha9
    rw [List.length_map] at lac
    refine ⟨pl, ac9, _, rfl, rfl, ea9, by omega, _, _, rs ++ [(w1, w2)], rfl, m10, by rw [List.map_append]; exact r1, by rw [List.length_append, lr]; rfl, ro.app fun r hr => ?_, mm.dp hbi, mm.dp hti⟩
    rw [List.mem_singleton.mp hr]
    exact ⟨by show w1.length ≤ 40; omega, by show w2.length ≤ 40; omega, e2, e8⟩
  obtain ⟨x4, G7, rs, rfl, m7, gr7, lr, ro, hb7, ht7⟩ := hP
  obtain ⟨acc, ea, ha⟩ := id gr7.ex
  have m8 := m7.told hpl gr7.g ea gr7.nd gr7.nl gr7.nc
  have s8 : Same G7 (upd G7 pl (.lst acc)) := fun b u z => by rw [upd_ne (ne_of_none z gr7.g)]; exact z
  have ea8 : upd G7 pl (.lst acc) pl = some (.lst acc) := upd_same
  have ha8 := dpa_mono s8 _ ha
  have hb8 := dp_mono s8 _ hb7
  have ht8 := dp_mono s8 _ ht7
  generalize upd G7 pl (.lst acc) = G8 at m8 s8 ea8 ha8 hb8 ht8
  have hl8 : Dp K G8 (.ref pl) (.list (rs.map ruleD)) := .lst (SqL.of ea8) ha8
  clear m7 gr7 ea ha hb7 ht7
  have l4 : rs.length ≤ 3 := by omega
  -- the rule that tells
  dsimp only
  refine seq_cut (fun σ' H' => ∃ G9 x5 pl9 acc9 rs9, σ' = [some (.ref d), some vb5, some (.ref pl9), some vt, x4, x5] ∧ Mv K TQ d l c G1 H2 G9 H' ∧ Dp K G9 vb5 (wD bs5) ∧ G9 pl9 = some (.lst acc9) ∧ DpAll K G9 acc9 (rs9.map ruleD) ∧ RulesOk bs5.length rs9 ∧ rs9.length ≤ 40) ?_ fun fin => ?_
  · rintro σ' H' ⟨G9, x5, pl9, acc9, rs9, rfl, m9, hb9, ea9, ha9, ro9, l9⟩
    refine ⟨_, rfl, _, rfl, by show 2 ≤ sizeLine; omega, fun t ht => ?_⟩
    have n10 := Nx.new (o := .tup [vb5, .ref pl9]) m9.vw.gh ht
    exact q t vb5 pl9 acc9 _ _ bs5 rs9 ⟨B5, ro9, l9⟩ (m12.trans (m9.trans (Mv.nx m9.vw m9.tb n10))) (SqT.of upd_same) (dp_mono n10.gg _ hb9) (n10.gg _ _ ea9) (dpa_mono n10.gg _ ha9)
  cases to with
  | none =>
    rw [dp_non ht8] at fin ⊢
    refine ⟨_, rfl, rfl, _, rfl, ?_⟩
    dsimp only
    rw [if_neg (by simp), if_neg Bool.false_ne_true]
    exact (nx_of (fin _ _ ⟨G8, none, pl, acc, rs, rfl, m8, hb8, ea8, ha8, ro, by omega⟩))
  | some ws =>
    obtain ⟨lw, hL⟩ := hto5 ws rfl
    obtain ⟨at', et, _⟩ := dp_ints_t ht8
    refine ⟨_, rfl, rfl, _, rfl, ?_⟩
    dsimp only
    rw [if_pos (by rw [et]; rfl)]
    refine ⟨_, rfl, d, l, c, 6, rfl, m8.vw.dr, by decide, by decide, fun k2 H9 k20 k21 nd9 D9 => ⟨_, _, rfl, rfl, _, rfl, ?_⟩⟩
    have m9 := m8.trans (Mv.nd (K := K) m8.vw m8.tb nd9 D9)
    cases decide ((0 : Int) < k2) with
    | false => exact iteF (nx_of (fin _ _ ⟨G8, none, pl, acc, rs, rfl, m9, hb8, ea8, ha8, ro, by omega⟩))
    | true =>
      refine iteT ⟨_, rfl, (EvD.cast (ed_op (ed_cb (ea_cons (ed_var (i := 2) rfl hl8) ea_nil) rcl_lenL) ed_int ro_i) (by rw [List.length_map]) : EvD K _ [some (.ref d), some vb5, some (.ref pl), some vt, x4, none] G8 (.int ((rs.length : Int) + 1))) H9 m9.vw.gh _ fun vn G10 H10 n10 hn => ?_⟩
      rw [dp_int hn]
      have m10 := m9.trans (Mv.nx (K := K) m9.vw m9.tb n10)
      refine ⟨d, l, c, _, rfl, m10.vw.dr, by omega, by omega, fun k3 H11 k30 k31 nd11 D11 => ?_⟩
      have m11 := m10.trans (Mv.nd (K := K) m10.vw m10.tb nd11 D11)
      obtain ⟨p, rfl⟩ : ∃ p : Nat, k3 = (p : Int) := ⟨k3.toNat, by omega⟩
      have hl10 := dp_mono n10.gg _ hl8
      have hb10 := dp_mono n10.gg _ hb8
      have ht10 := dp_mono n10.gg _ ht8
      have lk : ([(bs5.length : Int) - 2] : List Int) = [((bs5.length - 2 : Nat) : Int)] := by congr 1; omega
      refine (EvN.cast (en_cat2 (en_cat2 (en_slL (lo := none) (hi := some (p : Int)) (ed_var (i := 2) rfl hl10) eo_none (eo_some (ed_var (i := 5) rfl (.int _)))) (en_lst (ea_cons (ed_tup (ea_cons (ed_tup (ea_cons (EvD.cast (ed_op (ed_cb (ea_cons (ed_var (i := 1) rfl hb10) ea_nil) rcl_len) ed_int ro_i) (by rw [List.length_map])) ea_nil) (by show 1 ≤ sizeLine; omega)) (ea_cons (ed_var (i := 3) rfl ht10) ea_nil)) (by show 2 ≤ sizeLine; omega)) ea_nil) (by show 1 ≤ sizeLine; omega)) (by rw [cutD_to, List.length_take, List.length_map]; show _ + 1 ≤ _; omega))
        (en_slL (lo := some (p : Int)) (hi := none) (ed_var (i := 2) rfl hl10) (eo_some (ed_var (i := 5) rfl (.int _))) eo_none) (by rw [cutD_to, cutD_from, List.length_append, List.length_take, List.length_drop, List.length_map]; show _ + 1 + _ ≤ _; omega)) (es := (rs.take p ++ [([(bs5.length : Int) - 2], ws)] ++ rs.drop p).map ruleD) (by rw [cutD_to, cutD_from, List.map_append, List.map_append, List.map_take, List.map_drop]; rfl) :
        EvN K _ [some (.ref d), some vb5, some (.ref pl), some vt, x4, some (.int (p : Int))] G10 _) H11 m11.vw.gh _ fun pn vs G12 H12 n12 hp gp e ha => ?_
      obtain ⟨nt, gi⟩ := n12.tell hp gp e
      refine fin _ _ ⟨_, some (.int (p : Int)), pn, vs, rs.take p ++ [([(bs5.length : Int) - 2], ws)] ++ rs.drop p, rfl, m11.trans (Mv.nx (K := K) m11.vw m11.tb nt), dp_mono nt.gg _ hb10, upd_same, dpa_mono gi _ ha, ?_, ?_⟩
      · intro r hr
        rcases List.mem_append.mp hr with hr | hr
        · rcases List.mem_append.mp hr with hr | hr
          · exact ro r (List.mem_of_mem_take hr)
          · rw [List.mem_singleton.mp hr]
            refine ⟨by show 1 ≤ 40; omega, by show ws.length ≤ 40; omega, fun x hx => ?_, hL.le (by omega)⟩
            rw [List.mem_singleton.mp hx]
            omega
        · exact ro r (List.mem_of_mem_drop hr)
      · rw [List.length_append, List.length_append, List.length_take, List.length_drop]
        show _ + 1 + _ ≤ 40
        omega
end
end Gw
namespace Gw
open PySem PySem.Spec PyProof.Rows L2 LamX
/-! ### a change drawn; groups at their limits -/
theorem en_listT {K : PySem.W.Frag} {σ : L2.St} {G : Hp} {ds : List PyData} {i : Nat} {v : V} (h : σ[i]? = some (some v)) (hv : Dp K G v (.tuple ds)) : EvN K (tCB (rListQ K) (tCons (tVar i) tNil)) σ G ds := fun H s Q q => by
  cases hv with
  | @tup a xs _ hs ha => exact ⟨_, h, a, xs, rfl, .inr (same_tup s hs), fun p hp => q p xs G _ (Nx.lay s hp) hp (s.free hp) upd_same ha⟩
def spSomeC (K : PySem.W.Frag) : Sp := fun vs H Q _ => ∃ (G : Hp) (TQ : List (Addr × Str)) (d l c : Addr) (vb vr : V) (bs : List Int) (rs : List Rl), vs = [.ref d, vb, vr] ∧ Vw G H d l c ∧ Tabs TQ H ∧ Dp K G vb (wD bs) ∧ Dp K G vr (.list (rs.map ruleD)) ∧ IsBk bs ∧ rs.length ≤ 40 ∧
  ∀ v G' H' (cg : Chg), cg.Ok → Mv K TQ d l c G H G' H' → Dp K G' v cg.d → Q v H'
section
variable {P : Program} {w : World} {K : PySem.W.Frag} {mg : Str → Option Value} {base : Heap} {f : Addr} {fd : FuncData}
theorem ok_law_some_change (D : DefAt K mg "_law_some_change" s_law_some_change P_law_some_change f fd) (T : Bt mg) (h__law_take : Ok P w K mg base "_law_take" P_law_take 2 spTake) (h__law_word : Ok P w K mg base "_law_word" P_law_word 3 (spWordG K)) :
    Ok P w K mg base "_law_some_change" P_law_some_change 4 (spSomeC K) := by
  refine D.ok (D.F.ok sc_law_some_change (fun vs H Q E h => ?_) fun cdv A outer s H vs Q E hr h => ?_)
  · obtain ⟨G, TQ, d, l, c, vb, vr, bs, rs, rfl, _⟩ := h; rfl
  have S := sc_law_some_change
  obtain ⟨G, TQ, d, l, c, vb, vr, bs, rs, rfl, vw, tb, hb, hr', B, lr, q⟩ := h
  refine ⟨_, (pss_cons (ps_par (i := 3) (j := 4) rfl S.nd rfl rfl (by decide) rfl rfl (pa_cons (pe_ok h__law_take (hr.mono (by decide)) (by rfl) (pa_cons (pv 0) (pa_cons pe_int pa_nil))) (pa_cons (pe_op op_cat (pe_callTy (q_list K rfl) (by rfl) T.list (by decide +kernel) (pa_cons (pv 1) pa_nil)) (pe_ifExp (PW.pt (pw_and (pt_cmpR op_lt (pe_callB (q_len K rfl) (by rfl) T.len PySem.boot_len (pa_cons (pv 1) pa_nil)) pe_int (nomark _)) (pw_and1 (pt_cmpR op_eq (pe_ok h__law_take (hr.mono (by decide)) (by rfl) (pa_cons (pv 0) (pa_cons pe_int pa_nil))) pe_int (nomark _))))) (pe_lst (pa_cons pe_int pa_nil)) (pe_lst pa_nil))) pa_nil)) (by rfl))
  (pss_cons (ps_if (pt_cmpR op_eq (pv 3) pe_int (nomark _)) (pss_one (ps_ret (pe_tup (pa_cons pe_str (pa_cons (pe_ok h__law_word (hr.mono (by decide)) (by rfl) (pa_cons (pv 0) (pa_cons (pv 4) (pa_cons pe_int pa_nil)))) (pa_cons (pe_ok h__law_word (hr.mono (by decide)) (by rfl) (pa_cons (pv 0) (pa_cons (pv 1) (pa_cons pe_int pa_nil)))) pa_nil)))))) pss_nil)
  (pss_cons (ps_if (pt_cmpR op_eq (pv 3) pe_int (nomark _)) (pss_one (ps_ret (pe_tup (pa_cons pe_str (pa_cons (pe_ok h__law_take (hr.mono (by decide)) (by rfl) (pa_cons (pv 0) (pa_cons (pe_callB (call_min2 rfl) (by rfl) T.min (by decide +kernel) (pa_cons pe_int (pa_cons (pe_op op_add (pe_callB (q_len K rfl) (by rfl) T.len PySem.boot_len (pa_cons (pv 2) pa_nil)) pe_int) pa_nil))) pa_nil))) pa_nil))))) pss_nil)
  (pss_one (ps_ret (pe_ifExp (pt_cmpR op_eq (pv 3) pe_int (nomark _)) (pe_tup (pa_cons pe_str (pa_cons (pe_ok h__law_word (hr.mono (by decide)) (by rfl) (pa_cons (pv 0) (pa_cons (pv 4) (pa_cons pe_int pa_nil)))) pa_nil))) (pe_tup (pa_cons pe_str pa_nil)))))))), ?_⟩
  have big : 2000000 ≤ sizeLine := by decide
  have b2 := B.two
  have b12 := B.six
  refine seq_cut (fun σ' H' => ∃ (G5 : Hp) (p3 : Addr) (wd : List Int) (k : Int), σ' = [some (.ref d), some vb, some vr, some (.int k), some (.ref p3)] ∧ Mv K TQ d l c G H G5 H' ∧ Dp K G5 (.ref p3) (.list (wd.map .int)) ∧ 2 ≤ wd.length ∧ wd.length ≤ 12) ?_ fun fin => ?_
  rotate_left
  · refine ⟨_, rfl, d, l, c, 5, rfl, vw.dr, by decide, by decide, fun k H1 k0 k1 nd1 D1 => ?_⟩
    have m1 := Mv.nd (K := K) vw tb nd1 D1
    refine (en_listT (i := 1) rfl hb : EvN K _ (L2.start N_law_some_change [.ref d, vb, vr]) G _) H1 m1.vw.gh _ fun p vs G2 H2 n2 hp gp e ha => ?_
    obtain ⟨nt, gi⟩ := n2.tell hp gp e
    have m2 := m1.trans (Mv.nx (K := K) m1.vw m1.tb nt)
    have hp2 : upd G2 p (.lst vs) p = some (.lst vs) := upd_same
    have ha2 := dpa_mono gi _ ha
    generalize upd G2 p (.lst vs) = G3 at nt gi m2 hp2 ha2
    have cat : ∀ (G5 H5 : Hp) (p2 : Addr) (ws : List V) (e5 : List Int), Mv K TQ d l c G3 H2 G5 H5 → G5 p2 = some (.lst ws) → DpAll K G5 ws (e5.map .int) → bs.length + e5.length ≤ 12 → ∀ Q' : VK, (∀ p3 G6 H6, Mv K TQ d l c G H G6 H6 → Dp K G6 (.ref p3) (.list ((bs ++ e5).map .int)) → Q' (.ref p3) H6) → rCat (.ref p) (.ref p2) H5 Q' := fun G5 H5 p2 ws e5 m5 h5 ha5 hl Q' q' => by
      have hpp := m5.lv (o := .lst vs) (fun _ z => nomatch z) hp2
      have l1 := dpa_length (dpa_by m5.dp ha2)
      have l2 := dpa_length ha5
      rw [List.length_map] at l1 l2
      refine ⟨p, p2, vs, ws, rfl, rfl, m5.vw.gh _ _ hpp, m5.vw.gh _ _ h5, by omega, fun p3 hp3 => ?_⟩
      have n6 := Nx.new (o := .lst (vs ++ ws)) m5.vw.gh hp3
      exact q' p3 _ _ (m2.trans (m5.trans (Mv.nx (K := K) m5.vw m5.tb n6))) (by rw [List.map_append]; exact .lst (SqL.of upd_same) (dpa_append (dpa_mono n6.gg _ (dpa_by m5.dp ha2)) (dpa_mono n6.gg _ ha5)))
    have end' : ∀ (e5 : List Int), bs.length + e5.length ≤ 12 → ∀ p3 G6 H6, Mv K TQ d l c G H G6 H6 → Dp K G6 (.ref p3) (.list ((bs ++ e5).map .int)) → _ := fun e5 hl p3 G6 H6 m6 h6 => fin [some (.ref d), some vb, some vr, some (.int k), some (.ref p3)] H6 ⟨G6, p3, bs ++ e5, k, rfl, m6, h6, by rw [List.length_append]; omega, by rw [List.length_append]; exact hl⟩
    refine (EvB.cast (eb_test (ed_op (ed_cb (ea_cons (ed_var (i := 1) rfl (dp_mono nt.gg _ hb)) ea_nil) rcl_len) ed_int ro_b)) (by rw [List.length_map]) : EvB K _ (L2.start N_law_some_change [.ref d, vb, vr]) G3 (decide ((bs.length : Int) < 12))) H2 m2.vw.gh _ fun G4 H4 n4 => ?_
    have m4 := Mv.nx (K := K) m2.vw m2.tb n4
    cases hb12 : decide ((bs.length : Int) < 12) with
    | false =>
      refine iteF (iteF ⟨by show 0 ≤ sizeLine; omega, fun p2 hp2' => ?_⟩)
      have n5 := Nx.new (o := .lst []) m4.vw.gh hp2'
      exact cat _ _ p2 [] [] (m4.trans (Mv.nx (K := K) m4.vw m4.tb n5)) upd_same .nil (by show bs.length + 0 ≤ 12; omega) _ fun p3 G7 H7 m7 h7 => ⟨_, _, rfl, end' [] (by show bs.length + 0 ≤ 12; omega) p3 G7 H7 m7 h7⟩
    | true =>
      have hb12 := of_decide_eq_true hb12
      refine iteT ⟨_, rfl, d, l, c, 4, rfl, m4.vw.dr, by decide, by decide, fun k2 H5 k20 k21 nd5 D5 => ⟨rfl, _, rfl, ?_⟩⟩
      have m5 := m4.trans (Mv.nd (K := K) m4.vw m4.tb nd5 D5)
      cases decide (V.int k2 = V.int 0) with
      | false =>
        refine iteF ⟨by show 0 ≤ sizeLine; omega, fun p2 hp2' => ?_⟩
        have n6 := Nx.new (o := .lst []) m5.vw.gh hp2'
        exact cat _ _ p2 [] [] (m5.trans (Mv.nx (K := K) m5.vw m5.tb n6)) upd_same .nil (by show bs.length + 0 ≤ 12; omega) _ fun p3 G7 H7 m7 h7 => ⟨_, _, rfl, end' [] (by show bs.length + 0 ≤ 12; omega) p3 G7 H7 m7 h7⟩
      | true =>
        refine iteT ⟨by show 1 ≤ sizeLine; omega, fun p2 hp2' => ?_⟩
        have n6 := Nx.new (o := .lst [V.int 0]) m5.vw.gh hp2'
        exact cat _ _ p2 [.int 0] [0] (m5.trans (Mv.nx (K := K) m5.vw m5.tb n6)) upd_same (.cons (.int 0) .nil) (by show bs.length + 1 ≤ 12; omega) _ fun p3 G7 H7 m7 h7 => ⟨_, _, rfl, end' [0] (by show bs.length + 1 ≤ 12; omega) p3 G7 H7 m7 h7⟩
  rintro σ' H5 ⟨G5, p3, wd, k, rfl, m5, hw, w2, w12⟩
  have hb5 := m5.dp hb
  have hr5 := m5.dp hr'
  refine seq_ifB (K := K) (G := G5) (b := decide (k = 0)) (eb_test (ed_op (ed_var (i := 3) rfl (.int k)) ed_int ro_eqI)) m5.vw.gh (fun _ Ga Ha na => ?_) fun _ Ga Ha na => ?_
  · have ma := m5.trans (Mv.nx (K := K) m5.vw m5.tb na)
    obtain ⟨b, eb, hB⟩ := word_at ma.vw (.inr (dp_mono na.gg _ hw))
    refine ⟨_, rfl, _, rfl, d, l, c, b, _, 5, by rw [← eb]; rfl, ma.vw.dr, hB, by rw [List.length_map]; omega, by rw [List.length_map]; omega, by decide, by decide, fun p w1 H7 e1 e2 e3 e4 e5 e6 => ?_⟩
    obtain ⟨m7, hu⟩ := word_mv (K := K) ma.vw ma.tb e3 e4 e5 e6
    rw [List.length_map] at e2
    have m57 := ma.trans m7
    obtain ⟨b', eb', hB'⟩ := word_at m57.vw (.inl (m57.dp hb))
    refine ⟨_, rfl, _, rfl, d, l, c, b', _, 5, by rw [← eb']; rfl, m57.vw.dr, hB', by rw [List.length_map]; omega, by rw [List.length_map]; omega, by decide, by decide, fun p2 w2' H8 e7 e8 e9 e10 e11 e12 => ?_⟩
    obtain ⟨m8, hu2⟩ := word_mv (K := K) m57.vw m57.tb e9 e10 e11 e12
    rw [List.length_map] at e8
    refine ⟨by show 3 ≤ sizeLine; omega, fun t ht => ?_⟩
    have m78 := m57.trans m8
    have n9 := Nx.new (o := .tup [.str "put", .ref p, .ref p2]) m78.vw.gh ht
    exact q _ _ _ (.put w1 w2') ⟨⟨e2.le w12, by omega⟩, e8.le b12, by omega⟩ (m78.trans (Mv.nx (K := K) m78.vw m78.tb n9)) (.tup (SqT.of upd_same) (.cons (.str _) (.cons (dp_mono n9.gg _ (m8.dp hu)) (.cons (dp_mono n9.gg _ hu2) .nil))))
  have ma := m5.trans (Mv.nx (K := K) m5.vw m5.tb na)
  refine seq_ifB (K := K) (G := Ga) (b := decide (k = 1)) (eb_test (ed_op (ed_var (i := 3) rfl (.int k)) ed_int ro_eqI)) na.gh (fun _ Gb Hb nb => ?_) fun _ Gb Hb nb => ?_
  · have mb := ma.trans (Mv.nx (K := K) ma.vw ma.tb nb)
    refine ⟨_, rfl, (EvD.cast (ed_op (ed_cb (ea_cons (ed_var (i := 2) rfl (mb.dp hr')) ea_nil) rcl_lenL) ed_int ro_i) (by rw [List.length_map]) : EvD K _ [some (.ref d), some vb, some vr, some (.int k), some (.ref p3)] Gb (.int ((rs.length : Int) + 1))) Hb mb.vw.gh _ fun vn Gc Hc nc hn => ?_⟩
    rw [dp_int hn]
    have mc := mb.trans (Mv.nx (K := K) mb.vw mb.tb nc)
    refine ⟨40, (rs.length : Int) + 1, rfl, d, l, c, _, rfl, mc.vw.dr, by split <;> omega, by split <;> omega, fun m Hd m0 m1 nd7 D7 => ?_⟩
    have m1 : m < 40 := by
      split at m1 <;> omega
    have md := mc.trans (Mv.nd (K := K) mc.vw mc.tb nd7 D7)
    refine ⟨by show 2 ≤ sizeLine; omega, fun t ht => ?_⟩
    have n9 := Nx.new (o := .tup [.str "drop", .int m]) md.vw.gh ht
    refine q _ _ _ (.drop m.toNat) (by show m.toNat ≤ 39; omega) (md.trans (Mv.nx (K := K) md.vw md.tb n9)) ?_
    show Dp K _ _ (.tuple [.str "drop", .int ((m.toNat : Nat) : Int)])
    rw [show ((m.toNat : Nat) : Int) = m by omega]
    exact .tup (SqT.of upd_same) (.cons (.str _) (.cons (.int m) .nil))
  have mb := ma.trans (Mv.nx (K := K) ma.vw ma.tb nb)
  refine (eb_test (ed_op (ed_var (i := 3) rfl (.int k)) ed_int ro_eqI) : EvB K _ [some (.ref d), some vb, some vr, some (.int k), some (.ref p3)] Gb (decide (k = 2))) Hb mb.vw.gh _ fun Gc Hc nc => ?_
  have mc := mb.trans (Mv.nx (K := K) mb.vw mb.tb nc)
  cases decide (k = 2) with
  | true =>
    obtain ⟨b, eb, hB⟩ := word_at mc.vw (.inr (dp_mono (na.gg.trans (nb.gg.trans nc.gg)) _ hw))
    refine iteT ⟨_, rfl, _, rfl, d, l, c, b, _, 4, by rw [← eb]; rfl, mc.vw.dr, hB, by rw [List.length_map]; omega, by rw [List.length_map]; omega, by decide, by decide, fun p w1 H7 e1 e2 e3 e4 e5 e6 => ?_⟩
    obtain ⟨m7, hu⟩ := word_mv (K := K) mc.vw mc.tb e3 e4 e5 e6
    rw [List.length_map] at e2
    have m57 := mc.trans m7
    refine ⟨by show 2 ≤ sizeLine; omega, fun t ht => ?_⟩
    have n9 := Nx.new (o := .tup [.str "letter", .ref p]) m57.vw.gh ht
    exact q _ _ _ (.letter w1) ⟨e2.le w12, by omega⟩ (m57.trans (Mv.nx (K := K) m57.vw m57.tb n9)) (.tup (SqT.of upd_same) (.cons (.str _) (.cons (dp_mono n9.gg _ hu) .nil)))
  | false =>
    refine iteF ⟨by show 1 ≤ sizeLine; omega, fun t ht => ?_⟩
    have n9 := Nx.new (o := .tup [.str "unletter"]) mc.vw.gh ht
    exact q _ _ _ .unletter trivial (mc.trans (Mv.nx (K := K) mc.vw mc.tb n9)) (.tup (SqT.of upd_same) (.cons (.str _) .nil))
end
end Gw
namespace Gw
open PySem PySem.Spec PyProof.Rows L2 LamX
/-! ### groups at their limits -/
theorem rep_ints (n : Nat) (x : Int) : (List.replicate n [PyData.int x]).flatten = (List.replicate n x).map PyData.int := by
  induction n with
  | zero => rfl
  | succ n ih => rw [List.replicate_succ, List.replicate_succ, List.flatten_cons, ih]; rfl
theorem let_rep {m n : Nat} {x : Int} (h : 0 ≤ x ∧ x < (m : Int)) : Letters m (List.replicate n x) := fun y hy => by rw [List.eq_of_mem_replicate hy]; exact h
section
variable {σ : L2.St} {H : Hp} {t : TE} {r : TA} {Q : VK} {QL : List V → Hp → Prop}
theorem tcons_of (h : t σ H fun v H1 => r σ H1 fun vs H2 => QL (v :: vs) H2) : tCons t r σ H QL := h
theorem tlst_of (h : r σ H fun xs H1 => xs.length ≤ sizeLine ∧ ∀ p, H1 p = none → Q (.ref p) (upd H1 p (.lst xs))) : tLst r σ H Q := h
theorem top_of {rr : R2} {ta tb : TE} (h : ta σ H fun x H1 => tb σ H1 fun y H2 => rr x y H2 Q) : tOp rr ta tb σ H Q := h
theorem lc_rng_of {g : TG} {tt : TT} {te tl : TE} {vs : List Nat} (h : tl σ H fun x H1 => tLc (iRng1 (tCons (tC x) tNil)) g tt te vs σ H1 Q) : tLc (iRng1 (tCons tl tNil)) g tt te vs σ H Q := h
theorem ttup_of (h : r σ H fun xs H1 => xs.length ≤ sizeLine ∧ ∀ p, H1 p = none → Q (.ref p) (upd H1 p (.tup xs))) : tTup r σ H Q := h
end
section
variable {P : Program} {w : World} {K : PySem.W.Frag} {mg : Str → Option Value} {base : Heap} {f : Addr} {fd : FuncData}
theorem ok_law_full_group (D : DefAt K mg "_law_full_group" s_law_full_group P_law_full_group f fd) (T : Bt mg) (h__law_take : Ok P w K mg base "_law_take" P_law_take 2 spTake) (h__law_pick : Ok P w K mg base "_law_pick" P_law_pick 3 (spPickG K)) (h__law_word : Ok P w K mg base "_law_word" P_law_word 3 (spWordG K)) :
    Ok P w K mg base "_law_full_group" P_law_full_group 4 (spSomeG K) := by
  refine D.ok (D.F.ok sc_law_full_group (fun vs H Q E h => ?_) fun cdv A outer s H vs Q E hr h => ?_)
  · obtain ⟨G, TQ, d, l, c, rfl, _⟩ := h; rfl
  have S := sc_law_full_group
  obtain ⟨G, TQ, d, l, c, rfl, vw, tb, q⟩ := h
  refine ⟨_, (pss_cons (ps_set (i := 1) S.nd rfl (by first | exact .inl rfl | exact .inr rfl) (pe_ok h__law_take (hr.mono (by decide)) (by rfl) (pa_cons (pv 0) (pa_cons pe_int pa_nil))))
  (pss_cons (ps_if (pt_cmpR op_eq (pv 1) pe_int (nomark _)) (pss_cons (ps_set (i := 2) S.nd rfl (by first | exact .inl rfl | exact .inr rfl) (pe_ok h__law_pick (hr.mono (by decide)) (by rfl) (pa_cons (pv 0) (pa_cons (pe_lst (pa_cons pe_int (pa_cons pe_int (pa_cons pe_int pa_nil)))) pa_nil))))
  (pss_one (ps_ret (pe_tup (pa_cons (pe_op (q_catT K rfl) (pe_tupRg rfl (by rfl) T.tuple (prg_1 (by rfl) T.range (pe_op op_sub (pv 2) pe_int))) (pe_tup (pa_cons (pe_op op_sub (pv 2) pe_int) (pa_cons (pe_op op_sub (pv 2) pe_int) pa_nil)))) (pa_cons (pe_lst (pa_cons (pe_tup (pa_cons (pe_tup (pa_cons (pe_op op_sub (pv 2) pe_int) pa_nil)) (pa_cons (pe_ok h__law_word (hr.mono (by decide)) (by rfl) (pa_cons (pv 0) (pa_cons (pe_tupRg rfl (by rfl) T.tuple (prg_1 (by rfl) T.range (pe_op op_sub (pv 2) pe_int))) (pa_cons pe_int pa_nil)))) pa_nil))) pa_nil)) pa_nil)))))) pss_nil)
  (pss_cons (ps_set (i := 3) S.nd rfl (by first | exact .inl rfl | exact .inr rfl) (pe_tup (pa_cons pe_int (pa_cons pe_int (pa_cons pe_int (pa_cons pe_int pa_nil))))))
  (pss_cons (ps_if (pt_cmpR op_eq (pv 1) pe_int (nomark _)) (pss_one (ps_ret (pe_tup (pa_cons (pv 3) (pa_cons (pe_op op_cat (pe_lst (pa_cons (pe_tup (pa_cons (pe_tup (pa_cons pe_int pa_nil)) (pa_cons (pe_tup (pa_cons pe_int (pa_cons pe_int pa_nil))) pa_nil))) pa_nil)) (pe_lc (own := [("k", 4)]) (g := gName 4) (by rfl) S.nd  (pi_range1 (by rfl) T.range (pa_cons (pe_op op_add pe_int (pe_ok h__law_take (hr.mono (by decide)) (by rfl) (pa_cons (pv 0) (pa_cons pe_int pa_nil)))) pa_nil)) (blkOk_by (N := N_law_full_group) (sc := defScope s_law_full_group) (by decide +kernel)) (fun _ _ _ _ _ => (pg_name (i := 4) S.nd rfl (by first | exact .inl rfl | exact .inr rfl))) (fun _ _ _ _ _ => pts_nil) (fun _ _ _ _ _ => (pe_tup (pa_cons (pe_op (q_repA K rfl) (pe_tup (pa_cons pe_int pa_nil)) (pe_op op_add (pv 4) pe_int)) (pa_cons (pe_tup pa_nil) pa_nil)))))) pa_nil))))) pss_nil)
  (pss_cons (ps_par (i := 2) (j := 5) rfl S.nd rfl rfl (by decide) rfl rfl (pa_cons (pe_ok h__law_pick (hr.mono (by decide)) (by rfl) (pa_cons (pv 0) (pa_cons (pe_lst (pa_cons pe_int (pa_cons pe_int (pa_cons pe_int (pa_cons pe_int (pa_cons pe_int pa_nil)))))) pa_nil))) (pa_cons (pe_ok h__law_take (hr.mono (by decide)) (by rfl) (pa_cons (pv 0) (pa_cons pe_int pa_nil))) pa_nil)) (by rfl))
  (pss_cons (ps_set (i := 6) S.nd rfl (by first | exact .inl rfl | exact .inr rfl) (pe_op (q_catT K rfl) (pe_op (q_repA K rfl) (pe_tup (pa_cons pe_int pa_nil)) pe_int) (pe_op (q_repA K rfl) (pe_tup (pa_cons pe_int pa_nil)) (pe_ok h__law_take (hr.mono (by decide)) (by rfl) (pa_cons (pv 0) (pa_cons pe_int pa_nil))))))
  (pss_one (ps_ret (pe_tup (pa_cons (pv 3) (pa_cons (pe_lst (pa_cons (pe_tup (pa_cons (pe_op (q_catT K rfl) (pe_op (q_catT K rfl) (pe_tup (pa_cons pe_int (pa_cons pe_int pa_nil))) (pe_op (q_repA K rfl) (pe_tup (pa_cons pe_int pa_nil)) (pv 2))) (pe_op (q_repA K rfl) (pe_tup (pa_cons pe_int pa_nil)) (pv 5))) (pa_cons (pv 6) pa_nil))) (pa_cons (pe_tup (pa_cons (pe_tup (pa_cons pe_int pa_nil)) (pa_cons (pe_tup (pa_cons pe_int (pa_cons pe_int (pa_cons pe_int pa_nil)))) pa_nil))) pa_nil))) pa_nil))))))))))), ?_⟩
  have big : 2000000 ≤ sizeLine := by decide
  refine ⟨_, rfl, d, l, c, 3, rfl, vw.dr, by decide, by decide, fun ch H1 ch0 ch1 nd1 D1 => ?_⟩
  have m1 := Mv.nd (K := K) vw tb nd1 D1
  dsimp only [gName, List.set_cons_succ, List.set_cons_zero]
  refine seq_ifB (K := K) (G := G) (b := decide (ch = 0)) (eb_test (ed_op (ed_var (i := 1) rfl (.int ch)) ed_int ro_eqI)) m1.vw.gh (fun _ Ga Ha na => ?_) fun _ Ga Ha na => ?_
  · have ma := m1.trans (Mv.nx (K := K) m1.vw m1.tb na)
    refine ⟨_, rfl, (ed_lst (ea_cons ed_int (ea_cons ed_int (ea_cons ed_int ea_nil))) (by show 3 ≤ sizeLine; omega) : EvD K _ [some (.ref d), some (.int ch), none, none, none, none, none] Ga (.list [.int 10, .int 11, .int 12])) Ha ma.vw.gh _ fun vl Gb Hb nb hl => ?_⟩
    have mb := ma.trans (Mv.nx (K := K) ma.vw ma.tb nb)
    refine pickD_go (E := E0) mb.vw mb.tb hl (by decide) (by decide) fun vm x Hc hx hvm mc => ?_
    obtain ⟨n, rfl, n2, n12⟩ : ∃ n : Nat, x = .int ((n : Int) + 2) ∧ 2 ≤ n ∧ n ≤ 10 := by
      simp only [List.mem_cons, List.not_mem_nil, or_false] at hx
      rcases hx with rfl | rfl | rfl
      · exact ⟨8, rfl, by decide, by decide⟩
      · exact ⟨9, rfl, by decide, by decide⟩
      · exact ⟨10, rfl, by decide, by decide⟩
    have hvm := dp_int hvm
    subst hvm
    have m2 := mb.trans mc
    dsimp only [gName, List.set_cons_succ, List.set_cons_zero]
    have en : ∀ {Gx : Hp}, EvD K (tOp (rI0 fun i j => .int (i - j)) (tVar 2) (tC (.int 2))) [some (.ref d), some (.int ch), some (.int ((n : Int) + 2)), none, none, none, none] Gx (.int (n : Int)) := EvD.cast (ed_op (ed_var (i := 2) rfl (.int _)) ed_int ro_i) (by congr 1; omega)
    have erg : ∀ {Gx : Hp}, EvD K (tTupRg (tRg1 (tOp (rI0 fun i j => .int (i - j)) (tVar 2) (tC (.int 2))))) [some (.ref d), some (.int ch), some (.int ((n : Int) + 2)), none, none, none, none] Gx (wD ((List.range n).map fun (i : Nat) => (i : Int))) := EvD.cast (ed_tupRg en (by omega) (by omega)) (by rw [Int.toNat_natCast]; show _ = PyData.tuple _; rw [List.map_map]; rfl)
    have B0 := bk_range n n2 (by omega)
    have lb0 : ((List.range n).map fun (i : Nat) => (i : Int)).length = n := by rw [List.length_map, List.length_range]
    have B := B0.more (by rw [lb0]; omega)
    rw [lb0] at B
    refine (EvD.cast (ed_op (z := .tuple (((List.range n).map fun (i : Nat) => (i : Int)).map .int ++ ([(n : Int) + 1, (n : Int)] : List Int).map .int)) erg (ed_tup (ea_cons (EvD.cast (ed_op (ed_var (i := 2) rfl (.int _)) ed_int ro_i) (z := .int ((n : Int) + 1)) (by congr 1; omega)) (ea_cons en ea_nil)) (by show 2 ≤ sizeLine; omega)) (ro_cat (by rw [List.length_map, lb0]; show n + 2 ≤ _; omega))) (z := wD (((List.range n).map fun (i : Nat) => (i : Int)) ++ [(n : Int) + 1, (n : Int)])) (by show PyData.tuple _ = PyData.tuple _; rw [List.map_append]) : EvD K _ [some (.ref d), some (.int ch), some (.int ((n : Int) + 2)), none, none, none, none] Gb _) Hc m2.vw.gh _ fun vb G3 H3 n3 hb3 => ?_
    have m3 := m2.trans (Mv.nx (K := K) m2.vw m2.tb n3)
    refine tcons_of (tlst_of (tcons_of (ttup_of (tcons_of ?_))))
    refine (ed_tup (ea_cons en ea_nil) (by show 1 ≤ sizeLine; omega) : EvD K _ [some (.ref d), some (.int ch), some (.int ((n : Int) + 2)), none, none, none, none] G3 (wD [(n : Int)])) H3 m3.vw.gh _ fun v1 G4 H4 n4 hv1 => ?_
    have m4 := m3.trans (Mv.nx (K := K) m3.vw m3.tb n4)
    refine ⟨_, rfl, (erg : EvD K _ _ G4 _) H4 m4.vw.gh _ fun v2 G5 H5 n5 hv2 => ?_⟩
    have m5 := m4.trans (Mv.nx (K := K) m4.vw m4.tb n5)
    obtain ⟨b, eb, hB⟩ := word_at m5.vw (.inl hv2)
    refine ⟨d, l, c, b, _, 3, by rw [← eb]; rfl, m5.vw.dr, hB, by rw [List.length_map, lb0]; omega, by rw [List.length_map, lb0]; omega, by decide, by decide, fun p w1 H7 e1 e2 e3 e4 e5 e6 => ?_⟩
    obtain ⟨m7, hu⟩ := word_mv (K := K) m5.vw m5.tb e3 e4 e5 e6
    rw [List.length_map, lb0] at e2
    have m57 := m5.trans m7
    refine ⟨by show 2 ≤ sizeLine; omega, fun t ht => ⟨by show 1 ≤ sizeLine; omega, fun lr hlr => ⟨by show 2 ≤ sizeLine; omega, fun t2 ht2 => ?_⟩⟩⟩
    have n8 := Nx.new (o := .tup [v1, .ref p]) m57.vw.gh ht
    have n9 := n8.trans (Nx.new (o := .lst [.ref t]) n8.gh hlr)
    have n10 := n9.trans (Nx.new (o := .tup [vb, .ref lr]) n9.gh ht2)
    have g57 := n4.gg.trans n5.gg
    have hb10 := dp_mono n10.gg _ (m7.dp (dp_mono g57 _ hb3))
    have n89 : Same (upd (upd G5 p (.tup (w1.map V.int))) t (.tup [v1, .ref p])) _ := (Nx.new (o := .lst [.ref t]) n8.gh hlr).gg.trans (Nx.new (o := .tup [vb, .ref lr]) n9.gh ht2).gg
    have n9' : Same (upd (upd (upd G5 p (.tup (w1.map V.int))) t (.tup [v1, .ref p])) lr (.lst [.ref t])) _ := (Nx.new (o := .tup [vb, .ref lr]) n9.gh ht2).gg
    refine q t2 vb lr [.ref t] _ _ _ [([(n : Int)], w1)] ⟨B, fun r hr => ?_, by show 1 ≤ 40; omega⟩ (m57.trans (Mv.nx (K := K) m57.vw m57.tb n10)) (SqT.of upd_same) hb10 (n9' _ _ upd_same) (.cons ?_ .nil)
    · rw [List.mem_singleton.mp hr]
      rw [List.length_append, lb0]
      refine ⟨by show 1 ≤ 40; omega, by show w1.length ≤ 40; omega, fun x hx => ?_, e2.le (by omega)⟩
      rw [List.mem_singleton.mp hx]
      show 0 ≤ (n : Int) ∧ (n : Int) < ((n + 2 : Nat) : Int)
      omega
    · exact .tup (SqT.of (n89 _ _ upd_same)) (.cons (dp_mono n10.gg _ (m7.dp (dp_mono n5.gg _ hv1))) (.cons (dp_mono n10.gg _ hu) .nil))
  have ma := m1.trans (Mv.nx (K := K) m1.vw m1.tb na)
  refine seq_let (K := K) (G := Ga) (i := 3) (d := wD [1, 0, 3, 2]) (ed_tup (ea_cons ed_int (ea_cons ed_int (ea_cons ed_int (ea_cons ed_int ea_nil)))) (by show 4 ≤ sizeLine; omega)) ma.vw.gh fun vb Gb Hb nb hb => ?_
  have mb := ma.trans (Mv.nx (K := K) ma.vw ma.tb nb)
  have B4 : IsBk [1, 0, 3, 2] := bk_of rfl rfl (by decide +kernel)
  try dsimp only [gName, List.set_cons_succ, List.set_cons_zero]
  refine seq_ifB (K := K) (G := Gb) (b := decide (ch = 1)) (eb_test (ed_op (ed_var (i := 1) rfl (.int ch)) ed_int ro_eqI)) mb.vw.gh (fun _ Gc Hc nc => ?_) fun _ Gc Hc nc => ?_
  · have mc := mb.trans (Mv.nx (K := K) mb.vw mb.tb nc)
    refine ⟨_, rfl, tcons_of (top_of ?_)⟩
    refine (en_lst (ea_cons (ed_tup (ea_cons (ed_tup (ea_cons ed_int ea_nil) (by show 1 ≤ sizeLine; omega)) (ea_cons (ed_tup (ea_cons ed_int (ea_cons ed_int ea_nil)) (by show 2 ≤ sizeLine; omega)) ea_nil)) (by show 2 ≤ sizeLine; omega)) ea_nil) (by show 1 ≤ sizeLine; omega) : EvN K _ [some (.ref d), some (.int ch), none, some vb, none, none, none] Gc [ruleD ([2], [0, 0])]) Hc mc.vw.gh _ fun p1 vs1 G1 H2 n1 hp1 gp1 e1 ha1 => ?_
    obtain ⟨nt1, gi1⟩ := n1.tell hp1 gp1 e1
    have m1' := mc.trans (Mv.nx (K := K) mc.vw mc.tb nt1)
    have ep1 : upd G1 p1 (.lst vs1) p1 = some (.lst vs1) := upd_same
    have ha1 := dpa_mono gi1 _ ha1
    generalize upd G1 p1 (.lst vs1) = G2 at nt1 m1' ep1 ha1
    refine lc_rng_of ⟨_, rfl, d, l, c, 2, rfl, m1'.vw.dr, by decide, by decide, fun k H3 k0 k1 nd3 D3 => ⟨_, _, rfl, rfl, ?_⟩⟩
    have m3 := m1'.trans (Mv.nd (K := K) m1'.vw m1'.tb nd3 D3)
    refine (en_lcR1 (i := 4) (m := 38 + k) (fun k => ruleD (List.replicate (k + 1) 0, [])) ed_int (fun _ => rfl) (by omega) (by omega) (fun k' Gi hk g => ?_) : EvN K _ [some (.ref d), some (.int ch), none, some vb, none, none, none] G2 _) H3 m3.vw.gh _ fun p2 vs2 G4 H4 n4 hp2 gp2 e2 ha2 => ?_
    · refine ed_tup (ea_cons (EvD.cast (ed_op (z := .tuple (List.replicate ((k' : Int) + 1).toNat [PyData.int 0]).flatten) (ed_tup (ea_cons ed_int ea_nil) (by show 1 ≤ sizeLine; omega)) (ed_op (ed_var (i := 4) rfl (.int _)) ed_int ro_i) (ro_repA (fun z => nomatch z) (by decide) (by omega) (by omega))) ?_) (ea_cons (ed_tup ea_nil (Nat.zero_le _)) ea_nil)) (by show 2 ≤ sizeLine; omega)
      rw [rep_ints, show ((k' : Int) + 1).toNat = k' + 1 by omega]
    have m4 := m3.trans (Mv.nx (K := K) m3.vw m3.tb n4)
    have l1 := dpa_length ha1
    have l2 := dpa_length ha2
    rw [List.length_map, List.length_range] at l2
    have ep4 := n4.gg _ _ ep1
    refine ⟨p1, p2, vs1, vs2, rfl, rfl, n4.gh _ _ ep4, e2, by rw [l1, l2]; show 1 + _ ≤ _; omega, fun p3 hp3 => ⟨by show 2 ≤ sizeLine; omega, fun t ht => ?_⟩⟩
    have n5 := Nx.new (o := .lst (vs1 ++ vs2)) m4.vw.gh hp3
    have n6 := Nx.new (o := .tup [vb, .ref p3]) n5.gh ht
    have n56 := n5.trans n6
    refine q t vb p3 (vs1 ++ vs2) _ _ [1, 0, 3, 2] (([2], [0, 0]) :: (List.range (38 + k).toNat).map fun k => (List.replicate (k + 1) 0, [])) ⟨B4, fun r hr => ?_, by rw [List.length_cons, List.length_map, List.length_range]; omega⟩ (m4.trans (Mv.nx (K := K) m4.vw m4.tb n56)) (SqT.of upd_same) (dp_mono (nc.gg.trans (nt1.gg.trans (n4.gg.trans n56.gg))) _ hb) (n6.gg _ _ upd_same) ?_
    · rcases List.mem_cons.mp hr with rfl | hr
      · exact ⟨by decide, by decide, (lets_iff (n := 4) (ws := [2])).mp rfl, (lets_iff (n := 4) (ws := [0, 0])).mp rfl⟩
      · obtain ⟨k', hk', rfl⟩ := List.mem_map.mp hr
        have hk' := List.mem_range.mp hk'
        exact ⟨by show (List.replicate (k' + 1) (0 : Int)).length ≤ 40; rw [List.length_replicate]; omega, Nat.zero_le _, let_rep (by decide), fun x hx => nomatch hx⟩
    · rw [List.map_cons, List.map_map]
      exact dpa_append (dpa_mono (n4.gg.trans n56.gg) _ ha1) (dpa_mono n56.gg _ ha2)
  have mc := mb.trans (Mv.nx (K := K) mb.vw mb.tb nc)
  refine ⟨_, rfl, (ed_lst (ea_cons ed_int (ea_cons ed_int (ea_cons ed_int (ea_cons ed_int (ea_cons ed_int ea_nil))))) (by show 5 ≤ sizeLine; omega) : EvD K _ [some (.ref d), some (.int ch), none, some vb, none, none, none] Gc (.list [.int 10, .int 11, .int 11, .int 12, .int 13])) Hc mc.vw.gh _ fun vl Gd Hd nd hl => ?_⟩
  have md := mc.trans (Mv.nx (K := K) mc.vw mc.tb nd)
  refine pickD_go (E := E0) md.vw md.tb hl (by decide) (by decide) fun vm x He hx hvm me => ?_
  obtain ⟨n, rfl, n13⟩ : ∃ n : Nat, x = .int (n : Int) ∧ n ≤ 13 := by
    simp only [List.mem_cons, List.not_mem_nil, or_false] at hx
    rcases hx with rfl | rfl | rfl | rfl | rfl
    · exact ⟨10, rfl, by decide⟩
    · exact ⟨11, rfl, by decide⟩
    · exact ⟨11, rfl, by decide⟩
    · exact ⟨12, rfl, by decide⟩
    · exact ⟨13, rfl, by decide⟩
  have hvm := dp_int hvm
  subst hvm
  have m2 := md.trans me
  refine ⟨_, rfl, d, l, c, 3, rfl, m2.vw.dr, by decide, by decide, fun more H3 o0 o1 nd3 D3 => ⟨_, _, rfl, ?_⟩⟩
  have m3 := m2.trans (Mv.nd (K := K) m2.vw m2.tb nd3 D3)
  dsimp only [gName, List.set_cons_succ, List.set_cons_zero]
  refine seq_asg (top_of ?_)
  refine (EvD.cast (ed_op (z := .tuple (List.replicate (13 : Int).toNat [PyData.int 3]).flatten) (ed_tup (ea_cons ed_int ea_nil) (by show 1 ≤ sizeLine; omega)) ed_int (ro_repA (fun z => nomatch z) (by decide) (by decide) (by decide))) (by rw [rep_ints]; rfl) : EvD K _ [some (.ref d), some (.int ch), some (.int (n : Int)), some vb, none, some (.int more), none] Gd (wD (List.replicate 13 3))) H3 m3.vw.gh _ fun v1 G4 H4 n4 hv1 => ?_
  have m4 := m3.trans (Mv.nx (K := K) m3.vw m3.tb n4)
  refine top_of ?_
  refine (ed_tup (ea_cons ed_int ea_nil) (by show 1 ≤ sizeLine; omega) : EvD K _ [some (.ref d), some (.int ch), some (.int (n : Int)), some vb, none, some (.int more), none] G4 (.tuple [.int 1])) H4 m4.vw.gh _ fun v2 G5 H5 n5 hv2 => ?_
  have m5 := m4.trans (Mv.nx (K := K) m4.vw m4.tb n5)
  refine ⟨_, rfl, d, l, c, 3, rfl, m5.vw.dr, by decide, by decide, fun k H6 k0 k1 nd6 D6 => ?_⟩
  have m6 := m5.trans (Mv.nd (K := K) m5.vw m5.tb nd6 D6)
  refine (ro_repA (K := K) (ds := [.int 1]) (k := k) (fun z => nomatch z) (by decide) (by omega) (by omega)) G5 H6 m6.vw.gh v2 (.int k) hv2 (.int k) _ fun v3 G7 H7 n7 hv3 => ?_
  have m7 := m6.trans (Mv.nx (K := K) m6.vw m6.tb n7)
  rw [rep_ints] at hv3
  refine (ro_cat (K := K) (ds := (List.replicate 13 (3 : Int)).map .int) (es := (List.replicate k.toNat (1 : Int)).map .int) (by rw [List.length_map, List.length_map, List.length_replicate, List.length_replicate]; omega)) G7 H7 m7.vw.gh v1 v3 (dp_mono (n5.gg.trans n7.gg) _ hv1) hv3 _ fun v4 G8 H8 n8 hv4 => ?_
  have m8 := m7.trans (Mv.nx (K := K) m7.vw m7.tb n8)
  rw [← List.map_append] at hv4
  try dsimp only [gName, List.set_cons_succ, List.set_cons_zero]
  refine ⟨_, rfl, tcons_of ?_⟩
  have cat1 : EvD K (tOp (rCatA K) (tOp (rCatA K) (tTup (tCons (tC (.int 3)) (tCons (tC (.int 2)) tNil))) (tOp (rRepA K) (tTup (tCons (tC (.int 2)) tNil)) (tVar 2))) (tOp (rRepA K) (tTup (tCons (tC (.int 0)) tNil)) (tVar 5))) [some (.ref d), some (.int ch), some (.int (n : Int)), some vb, none, some (.int more), some v4] G8 (wD (([3, 2] ++ List.replicate n 2) ++ List.replicate more.toNat 0)) := by
    refine EvD.cast (ed_op (z := .tuple ((([3, 2] ++ List.replicate n 2 : List Int).map .int) ++ (List.replicate more.toNat (0 : Int)).map .int)) (EvD.cast (ed_op (z := .tuple (([3, 2] : List Int).map .int ++ (List.replicate n (2 : Int)).map .int)) (ed_tup (ea_cons ed_int (ea_cons ed_int ea_nil)) (by show 2 ≤ sizeLine; omega)) (EvD.cast (ed_op (z := .tuple (List.replicate ((n : Int)).toNat [PyData.int 2]).flatten) (ed_tup (ea_cons ed_int ea_nil) (by show 1 ≤ sizeLine; omega)) (ed_var (i := 2) rfl (.int _)) (ro_repA (fun z => nomatch z) (by decide) (by omega) (by omega))) (by rw [rep_ints, Int.toNat_natCast])) (ro_cat (by rw [List.length_map, List.length_replicate]; show 2 + n ≤ _; omega))) (by rw [List.map_append]))
      (EvD.cast (ed_op (z := .tuple (List.replicate more.toNat [PyData.int 0]).flatten) (ed_tup (ea_cons ed_int ea_nil) (by show 1 ≤ sizeLine; omega)) (ed_var (i := 5) rfl (.int _)) (ro_repA (fun z => nomatch z) (by decide) (by omega) (by omega))) (by rw [rep_ints])) (ro_cat (by rw [List.length_map, List.length_map, List.length_append, List.length_replicate, List.length_replicate]; show 2 + n + _ ≤ _; omega))) (by show PyData.tuple _ = PyData.tuple _; rw [List.map_append, List.map_append, List.map_append])
  refine (en_lst (ea_cons (ed_tup (ea_cons cat1 (ea_cons (ed_var (i := 6) rfl hv4) ea_nil)) (by show 2 ≤ sizeLine; omega)) (ea_cons (ed_tup (ea_cons (ed_tup (ea_cons ed_int ea_nil) (by show 1 ≤ sizeLine; omega)) (ea_cons (ed_tup (ea_cons ed_int (ea_cons ed_int (ea_cons ed_int ea_nil))) (by show 3 ≤ sizeLine; omega)) ea_nil)) (by show 2 ≤ sizeLine; omega)) ea_nil)) (by show 2 ≤ sizeLine; omega) : EvN K _ _ G8 [ruleD (([3, 2] ++ List.replicate n 2) ++ List.replicate more.toNat 0, List.replicate 13 3 ++ List.replicate k.toNat 1), ruleD ([2], [0, 0, 0])]) H8 m8.vw.gh _ fun p vs G9 H9 n9 hp gp e ha => ⟨by show 2 ≤ sizeLine; omega, fun t ht => ?_⟩
  obtain ⟨nt, gi⟩ := n9.tell hp gp e
  have n10 := Nx.new (o := .tup [vb, .ref p]) nt.gh ht
  refine q t vb p vs _ _ [1, 0, 3, 2] [(([3, 2] ++ List.replicate n 2) ++ List.replicate more.toNat 0, List.replicate 13 3 ++ List.replicate k.toNat 1), ([2], [0, 0, 0])] ⟨B4, fun r hr => ?_, by show 2 ≤ 40; decide⟩ (m8.trans (Mv.nx (K := K) m8.vw m8.tb (nt.trans n10))) (SqT.of upd_same) (dp_mono (nc.gg.trans (nd.gg.trans (n4.gg.trans (n5.gg.trans (n7.gg.trans (n8.gg.trans (nt.gg.trans n10.gg))))))) _ hb) (n10.gg _ _ upd_same) (dpa_mono (gi.trans n10.gg) _ ha)
  rcases List.mem_cons.mp hr with rfl | hr
  · refine ⟨by show (([3, 2] ++ List.replicate n 2) ++ List.replicate more.toNat 0 : List Int).length ≤ 40; rw [List.length_append, List.length_append, List.length_replicate, List.length_replicate]; show 2 + n + _ ≤ 40; omega, by show (List.replicate 13 3 ++ List.replicate k.toNat 1 : List Int).length ≤ 40; rw [List.length_append, List.length_replicate, List.length_replicate]; omega, fun x hx => ?_, fun x hx => ?_⟩
    · rcases List.mem_append.mp hx with hx | hx
      · rcases List.mem_append.mp hx with hx | hx
        · exact (lets_iff (n := 4) (ws := [3, 2])).mp rfl x hx
        · exact let_rep (m := 4) (by decide) x hx
      · exact let_rep (m := 4) (by decide) x hx
    · rcases List.mem_append.mp hx with hx | hx
      · exact let_rep (m := 4) (by decide) x hx
      · exact let_rep (m := 4) (by decide) x hx
  · rw [List.mem_singleton.mp hr]
    exact ⟨by decide, by decide, (lets_iff (n := 4) (ws := [2])).mp rfl, (lets_iff (n := 4) (ws := [0, 0, 0])).mp rfl⟩
end
end Gw
namespace Gw
open PySem PySem.Spec PyProof.Rows L2 LamX
/-! ### defs that hold lambdas, told with their code; the law's own call with several tables -/
structure FunC (K : PySem.W.Frag) (x qual : Str) (st : Stmt) (f : Addr) (fd : FuncData) (c : Addr) : Prop where
  ex : ∃ (oc : Value) (od : Option Addr) (kV doc pm : Value) (an : Option Addr) (ct : Value) (osl : Array (Option Value)),
    fd = PySem.W.fnOf x qual (defArgs st) (defBody st) (defScope st) .none kV doc pm an (.ref c) ct ∧ K.lookup f = some ⟨oc, od, .func fd, osl⟩ ∧ PySem.W.codeIn K (.ref c) qual = true
  kp : PySem.W.keepIn K (.ref f) = true
structure DefC (K : PySem.W.Frag) (mg : Str → Option Value) (x : Str) (st : Stmt) (ps : List Str) (f : Addr) (fd : FuncData) (c : Addr) : Prop where
  F : FunC K x x st f fd c
  m : mg x = some (.ref f)
  b : Binds K fd ps []
section
variable {P : Program} {w : World} {K : PySem.W.Frag} {mg : Str → Option Value} {base : Heap}
theorem FunC.ok {x qual : Str} {st : Stmt} {f c : Addr} {fd : FuncData} {N ps : List Str} {k : Nat} {sp : Sp} (F : FunC K x qual st f fd c) (S : FnScope N ps (defScope st)) (len : ∀ vs H Q E, sp vs H Q E → vs.length = ps.length)
    (hbody : ∀ (A : Around) (outer : List Env) (s : Shared) (H : Hp) (vs : List V) (Q : VK) (E : XK), Room k (A.deeper (envOfC qual (defScope st) s.heap.objs.size f (.ref c))) → sp vs H Q E →
      ∃ t, PSs (cxOf CX0 P w K mg base N qual (defScope st) f (.ref c) A outer s H E).nox (defBody st) t ∧ t { nx := fun _ H' => Q .non H', rt := Q } (start N vs) H) : FnOk P w K mg base CX0 (k + 1) f fd ps sp := by
  obtain ⟨oc, od, kV, doc, pm, an, ct, osl, rfl, lk, hcd⟩ := F.ex
  refine fn_of lk hcd S len fun A outer s H vs Q E hr hsp => ?_
  obtain ⟨t, h, q⟩ := hbody A outer s H vs Q E hr hsp
  exact ⟨t, h.nox, q⟩
theorem DefC.ok {x : Str} {st : Stmt} {ps : List Str} {f c : Addr} {fd : FuncData} {k : Nat} {sp : Sp} (D : DefC K mg x st ps f fd c) (h : FnOk P w K mg base CX0 k f fd ps sp) : Ok P w K mg base x ps k sp := ⟨f, fd, D.m, D.F.kp, D.b, h⟩
theorem funC_mk {x qual : Str} {st : Stmt} {f c : Addr} {oc : Value} {od an : Option Addr} {osl : Array (Option Value)} {kV doc pm ct : Value} (l : K.lookup f = some ⟨oc, od, .func (PySem.W.fnOf x qual (defArgs st) (defBody st) (defScope st) .none kV doc pm an (.ref c) ct), osl⟩)
    (cd : PySem.W.codeIn K (.ref c) qual = true) (k : PySem.W.keepIn K (.ref f) = true) : FunC K x qual st f (PySem.W.fnOf x qual (defArgs st) (defBody st) (defScope st) .none kV doc pm an (.ref c) ct) c := ⟨⟨oc, od, kV, doc, pm, an, ct, osl, rfl, l, cd⟩, k⟩
end
/-- ts: codes with their tables -/
structure LawL (P : Program) (w : World) (K : PySem.W.Frag) (mg : Str → Option Value) (x : Str) (st : Stmt) (N : List Str) (k : Nat) (f c : Addr) (ts : List (Addr × Addr)) : Prop where
  S : FnScope N ["script"] (defScope st)
  lk : ∃ (oc kV doc pm ct : Value) (od an : Option Addr) (osl : Array (Option Value)), K.lookup f = some ⟨oc, od, .func (PySem.W.fnOf x x (defArgs st) (defBody st) (defScope st) .none kV doc pm an (.ref c) ct), osl⟩ ∧ L2.Binds K (PySem.W.fnOf x x (defArgs st) (defBody st) (defScope st) .none kV doc pm an (.ref c) ct) ["script"] []
  cd : PySem.W.codeIn K (.ref c) x = true
  ch : ∀ q ∈ ts, PySem.W.codeHdIn K q.1 q.2 = true ∧ K.lookup q.2 = none
  body : ∀ (base : Heap), K.In base → base.Ns mainGlobals mg → (∀ q ∈ ts, TabB base mg q.1 q.2) → ∀ (s : Shared) (H : Hp) (a : Addr) (ns : List Int), Room k (callerA.deeper (envOfC x (defScope st) s.heap.objs.size f (.ref c))) → SqL K H a (ns.map V.int) → ns.length ≤ 63 → (∀ q ∈ ts, H q.2 = some (.tbl #[])) →
    ∃ t, PSs (cxOf CX0 P w K mg base N x (defScope st) f (.ref c) callerA [] s H E0).nox (defBody st) t ∧ t { nx := fun _ _ => V.non = V.bl true, rt := fun v _ => v = .bl true } (start N [.ref a]) H
/-- what may be told of where the law begins: the script, the table -/
def BegL (H : Hp) (a : Addr) (ts : List (Addr × Addr)) (o : Obj) (ns : List Int) : Prop := (∀ q ∈ ts, H q.2 = some (.tbl #[])) ∧ ∀ b u, H b = some u → (b = a ∧ u = .frz o (.lst (ns.map V.int))) ∨ ((∃ q ∈ ts, q.2 = b) ∧ u = .tbl #[])
theorem lawL_at {P : Program} {w : World} {K : PySem.W.Frag} {mg mb : Str → Option Value} {x : Str} {st : Stmt} {N : List Str} {k : Nat} {f a c : Addr} {ts : List (Addr × Addr)} {s1 : Shared} {vs : List Value} {ns : List Int}
    (KX : K.In s1.heap) (hns : s1.heap.Ns mainGlobals mg) (hb : s1.heap.Ns builtinsNs mb) (hbb : ∀ y : Str, y ≠ "__name__" → mb y = bootBuiltins y) (hlim : s1.heap.NoLimit) (hgen : s1.gens = #[])
    (hT : ∀ q ∈ ts, s1.heap.get? q.2 = some { cls := .none, data := .fields #[] }) (hbm : ∃ (bm : Addr) (ob : Obj), mg "__builtins__" = some (.ref bm) ∧ bm ≠ builtinsNs ∧ s1.heap.get? bm = some ob ∧ ob.cls = .type "module" ∧ ob.dict = some builtinsNs ∧ ob.data = .plain)
    (ha : s1.heap.get? a = some { cls := .type "list", data := .seq vs.toArray }) (hi : IntsAre vs ns) (h63 : ns.length ≤ 63) (hr : Room (k + 1) callerA) (L : LawL P w K mg x st N k f c ts) :
    codeAny (model P w) callerA (.call (.ref f) ⟨[.ref a], []⟩) (fun r s' => r = .ok (.ret (.bool true)) ∧ OldK s1.heap s'.heap ∧ s'.os = s1.os ∧ AllBare s'.gens) s1 := by
  have rv := vals_ints hi
  have lv := hi.length
  have hz : (ns.map V.int).length ≤ sizeLine := by rw [List.length_map]; exact Nat.le_trans h63 (by decide)
  have haP : ∀ q ∈ ts, q.2 ≠ a := fun q hq z => by rw [← z, hT q hq] at ha; cases ha
  have main : ∀ H : Hp, BegL H a ts { cls := .type "list", data := .seq vs.toArray } ns → SqL K H a (ns.map V.int) → (H a ≠ none → K.lookup a = none) →
      codeAny (model P w) callerA (.call (.ref f) ⟨[.ref a], []⟩) (fun r s' => r = .ok (.ret (.bool true)) ∧ OldK s1.heap s'.heap ∧ s'.os = s1.os ∧ AllBare s'.gens) s1 := by
    intro H hH hS hK
    have ok : HOk P w H s1.heap := fun b u q => by
      rcases hH.2 b u q with ⟨rfl, rfl⟩ | ⟨⟨p, hp, rfl⟩, rfl⟩
      · exact ⟨ha, hz, vs, 0, rv, ha⟩
      · exact hT p hp
    have out : ∀ {b : Addr} {o : Obj}, s1.heap.get? b = some o → (b = a → H a = none) → (∀ p ∈ ts, p.2 ≠ b) → (hidT s1.heap H).get? b = some o := fun {b o} e n n2 => hidT_get e (by
      cases q : H b with
      | none => rfl
      | some u =>
        rcases hH.2 b u q with ⟨e2, _⟩ | ⟨⟨p, hp, e2⟩, _⟩
        · rw [e2, n e2] at q; cases q
        · exact absurd e2 (n2 p hp))
    have kin : K.In (hidT s1.heap H) := fun b o e => out (KX b o e) (fun z => by
      cases q : H a with
      | none => rfl
      | some u =>
        have z2 := hK (by rw [q]; exact fun z => nomatch z)
        rw [z, z2] at e
        cases e) fun p hp z => by rw [← z, (L.ch p hp).2] at e; cases e
    have nsp : ∀ {b : Addr} {m : Str → Option Value}, s1.heap.Ns b m → (hidT s1.heap H).Ns b m := fun {b m} ⟨o, es, ep, e, d, r⟩ => ⟨o, es, ep, out e (fun z => by
      rw [z, ha] at e
      cases e
      cases d) (fun p hp z => by
      rw [← z, hT p hp] at e
      cases e
      cases d), d, r⟩
    have mod : Mod K mg (hidT s1.heap H) := ⟨kin, nsp hns, ⟨mb, nsp hb, hbb⟩, let ⟨mc, h1, h2⟩ := hlim; ⟨mc, nsp h1, h2⟩⟩
    have tab : ∀ p ∈ ts, TabB (hidT s1.heap H) mg p.1 p.2 := fun p hp => by
      refine ⟨PySem.W.codeHd_of_K kin (L.ch p hp).1, ?_, fun z => ?_⟩
      · obtain ⟨bm, ob, b1, b2, b3, b4, b5, b6⟩ := hbm
        refine ⟨bm, ob, b1, b2, fun z => ?_, fun z => ?_, out b3 (fun z => ?_) fun p' hp' z => ?_, b4, b5, b6⟩
        · obtain ⟨o, es, ep, e, d, r⟩ := hns
          rw [z, e] at b3
          cases b3
          rw [d] at b6
          cases b6
        · rw [z, hT p hp] at b3
          cases b3
          cases b6
        · rw [z, ha] at b3
          cases b3
          cases b6
        · rw [← z, hT p' hp'] at b3
          cases b3
          cases b6
      · obtain ⟨o, es, ep, e, d, r⟩ := hns
        rw [z, hT p hp] at e
        cases e
        cases d
    have e0 : Env0 P w K mg (hidT s1.heap H) callerA [] s1 H := ⟨rfl, mod, fun _ _ e => of_hidT e, Nat.le_of_eq (hidT_size _ _), trivial, fun b z => absurd (show b ∈ ([] : List Addr) from z) List.not_mem_nil, ok, .of_eq hgen⟩
    obtain ⟨oc, kV, doc, pm, ct, od, an, osl, lk, B⟩ := L.lk
    have bt := B s1 [.ref a] KX rfl
    refine codeAny_mono (LamX.run_ofS (CX := CX0) (Q := fun v _ => v = .bl true) (E := E0) lk L.cd L.S hr e0 bt (.cons rfl .nil : Vals [.ref a] [.ref a]) rfl fun hr2 => ?_) fun r s' hq => ?_
    · obtain ⟨t, h1, h2⟩ := L.body _ kin (nsp hns) tab s1 H a ns hr2 hS h63 hH.1
      exact ⟨t, h1.nox, h2⟩
    · cases r with
      | error e => exact (show False from hq).elim
      | ok fl =>
        cases fl with
        | next => exact (show False from hq).elim
        | brk => exact (show False from hq).elim
        | cont => exact (show False from hq).elim
        | ret u =>
          obtain ⟨v, H2, hos, bare, un, ok2, ru, e⟩ := hq
          have e : v = .bl true := e
          subst e
          cases ru
          have grow : ∀ p ∈ ts, ∃ more, s'.heap.get? p.2 = some { cls := .none, data := .fields (#[] ++ more) } := fun p hp => by
            obtain ⟨more, gr⟩ := un.tbls p.2 #[] (hH.1 p hp)
            exact ⟨more, ok2 p.2 _ gr⟩
          have other : ∀ b o, (∀ p ∈ ts, p.2 ≠ b) → s1.heap.get? b = some o → s'.heap.get? b = some o := fun b o nb eb => by
            cases q : H b with
            | none => exact un.keep b o eb q (fun z => nomatch z) (fun z => nomatch z)
            | some u =>
              rcases hH.2 b u q with ⟨rfl, rfl⟩ | ⟨⟨p, hp, e⟩, rfl⟩
              · obtain ⟨g1, _⟩ := ok _ _ q
                obtain ⟨g2, _⟩ := ok2 _ _ (un.frzs _ _ _ q)
                rw [eb] at g1
                cases g1
                exact g2
              · exact absurd e (nb p hp)
          refine ⟨rfl, ⟨fun b o eb => ?_, fun b o eb => ?_⟩, hos, bare⟩
          · by_cases hbP : ∃ p ∈ ts, p.2 = b
            · obtain ⟨p, hp, rfl⟩ := hbP
              rw [hT p hp] at eb
              cases eb
              obtain ⟨more, gr2⟩ := grow p hp
              exact .inr (.inl ⟨((PySem.W.codeHd_of_K KX (L.ch p hp).1).tab (hT p hp)).isCodeTable, rfl, #[], more, rfl, gr2⟩)
            · exact .inl (other b o (fun p hp e => hbP ⟨p, hp, e⟩) eb)
          · by_cases hbP : ∃ p ∈ ts, p.2 = b
            · obtain ⟨p, hp, rfl⟩ := hbP
              obtain ⟨more, gr2⟩ := grow p hp
              exact ⟨_, gr2⟩
            · exact ⟨o, other b o (fun p hp e => hbP ⟨p, hp, e⟩) eb⟩
  have inTs : ∀ b : Addr, (ts.any fun p => p.2 == b) = true ↔ ∃ p ∈ ts, p.2 = b := fun b => by
    rw [List.any_eq_true]
    exact ⟨fun ⟨p, h1, h2⟩ => ⟨p, h1, eq_of_beq h2⟩, fun ⟨p, h1, h2⟩ => ⟨p, h1, by rw [h2]; exact beq_self_eq_true b⟩⟩
  have na : (ts.any fun p => p.2 == a) = false := by
    cases e : ts.any fun p => p.2 == a with
    | false => rfl
    | true =>
      obtain ⟨p, hp, e2⟩ := (inTs a).mp e
      exact absurd e2 (haP p hp)
  cases hk : K.lookup a with
  | some o =>
    have e := KX a o hk
    rw [ha] at e
    cases e
    refine main (fun b => if (ts.any fun p => p.2 == b) = true then some (.tbl #[]) else none) ⟨fun q hq => if_pos ((inTs q.2).mpr ⟨q, hq, rfl⟩), fun b u q => ?_⟩ (.inr ⟨_, vs.toArray, _, hk, rfl, rfl, rfl, by rw [List.size_toArray, lv]; exact Nat.le_trans h63 (by decide), by simpa using rv⟩) (fun z => absurd (if_neg (by rw [na]; exact Bool.false_ne_true)) z)
    have q : (if (ts.any fun p => p.2 == b) = true then some (HO.tbl #[]) else none) = some u := q
    by_cases hbP : (ts.any fun p => p.2 == b) = true
    · rw [if_pos hbP] at q
      cases q
      exact .inr ⟨(inTs b).mp hbP, rfl⟩
    · rw [if_neg hbP] at q
      cases q
  | none =>
    refine main (fun b => if (ts.any fun p => p.2 == b) = true then some (.tbl #[]) else if b = a then some (.frz { cls := .type "list", data := .seq vs.toArray } (.lst (ns.map V.int))) else none) ⟨fun q hq => if_pos ((inTs q.2).mpr ⟨q, hq, rfl⟩), fun b u q => ?_⟩ (.inl (.inr ⟨_, (if_neg (by rw [na]; exact Bool.false_ne_true)).trans (if_pos rfl)⟩)) fun _ => hk
    have q : (if (ts.any fun p => p.2 == b) = true then some (HO.tbl #[]) else if b = a then some (HO.frz { cls := .type "list", data := .seq vs.toArray } (.lst (ns.map V.int))) else none) = some u := q
    by_cases hbP : (ts.any fun p => p.2 == b) = true
    · rw [if_pos hbP] at q
      cases q
      exact .inr ⟨(inTs b).mp hbP, rfl⟩
    · rw [if_neg hbP] at q
      by_cases hba : b = a
      · rw [if_pos hba] at q
        cases q
        exact .inl ⟨hba, rfl⟩
      · rw [if_neg hba] at q
        cases q
/-- the goal that the head leaves, with the tables that it tells of -/
theorem walk_atL {l : PySem.W.OpenLaw} {k : Nat} {q : Program} {loose : List Str} {XP : (Str → Option Value) → Heap → Prop} {YP : World → Heap → Prop} {d : DefRec} {K : Params → PySem.W.Frag} {st : Stmt} {N : List Str} {ts : List Addr} (hn : l.most = some 63) (hdf : d.params.defaults = []) (hr : Room (k + 1) callerA)
    (hY : ∀ (w : World) (h : Heap), YP w h → (K w.params).In h ∧ ∀ Pt ∈ ts, h.get? Pt = some { cls := .none, data := .fields #[] })
    (F : ∀ (w : World) (mg : Str → Option Value) (fa : Addr) (h : Heap), (K w.params).In h → h.Ns mainGlobals mg → mg d.name = some (.ref fa) → ∃ c qs, (∀ q ∈ qs, q.2 ∈ ts) ∧ LawL l.prog w (K w.params) mg d.name st N k fa c qs) :
    PySem.W.WalkO q loose XP YP l.row.toRowW d [] (fun f vs => PySem.call f vs) := by
  refine Att.attach_call hn hdf fun w s0 s1 mg mb fa o pm cd doc a vs ns G Y ho hd hcd hmg hobj hints hlen hg => ?_
  obtain ⟨KX, YT⟩ := hY w _ Y
  obtain ⟨c, qs, hPt, L⟩ := F w mg fa _ KX G.T.g hmg
  exact lawL_at KX G.T.g G.T.b G.T.builtins G.T.nolimit hg (fun q hq => YT q.2 (hPt q hq)) G.T.bmain hobj hints hlen hr L
end Gw
namespace Gw
open PySem PySem.Spec PyProof.Rows L2 LamX
/-! ### changes asked of a group -/
theorem wD_inj {a b : List Int} (h : wD a = wD b) : a = b := by
  have := congrArg toWs h
  rwa [toWs_ints, toWs_ints] at this
theorem chg_inj {c c' : Chg} (h : c.d = c'.d) : c = c' := by
  cases c <;> cases c' <;> replace h := PyData.tuple.inj h
  case put.put a b a' b' =>
    have h1 := List.cons.inj (List.cons.inj h).2
    rw [wD_inj h1.1, wD_inj (List.cons.inj h1.2).1]
  case drop.drop k k' =>
    have h1 := PyData.int.inj (List.cons.inj (List.cons.inj h).2).1
    rw [show k = k' by omega]
  case letter.letter a a' => rw [wD_inj (List.cons.inj (List.cons.inj h).2).1]
  case unletter.unletter => rfl
  all_goals exact absurd (PyData.str.inj (List.cons.inj h).1) (by decide)
theorem szi_chg {c : Chg} (hc : c.Ok) : SzI c.d := fun ds e => by
  have one : ∀ {a : List Int}, a.length ≤ 40 → Sized (wD a) := fun h => sz_words (by omega)
  cases c with
  | put a b =>
    cases e
    refine ⟨by show 3 ≤ 1000; decide, fun x hx => ?_⟩
    simp only [List.mem_cons, List.not_mem_nil, or_false] at hx
    rcases hx with rfl | rfl | rfl
    · trivial
    · exact one hc.1.2
    · exact one hc.2.2
  | drop k =>
    cases e
    refine ⟨by show 2 ≤ 1000; decide, fun x hx => ?_⟩
    simp only [List.mem_cons, List.not_mem_nil, or_false] at hx
    rcases hx with rfl | rfl <;> trivial
  | letter a =>
    cases e
    refine ⟨by show 2 ≤ 1000; decide, fun x hx => ?_⟩
    simp only [List.mem_cons, List.not_mem_nil, or_false] at hx
    rcases hx with rfl | rfl
    · trivial
    · exact one hc.2
  | unletter =>
    cases e
    refine ⟨by show 1 ≤ 1000; decide, fun x hx => ?_⟩
    rw [List.mem_singleton.mp hx]
    trivial
/-! by keyword -/
def gC3 {α : Type} : List α → List α → List α
  | [], [w, g, c] => [g, c, w]
  | _, _ => []
theorem gC3_rel {vs : List V} {us : List Value} {zs : List V} {ws : List Value} (h : Vals vs us) (h' : Vals zs ws) : Vals (gC3 vs zs) (gC3 us ws) := by
  cases h with
  | cons _ _ => exact .nil
  | nil =>
    cases h' with
    | nil => exact .nil
    | cons a t =>
      cases t with
      | nil => exact .nil
      | cons b t =>
        cases t with
        | nil => exact .nil
        | cons c t =>
          cases t with
          | nil => exact .cons b (.cons c (.cons a .nil))
          | cons _ _ => exact .nil
theorem kwC3 {x p1 p2 p3 : Str} {st : Stmt} (h : ∀ (kV doc pm : Value) (an : Option Addr) (cdv ct a b c : Value), bindArgs (PySem.W.fnOf x x (defArgs st) (defBody st) (defScope st) .none kV doc pm an cdv ct) ⟨[], [(p3, a), (p1, b), (p2, c)]⟩ = pure [(p1, b), (p2, c), (p3, a)]) :
    KwOf x st [p1, p2, p3] [p3, p1, p2] gC3 gC3 := fun K f fd F => by
  obtain ⟨oc, od, kV, doc, pm, an, cdv, ct, osl, rfl, lk, hcd⟩ := F.ex
  refine ⟨fun s us ws _ hl => ?_, fun r r' => gC3_rel r r'⟩
  match us, ws, hl with
  | [], [a, b, c], _ => exact .of_eq (h kV doc pm an cdv ct a b c)
theorem kb_changed : KwOf "changed" s_changed P_changed ["change", "group"] g21 g21 := by unfold P_changed; exact kw21 fun _ _ _ _ _ _ _ _ => rfl
theorem kb_changed_word : KwOf "changed_word" s_changed_word P_changed_word ["word", "group", "change"] gC3 gC3 := by unfold P_changed_word; exact kwC3 fun _ _ _ _ _ _ _ _ _ => rfl
theorem kb_is_change : KwOf "is_change" s_is_change P_is_change ["thing"] g1 g1 := by unfold P_is_change; exact kw1 fun _ _ _ _ _ _ _ => rfl
section
variable {K : PySem.W.Frag} {CG CN CX CW : Addr} {σ : L2.St} {G H : Hp} {te tv tw : TE} {bs ws : List Int} {rs : List Rl} {c : Chg} {p : List Int × List Rl} {E : XK} {Q : VK} {g : Addr} {v u : V}
/-- changed at a group, a change that can be done -/
theorem ch_ok (s : Same G H) (hg : GB K CG G g bs rs) (Vd : BkR bs rs) (hv : Dp K G v c.d) (hc : c.Ok) (hp : chG bs rs c = .ok p) (q : ∀ g' G' H', Nx G H G' H' → GB K CG G' g' p.1 p.2 → Q (.ref g') H') : spCH K CG CN CX [.ref g, v] H Q E :=
  ⟨G, g, v, bs, rs, c.d, s, rfl, hg, Vd, hv, szi_chg hc, (fun c' e _ p' hp' g' G' H' n hg' => by
    cases chg_inj e
    rw [hp] at hp'
    cases hp'
    exact q g' G' H' n hg'), (fun c' e _ x hx => by
    cases chg_inj e
    rw [hp] at hx
    cases hx), fun z => absurd ((isChD_d hc).symm.trans z) (by decide)⟩
theorem ch_no {e : Str} (s : Same G H) (hg : GB K CG G g bs rs) (Vd : BkR bs rs) (hv : Dp K G v c.d) (hc : c.Ok) (he : chG bs rs c = .error e) (q : ∀ d H', Same H H' → H' d = some (.xd (wF (.str e))) → E (.ref CN) (some d) H') : spCH K CG CN CX [.ref g, v] H Q E :=
  ⟨G, g, v, bs, rs, c.d, s, rfl, hg, Vd, hv, szi_chg hc, (fun c' e _ p' hp' => by
    cases chg_inj e
    rw [he] at hp'
    cases hp'), (fun c' e _ x hx => by
    cases chg_inj e
    rw [he] at hx
    cases hx
    exact q), fun z => absurd ((isChD_d hc).symm.trans z) (by decide)⟩
theorem cw_ok (s : Same G H) (hg : GB K CG G g bs rs) (Vd : BkR bs rs) (hv : Dp K G v c.d) (hc : c.Ok) (hp : chG bs rs c = .ok p) (hu : Dp K G u (wD ws)) (lw : Letters bs.length ws) (l1 : ws.length ≤ 1000) (q : ∀ r G' H', Nx G H G' H' → Dp K G' r (wD (carryW bs rs c ws)) → Q r H') : spCW K CG CN CX CW [.ref g, v, u] H Q E :=
  ⟨G, g, v, u, bs, rs, c.d, wD ws, s, rfl, hg, Vd, hv, szi_chg hc, hu, sz_words l1, (fun c' p' e _ _ no => by
    rw [isRow_lets, lets_iff.mpr lw] at no
    cases no), (fun c' p' ws' e _ _ ew _ => by
    cases chg_inj e
    cases wD_inj ew
    exact ⟨l1, q⟩), (fun c' e _ x hx => by
    cases chg_inj e
    rw [hp] at hx
    cases hx), fun z => absurd ((isChD_d hc).symm.trans z) (by decide)⟩
theorem cw_row {y : PyData} (s : Same G H) (hg : GB K CG G g bs rs) (Vd : BkR bs rs) (hv : Dp K G v c.d) (hc : c.Ok) (hp : chG bs rs c = .ok p) (hu : Dp K G u y) (sy : Sized y) (no : isRow bs.length y = false) (q : ∀ G' H', Nx G H G' H' → E (.ref CW) none H') : spCW K CG CN CX CW [.ref g, v, u] H Q E :=
  ⟨G, g, v, u, bs, rs, c.d, y, s, rfl, hg, Vd, hv, szi_chg hc, hu, sy, (fun c' p' e _ _ _ => q), (fun c' p' ws' e _ _ ew lw => by
    subst ew
    rw [isRow_lets, lets_iff.mpr lw] at no
    cases no), (fun c' e _ x hx => by
    cases chg_inj e
    rw [hp] at hx
    cases hx), fun z => absurd ((isChD_d hc).symm.trans z) (by decide)⟩
theorem cw_no {e : Str} (s : Same G H) (hg : GB K CG G g bs rs) (Vd : BkR bs rs) (hv : Dp K G v c.d) (hc : c.Ok) (he : chG bs rs c = .error e) (q : ∀ d H', Same H H' → H' d = some (.xd (wF (.str e))) → E (.ref CN) (some d) H') : spCW K CG CN CX CW [.ref g, v, .non] H Q E :=
  ⟨G, g, v, .non, bs, rs, c.d, .none, s, rfl, hg, Vd, hv, szi_chg hc, .non, trivial, (fun c' p' e _ hp' => by
    cases chg_inj e
    rw [he] at hp'
    cases hp'), (fun c' p' ws' e _ hp' => by
    cases chg_inj e
    rw [he] at hp'
    cases hp'), (fun c' e _ x hx => by
    cases chg_inj e
    rw [he] at hx
    cases hx
    exact q), fun z => absurd ((isChD_d hc).symm.trans z) (by decide)⟩
theorem eg_ch (hg : EvG K CG te σ G (bs.map .int) (rs.map ruleD)) (Vd : BkR bs rs) (hv : EvD K tv σ G c.d) (hc : c.Ok) (hp : chG bs rs c = .ok p) : EvG K CG (tCall (spCH K CG CN CX) [] E (tCons te (tCons tv tNil))) σ G (p.1.map .int) (p.2.map ruleD) := fun H s Q q =>
  hg H s _ fun g G1 H1 n1 h1 => (hv.mono n1.gg) H1 n1.gh _ fun v G2 H2 n2 h2 => ch_ok n2.gh (h1.mono n2.gg) Vd h2 hc hp fun g' G' H' n h => q g' G' H' ((n1.trans n2).trans n) h
theorem eg_chK (hg : EvG K CG te σ G (bs.map .int) (rs.map ruleD)) (Vd : BkR bs rs) (hv : EvD K tv σ G c.d) (hc : c.Ok) (hp : chG bs rs c = .ok p) : EvG K CG (tCallK (spCH K CG CN CX) g21 E tNil (tCons tv (tCons te tNil))) σ G (p.1.map .int) (p.2.map ruleD) := fun H s Q q =>
  hv H s _ fun v G1 H1 n1 h1 => (hg.mono n1.gg) H1 n1.gh _ fun g G2 H2 n2 h2 => ch_ok n2.gh h2 Vd (dp_mono n2.gg _ h1) hc hp fun g' G' H' n h => q g' G' H' ((n1.trans n2).trans n) h
theorem ed_cw (hg : EvG K CG te σ G (bs.map .int) (rs.map ruleD)) (Vd : BkR bs rs) (hv : EvD K tv σ G c.d) (hc : c.Ok) (hp : chG bs rs c = .ok p) (hw : EvD K tw σ G (wD ws)) (lw : Letters bs.length ws) (l1 : ws.length ≤ 1000) : EvD K (tCall (spCW K CG CN CX CW) [] E (tCons te (tCons tv (tCons tw tNil)))) σ G (wD (carryW bs rs c ws)) := fun H s Q q =>
  hg H s _ fun g G1 H1 n1 h1 => (hv.mono n1.gg) H1 n1.gh _ fun v G2 H2 n2 h2 => (hw.mono (n1.gg.trans n2.gg)) H2 n2.gh _ fun u G3 H3 n3 h3 => cw_ok n3.gh (h1.mono (n2.gg.trans n3.gg)) Vd (dp_mono n3.gg _ h2) hc hp h3 lw l1 fun r G' H' n h => q r G' H' (((n1.trans n2).trans n3).trans n) h
theorem ed_cwK (hg : EvG K CG te σ G (bs.map .int) (rs.map ruleD)) (Vd : BkR bs rs) (hv : EvD K tv σ G c.d) (hc : c.Ok) (hp : chG bs rs c = .ok p) (hw : EvD K tw σ G (wD ws)) (lw : Letters bs.length ws) (l1 : ws.length ≤ 1000) : EvD K (tCallK (spCW K CG CN CX CW) gC3 E tNil (tCons tw (tCons te (tCons tv tNil)))) σ G (wD (carryW bs rs c ws)) := fun H s Q q =>
  hw H s _ fun u G1 H1 n1 h1 => (hg.mono n1.gg) H1 n1.gh _ fun g G2 H2 n2 h2 => (hv.mono (n1.gg.trans n2.gg)) H2 n2.gh _ fun v G3 H3 n3 h3 => cw_ok n3.gh (h2.mono n3.gg) Vd h3 hc hp (dp_mono (n2.gg.trans n3.gg) _ h1) lw l1 fun r G' H' n h => q r G' H' (((n1.trans n2).trans n3).trans n) h
end
/-! what the law's own change may say -/
def whys : List PyData := [.str "word", .str "many", .str "place", .str "letters", .str "rule"]
theorem err_why {bs : List Int} {rs : List Rl} {c : Chg} {e : Str} (h : chG bs rs c = .error e) : e = "word" ∨ e = "many" ∨ e = "place" ∨ e = "letters" ∨ e = "rule" := by
  cases c with
  | put a b =>
    simp only [chG] at h
    split at h
    · split at h
      · cases h; exact .inr (.inl rfl)
      · cases h
    · cases h; exact .inl rfl
  | drop k =>
    simp only [chG] at h
    split at h
    · cases h; exact .inr (.inr (.inl rfl))
    · cases h
  | letter a =>
    simp only [chG] at h
    split at h
    · cases h; exact .inr (.inr (.inr (.inl rfl)))
    · split at h
      · split at h
        · cases h; exact .inr (.inl rfl)
        · cases h
      · cases h; exact .inl rfl
  | unletter =>
    simp only [chG] at h
    split at h
    · rename_i x hl
      cases h
      unfold lastM at hl
      split at hl
      · cases hl; exact .inr (.inr (.inr (.inl rfl)))
      · split at hl
        · cases hl; exact .inr (.inr (.inr (.inr rfl)))
        · cases hl
    · split at h
      · cases h; exact .inr (.inl rfl)
      · cases h
theorem shaped_str {e : Str} (h : PyData.strOk e = true) : SeqAt.shaped (.str e) = true := by simp [SeqAt.shaped, PyData.canLay0, PyData.depth, h]
theorem shaped_ok (p : List Int × List Rl) : SeqAt.shaped (dueD (.ok p)) = true := by
  have h1 := shaped_intsT p.1
  have h2 := (shaped_rules p.2).2
  have e2 : PyData.depthAll (p.2.map ruleD) ≤ 2 := depth_rules p.2
  simp only [SeqAt.shaped, Bool.and_eq_true, decide_eq_true_eq] at h1 h2
  simp only [dueD, SeqAt.shaped, PyData.canLay0, PyData.canLayAll0, PyData.depth, PyData.depthAll, depth_row, Bool.and_eq_true, decide_eq_true_eq, Bool.and_true]
  simp only [PyData.canLay0] at h1 h2
  refine ⟨⟨h1.1, h2.1⟩, by omega⟩
theorem why_ok {e : Str} (h : e = "word" ∨ e = "many" ∨ e = "place" ∨ e = "letters" ∨ e = "rule") : SeqAt.shaped (.str e) = true := by
  refine shaped_str ?_
  rcases h with rfl | rfl | rfl | rfl | rfl <;> decide +kernel
theorem shaped_due {bs : List Int} {rs : List Rl} {c : Chg} : SeqAt.shaped (dueD (chG bs rs c)) = true := by
  cases h : chG bs rs c with
  | error e => exact why_ok (err_why h)
  | ok p => exact shaped_ok p
theorem eqv_str (a b : Str) : PyData.eqv (.str a) (.str b) = decide (a = b) := by
  rw [PyData.eqv, Bool.eq_iff_iff]; simp
theorem any_err (es : List Str) (e : Str) : ((es.map PyData.str).any fun x => PyData.eqv x (dueD (.error e))) = es.contains e := by
  induction es with
  | nil => rfl
  | cons a es ih =>
    rw [List.map_cons, List.any_cons, ih, List.contains_cons]
    congr 1
    show PyData.eqv (.str a) (.str e) = (e == a)
    rw [eqv_str, Bool.eq_iff_iff]
    simp only [decide_eq_true_eq, beq_iff_eq]
    exact eq_comm
theorem any_okD (es : List Str) (p : List Int × List Rl) : ((es.map PyData.str).any fun x => PyData.eqv x (dueD (.ok p))) = false := by
  induction es with
  | nil => rfl
  | cons a es ih =>
    rw [List.map_cons, List.any_cons, ih, Bool.or_false]
    show PyData.eqv (.str a) (.tuple _) = false
    simp [PyData.eqv]
theorem shaped_strs {es : List Str} (h : es.all PyData.strOk = true) : ∀ e ∈ es.map PyData.str, SeqAt.shaped e = true := fun e he => by
  obtain ⟨a, ha, rfl⟩ := List.mem_map.mp he
  exact shaped_str (List.all_eq_true.mp h a ha)
end Gw
namespace Gw
open PySem PySem.Spec PyProof.Rows L2 LamX
/-! ### a change of a group, as the law asks it -/
def qL (x : Str) (st : Stmt) : Str := (envOfC x (defScope st) 0 0 .none).qual ++ "<lambda>"
abbrev TQ61 (Pt P2 : Addr) : List (Addr × Str) := [(Pt, qL "law" s_law), (P2, qL "_law_change_right" s_law_change_right)]
def spCR (K : PySem.W.Frag) (TQ : List (Addr × Str)) : Sp := fun vs H Q _ => ∃ (G : Hp) (vb vc vw : V) (l : Addr) (xs : List V) (bs : List Int) (rs : List Rl) (c : Chg) (wss : List (List Int)), Same G H ∧ Tabs TQ H ∧ vs = [vb, .ref l, vc, vw] ∧ Dp K G vb (wD bs) ∧ G l = some (.lst xs) ∧ DpAll K G xs (rs.map ruleD) ∧ BkR bs rs ∧ Dp K G vc c.d ∧ c.Ok ∧
  Dp K G vw (.list (wss.map wD)) ∧ (∀ ws ∈ wss, Letters bs.length ws ∧ ws.length ≤ 1000) ∧ wss.length ≤ 1000 ∧ ∀ H', ExtN H H' → Tabs TQ H' → Q (.bl true) H'
theorem ext_noT {H H' : Hp} (s : Same (noT H) H') : ExtN H H' := fun b o e n => s b o (noT_of e n)
theorem grp_noT {K : PySem.W.Frag} {CG : Addr} {G : Hp} {g : Addr} {bs rs : List PyData} (h : GrpAt K CG G g bs rs) : GrpAt K CG (noT G) g bs rs := by
  obtain ⟨dx, vb, vr, h1, h2, h3⟩ := h
  exact ⟨dx, vb, vr, noT_of h1 (fun _ z => nomatch z), dp_noT _ h2, dp_noT _ h3⟩
def NoTb (G : Hp) : Prop := ∀ a ps, G a ≠ some (.tbl ps)
theorem noTb_noT (G : Hp) : NoTb (noT G) := fun a ps h => (noT_inv h).2 ps rfl
theorem same_noT {G G1 : Hp} (z : NoTb G) (s : Same G G1) : Same G (noT G1) := fun a o h => noT_of (s _ _ h) fun ps e => z a ps (by rw [h, e])
theorem ext_same {G H H' : Hp} (z : NoTb G) (s : Same G H) (e : ExtN H H') : Same G H' := fun a o h => e a o (s a o h) fun ps eq => z a ps (by rw [h, eq])
section
variable {σ : L2.St} {H : Hp} {D : Ends} {u : TS}
theorem seq_asgT {te : TE} {g : TG} (h : te σ H fun v H1 => g v σ H1 fun σ' H' => u D σ' H') : tSeq (tAsg te g) u D σ H := h
theorem seq_forOf {K : PySem.W.Frag} {te : TE} {g : TG} {tb : TS} (h : te σ H fun x H1 => tSeq (tFor (iList K (tC x)) g tb) u D σ H1) : tSeq (tFor (iList K te) g tb) u D σ H := h
theorem chk_why {K : PySem.W.Frag} {CN ae d : Addr} {i j : Nat} {t : TS} {e : Str} (h : σ[i]? = some (some (.ref ae))) (h5 : σ[j]? = some (some (.str e))) (ha : H ae = some (ErrO (.ref CN) (some d) ae)) (hd : H d = some (.xd (wF (.str e)))) (hsh : SeqAt.shaped (.str e) = true) (EN : ExcC K CN) (kN : PySem.W.kitOne K (.ref CN) (.ref CN) = some true) (k : D.nx σ H) :
    tIfS (tOr (tNot (tB (tCB (rIsC2 K) (tCons (tVar i) (tCons (tC (.ref CN)) tNil))))) (tTest (tOp (rNeD K) (tErrFld CN "why" (tVar i)) (tVar j)))) t tNext D σ H := by
  refine ⟨_, h, .inr ⟨ae, CN, CN, some d, true, rfl, ha, fun dd e => by cases e; exact ⟨_, hd⟩, EN, kN, true, rfl, ?_⟩⟩
  show if (!true) = true then _ else _
  refine iteF ?_
  refine ⟨_, h, ae, d, .str e, rfl, ha, hd, _, h5, .str e, .str e, .str e, .str e, hsh, hsh, _, rfl, if_off ?_ (nx_of k)⟩
  rw [eqv_str]
  simp
end
theorem eqG_self (bs : List Int) (rs : List Rl) : eqG (bs.map .int) (rs.map ruleD) (bs.map .int) (rs.map ruleD) = true := by
  unfold eqG
  rw [eqvT, eqvT, eqvAll_ints, eqvAll_rules]
  rfl
def wrongs (n : Int) : List PyData := [.none, .int 5, .list [.int 0], .tuple [.int n], .tuple [.int (-1)], .tuple [.bool true], .str "word"]
theorem off_rows {n : Nat} {x : PyData} (h : x ∈ wrongs (n : Int)) : isRow n x = false ∧ Sized x := by
  unfold wrongs at h
  simp only [List.mem_cons, List.not_mem_nil, or_false] at h
  have one : ∀ d : PyData, Sized (.tuple [d]) := fun d => by show 1 ≤ sizeLine; decide
  rcases h with rfl | rfl | rfl | rfl | rfl | rfl | rfl
  · exact ⟨rfl, trivial⟩
  · exact ⟨rfl, trivial⟩
  · exact ⟨rfl, trivial⟩
  · refine ⟨?_, one _⟩
    show ((decide (0 ≤ (n : Int)) && decide ((n : Int) ≤ (n : Int) - 1)) && true) = false
    rw [decide_eq_false (by omega : ¬ (n : Int) ≤ (n : Int) - 1)]
    simp
  · refine ⟨?_, one _⟩
    show ((decide (0 ≤ (-1 : Int)) && decide ((-1 : Int) ≤ (n : Int) - 1)) && true) = false
    simp
  · exact ⟨rfl, one _⟩
  · exact ⟨rfl, trivial⟩
section
variable {P : Program} {w : World} {K : PySem.W.Frag} {mg : Str → Option Value} {base : Heap} {f : Addr} {fd : FuncData} {CG CN CX CW CB CS fN fGe : Addr} {fdGe : FuncData}
theorem ok_law_change_right {c2 P2 Pt : Addr} (D : DefC K mg "_law_change_right" s_law_change_right P_law_change_right f fd c2) (T : Bt mg) (TB : LamX.TabB base mg c2 P2) (hPP : Pt ≠ P2)
    (t_NotLet : PySem.SupX.SupTxt P K mg "NotLet" "why" CN fN) (e_BadWord : Err K mg "BadWord" CW) (gG : mg "GroupError" = some (.ref CS)) (EN : ExcC K CN) (EW : ExcC K CW) (xN : PySem.W.exmOne K (.ref CN) (.ref CS) = some true) (xW : PySem.W.exmOne K (.ref CW) (.ref CS) = some true) (kN : PySem.W.kitOne K (.ref CN) (.ref CN) = some true) (kW : PySem.W.kitOne K (.ref CW) (.ref CW) = some true)
    (OC : OwnC K CG) (O_Group : OwnE K CG fGe) (F_Group : FnOk P w K mg base CX0 2 fGe fdGe P_Groupeq (spEQ K CG)) (b_Group : Binds K fdGe P_Groupeq [])
    (h_Group : MkX P w K mg base "Group" P_Groupinit ["rules", "back"] 7 CG (spGI K CG CB) gR gR) (h_changed : OkX P w K mg base "changed" s_changed P_changed 10 (spCH K CG CN CX)) (h_changed_word : OkX P w K mg base "changed_word" s_changed_word P_changed_word 11 (spCW K CG CN CX CW))
    (h__law_changed : Ok P w K mg base "_law_changed" P_law_changed 2 (spLC K)) (h__law_carried : Ok P w K mg base "_law_carried" P_law_carried 2 (SpD K R_law_carried)) {fq : Addr} {fdq : FuncData} (D_caught : DefAt K mg "_law_caught" s_law_caught P_law_caught fq fdq) :
    Ok P w K mg base "_law_change_right" P_law_change_right 15 (spCR K (TQ61 Pt P2)) := by
  refine D.ok (D.F.ok sc_law_change_right (fun vs H Q E h => ?_) fun A outer s H vs Q E hr h => ?_)
  · obtain ⟨G, vb, vc, vw, l, xs, bs, rs, c, wss, _, _, rfl, _⟩ := h; rfl
  have S := sc_law_change_right
  obtain ⟨oc, od, kV, doc, pm, an, cdv, ct, osl, rfl, lk_caught, c_caught⟩ := D_caught.F.ex
  have m_caught := D_caught.m
  have k_caught := D_caught.F.kp
  have b_caught := D_caught.b
  have hcode : (.ref c2 : Value) = .ref c2 := rfl
  have hmq : (P2, qL "_law_change_right" s_law_change_right) ∈ TQ61 Pt P2 := List.mem_cons_of_mem _ (List.mem_singleton_self _)
  have huq : ∀ p ∈ TQ61 Pt P2, p.1 = P2 → p.2 = qL "_law_change_right" s_law_change_right := fun p hp e => by
    rcases List.mem_cons.mp hp with rfl | hp
    · exact absurd e hPP
    · rw [List.mem_singleton.mp hp]
  obtain ⟨G0, vb, vc, vw, l, xs, bs, rs, c, wss, hs, tb, rfl, hb, hl, hxs, Vd, hc, hok, hw, hws, lws, q⟩ := h
  refine ⟨_, (pss_cons (ps_asg (pe_tup (pa_cons (pe_mkX h_Group passL (hr.mono (by decide)) (by rfl) (pa_cons (pv 0) (pa_cons (pv 1) pa_nil))) (pa_cons (pe_ok h__law_changed (hr.mono (by decide)) (by rfl) (pa_cons (pv 0) (pa_cons (pv 1) (pa_cons (pv 2) pa_nil)))) pa_nil))) (q_gT K 2 rfl rfl (pgs_cons (pg_name (i := 4) S.nd rfl (by first | exact .inl rfl | exact .inr rfl)) (pgs_cons (pg_name (i := 5) S.nd rfl (by first | exact .inl rfl | exact .inr rfl)) pgs_nil))))
  (pss_cons (ps_if (pt_cmpR (q_inD K rfl hr.in1.units) (pv 5) (pe_lst (pa_cons pe_str (pa_cons pe_str (pa_cons pe_str (pa_cons pe_str (pa_cons pe_str pa_nil)))))) (by rfl)) (pss_cons (ps_for PassesOwn.never rfl (q_iL K rfl (pe_lst (pa_cons (pe_lamV TB hcode hmq huq (LamX.lamS_by (show LamX.lamSB (defScope s_law_change_right) _ = true by decide +kernel)) rfl) (pa_cons (pe_lamV TB hcode hmq huq (LamX.lamS_by (show LamX.lamSB (defScope s_law_change_right) _ = true by decide +kernel)) rfl) pa_nil)))) (pg_name (i := 6) S.nd rfl (by first | exact .inl rfl | exact .inr rfl)) (pss_cons (ps_set (i := 7) S.nd rfl (by first | exact .inl rfl | exact .inr rfl) (pe_giv (k := 11) (by rfl) m_caught k_caught lk_caught c_caught b_caught sc_law_caught rfl (.inl rfl) (caught_gives gG) (hr.mono (by decide)) rfl lams_good (pv 6)))
  (pss_one (ps_if (PW.pt (pw_or (pt_not (pt_val (pe_callB cr_isC2 (by rfl) T.isinstance (by decide +kernel) (pa_cons (pv 7) (pa_cons (pe_glob (v := .ref CN) (by rfl) t_NotLet.gC rfl) pa_nil))))) (pw_or1 (pt_cmpR (q_neD K rfl hr.units) (pe_errFld t_NotLet (pv 7)) (pv 5) (nomark _))))) (pss_one (ps_ret pe_bl)) pss_nil))))
  (pss_one (ps_ret pe_bl))) pss_nil)
  (pss_cons (ps_if (PW.pt (pw_or (pt_cmpR (op_ownNe O_Group F_Group b_Group pass0 (hr.mono (by decide))) (pe_okX h_changed passL (hr.mono (by decide)) (by rfl) (pa_cons (pv 4) (pa_cons (pv 2) pa_nil))) (pe_mkX h_Group passL (hr.mono (by decide)) (by rfl) (pa_cons (pe_ix (q_ixT K rfl) (pv 5) pe_int (fun _ _ => rfl)) (pa_cons (pe_ix (q_ixT K rfl) (pv 5) pe_int (fun _ _ => rfl)) pa_nil))) (nomark _)) (pw_or1 (pt_cmpR (op_ownNe O_Group F_Group b_Group pass0 (hr.mono (by decide))) (pe_okXK0 h_changed kb_changed passL (hr.mono (by decide)) (by rfl) (pk_cons (pv 2) (pk_cons (pv 4) pk_nil))) (pe_mkX h_Group passL (hr.mono (by decide)) (by rfl) (pa_cons (pe_ix (q_ixT K rfl) (pv 5) pe_int (fun _ _ => rfl)) (pa_cons (pe_ix (q_ixT K rfl) (pv 5) pe_int (fun _ _ => rfl)) pa_nil))) (nomark _))))) (pss_one (ps_ret pe_bl)) pss_nil)
  (pss_cons (ps_for PassesOwn.never rfl (q_iL K rfl (pv 3)) (pg_name (i := 8) S.nd rfl (by first | exact .inl rfl | exact .inr rfl)) (pss_cons (ps_set (i := 9) S.nd rfl (by first | exact .inl rfl | exact .inr rfl) (pe_ok h__law_carried (hr.mono (by decide)) (by rfl) (pa_cons (pv 0) (pa_cons (pv 1) (pa_cons (pv 2) (pa_cons (pv 8) pa_nil))))))
  (pss_one (ps_if (PW.pt (pw_or (pt_cmpR (q_neD K rfl hr.units) (pe_okX h_changed_word passL (hr.mono (by decide)) (by rfl) (pa_cons (pv 4) (pa_cons (pv 2) (pa_cons (pv 8) pa_nil)))) (pv 9) (nomark _)) (pw_or1 (pt_cmpR (q_neD K rfl hr.units) (pe_okXK0 h_changed_word kb_changed_word passL (hr.mono (by decide)) (by rfl) (pk_cons (pv 8) (pk_cons (pv 4) (pk_cons (pv 2) pk_nil)))) (pv 9) (nomark _))))) (pss_one (ps_ret pe_bl)) pss_nil))))
  (pss_cons (ps_for PassesOwn.never rfl (q_iL K rfl (pe_lst (pa_cons pe_non (pa_cons pe_int (pa_cons (pe_lst (pa_cons pe_int pa_nil)) (pa_cons (pe_tup (pa_cons (pe_callB (q_len K rfl) (by rfl) T.len PySem.boot_len (pa_cons (pv 0) pa_nil)) pa_nil)) (pa_cons (pe_tup (pa_cons (pe_un un_neg pe_int) pa_nil)) (pa_cons (pe_tup (pa_cons pe_bl pa_nil)) (pa_cons pe_str pa_nil))))))))) (pg_name (i := 10) S.nd rfl (by first | exact .inl rfl | exact .inr rfl)) (pss_one (ps_if (pt_not (pt_val (pe_callB cr_isC (by rfl) T.isinstance (by decide +kernel) (pa_cons (LamX.pe_lamcall (k := 11) (by rfl) m_caught k_caught lk_caught c_caught b_caught sc_law_caught rfl (.inl rfl) (caught_gives gG) TB hcode hmq huq (hr.mono (by decide)) (LamX.lamS_by (show LamX.lamSB (defScope s_law_change_right) _ = true by decide +kernel)) rfl (fun _ _ _ _ _ => rfl) (fun A outer s H E f c' hr => (pe_okX h_changed_word (passes_call (takes_of rfl rfl rfl rfl) fun _ _ _ _ h => h) (hr.mono (by decide)) (by rfl) (pa_cons (pv 4) (pa_cons (pv 2) (pa_cons (pv 10) pa_nil)))))) (pa_cons (pe_glob (v := .ref CW) (by rfl) e_BadWord.g rfl) pa_nil))))) (pss_one (ps_ret pe_bl)) pss_nil)))
  (pss_one (ps_ret (pe_cmpR (op_ownEq O_Group F_Group b_Group pass0 (hr.mono (by decide))) (pv 4) (pe_mkX h_Group passL (hr.mono (by decide)) (by rfl) (pa_cons (pv 0) (pa_cons (pv 1) pa_nil))) (nomark _))))))))), ?_⟩
  have big : 2000000 ≤ sizeLine := by decide
  have sG : Same (noT H) H := noT_same
  have hb := dp_noT _ (dp_mono hs _ hb)
  have hl : noT H l = some (.lst xs) := noT_of (hs _ _ hl) (fun _ z => nomatch z)
  have hxs := dpa_noT _ (dpa_mono hs _ hxs)
  have hc := dp_noT _ (dp_mono hs _ hc)
  have hw := dp_noT _ (dp_mono hs _ hw)
  have hlD : Dp K (noT H) (.ref l) (.list (rs.map ruleD)) := .lst (SqL.of hl) hxs
  refine seq_asgT (ttup_of (tcons_of ?_))
  refine (eg_bkL Vd (ed_var (i := 0) rfl hb) (ed_var (i := 1) rfl hlD) : EvG K CG _ (L2.start N_law_change_right [vb, .ref l, vc, vw]) (noT H) _ _) H sG _ fun g G1 H1 n1 hg => tcons_of ?_
  refine ⟨_, rfl, _, rfl, _, rfl, G1, vb, vc, l, xs, bs, rs, c, n1.gh, rfl, dp_mono n1.gg _ hb, n1.gg _ _ hl, dpa_mono n1.gg _ hxs, dp_mono n1.gg _ hc, Vd, hok, fun r G2 H2 n2 hd => ⟨by show 2 ≤ sizeLine; omega, fun t ht => ?_⟩⟩
  have nt := Nx.new (o := .tup [.ref g, r]) n2.gh ht
  have n := n1.trans (n2.trans nt)
  refine ⟨t, _, rfl, SqT.of upd_same, rfl, _, _, rfl, _, _, rfl, rfl, ?_⟩
  dsimp only [gName, List.set_cons_succ, List.set_cons_zero]
  have hg := grp_noT (hg.mono (n2.gg.trans nt.gg))
  have hd := dp_noT _ (dp_mono nt.gg _ hd)
  have s0 := same_noT (noTb_noT H) n.gg
  have Z := noTb_noT (upd G2 t (.tup [.ref g, r]))
  have sH := noT_same.trans n.gh
  have tb := tabs_same tb n.hh
  generalize noT (upd G2 t (.tup [.ref g, r])) = G3 at hg hd s0 Z sH
  generalize upd H2 t (.tup [.ref g, r]) = H3 at sH tb
  have hb := dp_mono s0 _ hb
  have hlD := dp_mono s0 _ hlD
  have hc := dp_mono s0 _ hc
  have hw := dp_mono s0 _ hw
  have fin : ∀ Hc, Same G3 Hc → Tabs (TQ61 Pt P2) Hc → Q (.bl true) Hc := fun Hc sc tc => q Hc (ext_noT (s0.trans sc)) tc
  clear n1 n2 nt n hs hl hxs
  refine seq_ifB (K := K) (G := G3) (b := (([("word" : Str), "many", "place", "letters", "rule"].map PyData.str).any fun x => PyData.eqv x (dueD (chG bs rs c)))) (eb_test (ed_op (ed_var (i := 5) rfl hd) (ed_lst (ea_cons ed_str (ea_cons ed_str (ea_cons ed_str (ea_cons ed_str (ea_cons ed_str ea_nil))))) (by show 5 ≤ sizeLine; omega)) (ro_inL shaped_due (shaped_strs (es := ["word", "many", "place", "letters", "rule"]) (by decide +kernel))))) sH (fun hb' Ga Ha na => ?_) fun hb' Ga Ha na => ?_
  · have sa := na.gg.trans na.gh
    have ta := tabs_same tb na.hh
    cases hch : chG bs rs c with
    | ok p => rw [hch, any_okD] at hb'; cases hb'
    | error e =>
    rw [hch] at hd
    have hd := dp_str hd
    subst hd
    have why := why_ok (err_why hch)
    refine ⟨ta, fun f1 c1' H41 e41 t41 hf1 at1 co1 => ⟨t41, fun f2 c2' H42 e42 t42 hf2 at2 co2 => ⟨by show 2 ≤ sizeLine; omega, fun pq hpq => ⟨pq, rfl, ⟨_, SqL.of upd_same⟩, ?_⟩⟩⟩⟩
    have s41 := ext_same Z sa e41
    have s42 := ext_same Z s41 e42
    have s45 := same_upd (o := .lst [.ref f1, .ref f2]) hpq
    have g1 : G3 f1 = none := sa.free hf1
    have g2 : G3 f2 = none := s41.free hf2
    have at12 := e42 _ _ at1 (fun _ z => nomatch z)
    have co12 := e42 _ _ co1 (fun _ z => nomatch z)
    have n12' : f1 ≠ f2 := ne_of_none at1 hf2
    have m1' := code_ne at12 co12
    have m2' := code_ne at2 co2
    have m21' : c2' ≠ f1 := code_ne at12 co2
    refine for_list (K := K) (a := pq) (xs := [.ref f1, .ref f2]) (fun jj σ Hc => ∃ y6 y7, σ = [some vb, some (.ref l), some vc, some vw, some (.ref g), some (.str e), y6, y7, none, none, none] ∧ Same G3 Hc ∧ Tabs (TQ61 Pt P2) Hc ∧ Hc pq = some (.lst [.ref f1, .ref f2]) ∧
      (jj = 0 → Hc f1 = H42 f1 ∧ Hc c1' = H42 c1') ∧ (jj ≤ 1 → Hc f2 = H42 f2 ∧ Hc c2' = H42 c2'))
      ⟨_, _, rfl, s42.trans s45, tabs_same t42 s45, upd_same, fun _ => ⟨(s45 _ _ at12).trans at12.symm, (s45 _ _ co12).trans co12.symm⟩, fun _ => ⟨(s45 _ _ at2).trans at2.symm, (s45 _ _ co2).trans co2.symm⟩⟩ (fun jj σ Hc _ hp => by obtain ⟨_, _, _, _, _, h, _⟩ := hp; exact SqL.of h) ?_ ?_
    · rintro jj v2 σ Hq' hjj ⟨y6, y7, rfl, sq, tq, hpq', q1, q2⟩
      match jj, hjj with
      | 0, hjj =>
        cases hjj
        obtain ⟨r1, r1c⟩ := q1 rfl
        obtain ⟨r2, r2c⟩ := q2 (by decide)
        have r1 := r1.trans at12
        refine ⟨_, rfl, f1, c1', _, _, _, fun E => tCall (spCH K CG CN CX) [] E (tCons (tVar 4) (tCons (tVar 2) tNil)), ⟨LamX.lamS_by (show LamX.lamSB (defScope s_law_change_right) _ = true by decide +kernel), fun _ _ _ _ _ => rfl, fun A outer s H E f c' hr => pe_okX h_changed (passes_call (takes_of rfl rfl rfl rfl) fun _ _ _ _ h => h) (hr.mono (by decide)) (by rfl) (pa_cons (pv 4) (pa_cons (pv 2) pa_nil))⟩, rfl, r1, r1c.trans co12, m1', ?_⟩
        refine ⟨_, rfl, _, rfl, ?_⟩
        dsimp only [tCons, tC, tNil]
        have sd := same_del sq g1
        refine ch_no (K := K) sd hg Vd hc hok hch fun d' H' sm hd' => ⟨true, xN, fun _ ae hae => ?_, fun z => nomatch z⟩
        have sE := same_upd (o := ErrO (.ref CN) (some d') ae) hae
        have keep := sm.trans sE
        refine chk_why (i := 7) (j := 5) rfl rfl upd_same (sE _ _ hd') why EN kN ⟨_, _, rfl, sd.trans keep, tabs_same (tabs_del tq r1) keep, keep _ _ ((delH_ne (ne_of hpq' r1 fun z => nomatch z)).trans hpq'), (fun z => absurd z (by decide)), fun _ => ⟨(keep _ _ ((delH_ne (Ne.symm n12')).trans (r2.trans at2))).trans at2.symm, (keep _ _ ((delH_ne m21').trans (r2c.trans co2))).trans co2.symm⟩⟩
      | 1, hjj =>
        cases hjj
        obtain ⟨r2, r2c⟩ := q2 (by decide)
        have r2 := r2.trans at2
        refine ⟨_, rfl, f2, c2', _, _, _, fun E => tCall (spCW K CG CN CX CW) [] E (tCons (tVar 4) (tCons (tVar 2) (tCons (tC .non) tNil))), ⟨LamX.lamS_by (show LamX.lamSB (defScope s_law_change_right) _ = true by decide +kernel), fun _ _ _ _ _ => rfl, fun A outer s H E f c' hr => pe_okX h_changed_word (passes_call (takes_of rfl rfl rfl rfl) fun _ _ _ _ h => h) (hr.mono (by decide)) (by rfl) (pa_cons (pv 4) (pa_cons (pv 2) (pa_cons pe_non pa_nil)))⟩, rfl, r2, r2c.trans co2, m2', ?_⟩
        refine ⟨_, rfl, _, rfl, ?_⟩
        dsimp only [tCons, tC, tNil]
        have sd := same_del sq g2
        refine cw_no (K := K) sd hg Vd hc hok hch fun d' H' sm hd' => ⟨true, xN, fun _ ae hae => ?_, fun z => nomatch z⟩
        have sE := same_upd (o := ErrO (.ref CN) (some d') ae) hae
        have keep := sm.trans sE
        refine chk_why (i := 7) (j := 5) rfl rfl upd_same (sE _ _ hd') why EN kN ⟨_, _, rfl, sd.trans keep, tabs_same (tabs_del tq r2) keep, keep _ _ ((delH_ne (ne_of hpq' r2 fun z => nomatch z)).trans hpq'), (fun z => absurd z (by decide)), (fun z => absurd z (by decide))⟩
      | jj + 2, hjj => cases hjj
    rintro σ Hc ⟨y6, y7, rfl, sc, tc, _⟩
    exact fin Hc sc tc
  cases hch : chG bs rs c with
  | error e =>
    rw [hch, any_err] at hb'
    rcases err_why hch with rfl | rfl | rfl | rfl | rfl <;> exact absurd hb' (by decide +kernel)
  | ok p =>
  rw [hch] at hd
  have hd : Dp K G3 r (.tuple [wD p.1, .list (p.2.map ruleD)]) := hd
  have Vp := chG_ok Vd hok hch
  have sa := na.gg.trans na.gh
  have ta := tabs_same tb na.hh
  have eG : ∀ {G' : Hp}, Same G3 G' → EvG K CG (tVar 4) [some vb, some (.ref l), some vc, some vw, some (.ref g), some r, none, none, none, none, none] G' (bs.map .int) (rs.map ruleD) := fun s' => eg_var (i := 4) rfl (hg.mono s')
  have eD : ∀ {G' : Hp}, Same G3 G' → EvG K CG (tMake CG (spGI K CG CB) [] E0 (tCons (tOp (rIxT K) (tVar 5) (tC (.int 0))) (tCons (tOp (rIxT K) (tVar 5) (tC (.int 1))) tNil))) [some vb, some (.ref l), some vc, some vw, some (.ref g), some r, none, none, none, none, none] G' (p.1.map .int) (p.2.map ruleD) := fun s' => eg_bkL Vp (ed_op (ed_var (i := 5) rfl (dp_mono s' _ hd)) ed_int (ro_ixT (k := 0) rfl rfl)) (ed_op (ed_var (i := 5) rfl (dp_mono s' _ hd)) ed_int (ro_ixT (k := 1) rfl rfl))
  have hcE : ∀ {G' : Hp}, Same G3 G' → EvD K (tVar 2) [some vb, some (.ref l), some vc, some vw, some (.ref g), some r, none, none, none, none, none] G' c.d := fun s' => ed_var (i := 2) rfl (dp_mono s' _ hc)
  refine seq_chk (K := K) (G := G3) (eb_or (a := false) (b := false) (EvB.cast (eb_test (ed_gg OC (eg_ch (eG (Same.refl _)) Vd (hcE (Same.refl _)) hok hch) (eD (Same.refl _)) (shG _ _) (shG _ _))) (by rw [eqG_self]; rfl)) fun _ => EvB.cast (eb_test (ed_gg OC (eg_chK (eG (Same.refl _)) Vd (hcE (Same.refl _)) hok hch) (eD (Same.refl _)) (shG _ _) (shG _ _))) (by rw [eqG_self]; rfl)) sa fun Gb Hb nb => ?_
  have sb := nb.gg.trans nb.gh
  have tb2 := tabs_same ta nb.hh
  -- words
  refine seq_forDL (K := K) (G := G3) (ed_var (i := 3) rfl hw) sb fun G5 H5 n5 => ⟨fun j σ Gi Hc => Nx G5 H5 Gi Hc ∧ ∃ x8 x9, σ = [some vb, some (.ref l), some vc, some vw, some (.ref g), some r, none, none, x8, x9, none],
    ⟨Nx.refl n5.gh, _, _, rfl⟩, lp_ok, fun j d v σ Gi Hc hj hv hP => ?_, fun σ Gi Hc hP => ?_⟩
  · obtain ⟨n, x8, x9, rfl⟩ := hP
    rw [List.getElem?_map] at hj
    obtain ⟨ws, hx, rfl⟩ := Option.map_eq_some_iff.mp hj
    obtain ⟨lw, l1⟩ := hws ws (List.mem_of_getElem? hx)
    have gi := n5.gg.trans n.gg
    dsimp only [gName, List.set_cons_succ, List.set_cons_zero]
    refine seq_let (K := K) (G := Gi) (i := 9) (d := wD (carryW bs rs c ws)) (ed_call (ea_cons (ed_var (i := 0) rfl (dp_mono gi _ hb)) (ea_cons (ed_var (i := 1) rfl (dp_mono gi _ hlD)) (ea_cons (ed_var (i := 2) rfl (dp_mono gi _ hc)) (ea_cons (ed_var (i := 8) rfl hv) ea_nil)))) (R := R_law_carried) (E := E0) ⟨bs, rs, c, ws, p, rfl, Vd, hch, lw, l1, rfl⟩) n.gh fun v9 G6 H6 n6 h9 => ?_
    have g6 := gi.trans n6.gg
    have sh : ∀ ws : List Int, SeqAt.shaped (wD ws) = true := fun ws => shaped_intsT ws
    have eq0 : (!PyData.eqv (wD (carryW bs rs c ws)) (wD (carryW bs rs c ws))) = false := by rw [eqv_words]; simp
    refine if_chk (K := K) (G := G6) (eb_or (a := false) (b := false) (EvB.cast (eb_test (ed_op (ed_cw (eg_var (i := 4) rfl (hg.mono g6)) Vd (ed_var (i := 2) rfl (dp_mono g6 _ hc)) hok hch (ed_var (i := 8) rfl (dp_mono n6.gg _ hv)) lw l1) (ed_var (i := 9) rfl h9) (ro_neD (sh _) (sh _)))) eq0) fun _ => EvB.cast (eb_test (ed_op (ed_cwK (eg_var (i := 4) rfl (hg.mono g6)) Vd (ed_var (i := 2) rfl (dp_mono g6 _ hc)) hok hch (ed_var (i := 8) rfl (dp_mono n6.gg _ hv)) lw l1) (ed_var (i := 9) rfl h9) (ro_neD (sh _) (sh _)))) eq0) n6.gh fun G7 H7 n7 => ⟨G7, n.trans (n6.trans n7), _, _, rfl⟩
  obtain ⟨n, x8, x9, rfl⟩ := hP
  have s7 := n5.gg.trans (n.gg.trans n.gh)
  have t7 := tabs_same (tabs_same tb2 n5.hh) n.hh
  -- what is no word
  refine seq_forOf ?_
  refine (ed_lst (ea_cons ed_non (ea_cons ed_int (ea_cons (ed_lst (ea_cons ed_int ea_nil) (by show 1 ≤ sizeLine; omega)) (ea_cons (ed_tup (ea_cons (EvD.cast (ed_cb (ea_cons (ed_var (i := 0) rfl hb) ea_nil) rcl_len) (by rw [List.length_map])) ea_nil) (by show 1 ≤ sizeLine; omega)) (ea_cons (ed_tup (ea_cons ed_negI ea_nil) (by show 1 ≤ sizeLine; omega)) (ea_cons (ed_tup (ea_cons ed_bl ea_nil) (by show 1 ≤ sizeLine; omega)) (ea_cons ed_str ea_nil))))))) (by show 7 ≤ sizeLine; omega) : EvD K _ [some vb, some (.ref l), some vc, some vw, some (.ref g), some r, none, none, x8, x9, none] G3 (.list (wrongs (bs.length : Int)))) Hc s7 _ fun v G8 H8 n8 hv => ?_
  cases hv with
  | @lst a us _ hsq hus =>
  have s8 := same_noT Z n8.gg
  have Z8 := noTb_noT G8
  have sH8 := noT_same.trans n8.gh
  have t8 := tabs_same t7 n8.hh
  have hsq := sqL_noT hsq
  have hus := dpa_noT _ hus
  generalize noT G8 = G9 at s8 Z8 sH8 hsq hus
  have hg9 := hg.mono s8
  have hc9 := dp_mono s8 _ hc
  refine ⟨a, rfl, ⟨us, sH8.seq hsq⟩, for_list (K := K) (a := a) (xs := us) (fun jj σ Hc => ∃ y10, σ = [some vb, some (.ref l), some vc, some vw, some (.ref g), some r, none, none, x8, x9, y10] ∧ Same G9 Hc ∧ Tabs (TQ61 Pt P2) Hc) ⟨_, rfl, sH8, t8⟩ (fun jj σ Hc _ hp => by obtain ⟨_, _, h, _⟩ := hp; exact h.seq hsq) (fun jj v2 σ Hq' hjj hP => ?_) fun σ Hc hP => ?_⟩
  · obtain ⟨y10, rfl, sq, tq⟩ := hP
    obtain ⟨x, hx, hvx⟩ := dpa_get hus hjj
    obtain ⟨no, sz⟩ := off_rows (List.mem_of_getElem? hx)
    refine ⟨tq, fun H20 e20 t20 => ?_⟩
    dsimp only [TTc]
    refine ⟨_, rfl, _, rfl, _, rfl, ?_⟩
    dsimp only [tCons, tC, tNil]
    refine cw_row (K := K) (ext_same Z8 sq e20) hg9 Vd hc9 hok hch hvx sz no fun G' H' n => ⟨true, xW, fun _ ae hae => ?_, fun z => nomatch z⟩
    have sE := same_upd (o := ErrO (.ref CW) none ae) hae
    have keep := n.hh.trans sE
    exact isc_yes EW kW upd_same ⟨true, rfl, if_off rfl (nx_of ⟨_, rfl, (ext_same Z8 sq e20).trans keep, tabs_same t20 keep⟩)⟩
  obtain ⟨y10, rfl, sq, tq⟩ := hP
  refine (rd_ret (K := K) (G := G9) (EvD.cast (ed_gg OC (eg_var (i := 4) rfl hg9) (eg_bkL Vd (ed_var (i := 0) rfl (dp_mono s8 _ hb)) (ed_var (i := 1) rfl (dp_mono s8 _ hlD))) (shG _ _) (shG _ _)) (congrArg PyData.bool (eqG_self bs rs)))) Hc sq _ fun v' G' H' n' hd' => ?_
  rw [dp_bl hd']
  exact fin H' (s8.trans (sq.trans n'.hh)) (tabs_same tq n'.hh)
end
end Gw
namespace Gw
open PySem PySem.Spec PyProof.Rows L2 LamX
/-! ### letters put in and taken out -/
theorem letter_p {bs : List Int} {rs : List Rl} {a : List Int} {p : List Int × List Rl} (h : chG bs rs (.letter a) = .ok p) : bs.length ≤ 10 ∧ Letters bs.length a ∧ rs.length ≠ 40 ∧ p = (bk2 bs, rs ++ [([(bs.length : Int)], a)]) := by
  simp only [chG] at h
  split at h
  · cases h
  · split at h
    · rename_i h1 h2
      split at h
      · cases h
      · rename_i h3
        cases h
        exact ⟨by omega, lets_iff.mp h2, h3, rfl⟩
    · cases h
theorem means_no {m : Nat} {r : Rl} (h : Letters m r.1) : isMeans m r = false := by
  unfold isMeans
  rw [decide_eq_false, Bool.false_and]
  intro e
  have := h (m : Int) (by rw [e]; exact List.mem_singleton_self _)
  omega
theorem letter_back {bs : List Int} {rs : List Rl} {a : List Int} {p : List Int × List Rl} (Vd : BkR bs rs) (h : chG bs rs (.letter a) = .ok p) : chG p.1 p.2 .unletter = .ok (bs, rs) := by
  obtain ⟨h10, la, h40, rfl⟩ := letter_p h
  have b2 := Vd.B.two
  have ln : (bk2 bs).length = bs.length + 2 := bk2_len
  have l2 : (bk2 bs).length - 2 = bs.length := by omega
  have ge : (bk2 bs).getD ((bk2 bs).length - 2) 0 = ((bk2 bs).length : Int) - 1 := by
    rw [l2, getD_past (x := bs.length) (k := 0) rfl, ln]
    show (bs.length : Int) + 1 = ((bs.length + 2 : Nat) : Int) - 1
    omega
  have hx : (rs ++ [([(bs.length : Int)], a)])[rs.length]? = some ([(bs.length : Int)], a) := by rw [List.getElem?_append_right (Nat.le_refl _), Nat.sub_self]; rfl
  have pl : placeM bs.length (rs ++ [([(bs.length : Int)], a)]) = some rs.length := by
    refine place_some hx ?_ fun i r' hi hr' => ?_
    · unfold isMeans
      rw [decide_eq_true rfl, lets_iff.mpr la]
      rfl
    · rw [List.getElem?_append_left hi] at hr'
      exact means_no (Vd.R r' (List.mem_of_getElem? hr')).2.2.1
  have hl : lastM (bk2 bs) (rs ++ [([(bs.length : Int)], a)]) = .ok rs.length := by
    unfold lastM
    rw [if_neg (by rw [not_or]; exact ⟨by omega, fun z => z ge⟩), l2, pl]
  have hleft : leftR (bk2 bs) (rs ++ [([(bs.length : Int)], a)]) rs.length = rs := by
    unfold leftR
    rw [List.getD_eq_getElem?_getD, hx, List.take_append_of_le_length (Nat.le_refl _), List.take_length, List.drop_eq_nil_of_le (by rw [List.length_append]; exact Nat.le_refl _), List.append_nil]
    refine (List.map_congr_left fun r hm => ?_).trans (List.map_id rs)
    obtain ⟨_, _, h1, h2⟩ := Vd.R r hm
    unfold replR
    rw [repl_less fun x hx => by rw [ln]; have := h1 x hx; omega, repl_less fun x hx => by rw [ln]; have := h2 x hx; omega]
    rfl
  simp only [chG]
  rw [hl]
  dsimp only
  rw [hleft, if_neg, l2, List.take_append_of_le_length (Nat.le_refl _), List.take_length]
  rw [List.any_eq_true]
  rintro ⟨r, hr, z⟩
  obtain ⟨h1, h2, _⟩ := Vd.R r hr
  rw [Bool.or_eq_true, decide_eq_true_eq, decide_eq_true_eq] at z
  omega
theorem kept_letter {bs : List Int} {rs : List Rl} {a : List Int} {p : List Int × List Rl} (Vd : BkR bs rs) (h : chG bs rs (.letter a) = .ok p) : keptM bs rs = keptM p.1 p.2 := by
  obtain ⟨h10, la, h40, rfl⟩ := letter_p h
  exact (kept_more Vd.B la fun r hr => ⟨(Vd.R r hr).2.2.1, (Vd.R r hr).2.2.2⟩).symm
theorem kept_unletter {bs : List Int} {rs : List Rl} {p : List Int × List Rl} (Vd : BkR bs rs) (h : chG bs rs .unletter = .ok p) : keptM bs rs = keptM p.1 p.2 := by
  simp only [chG] at h
  cases hl : lastM bs rs with
  | error e => rw [hl] at h; cases h
  | ok q =>
    rw [hl] at h
    dsimp only at h
    split at h
    · cases h
    · cases h
      obtain ⟨L, hq⟩ := lastM_ok hl
      obtain ⟨r0, h0, hr1, hm⟩ := place_mem hq
      have l4 := L.four
      have lt : (bs.take (bs.length - 2)).length = bs.length - 2 := by rw [List.length_take]; omega
      have eb : bk2 (bs.take (bs.length - 2)) = bs := by
        show bs.take (bs.length - 2) ++ [((bs.take (bs.length - 2)).length : Int) + 1, ((bs.take (bs.length - 2)).length : Int)] = bs
        rw [lt]
        conv => rhs; rw [L.split Vd.B]
        congr 1
        rw [show ((bs.length - 2 : Nat) : Int) + 1 = (bs.length : Int) - 1 by omega, show ((bs.length - 2 : Nat) : Int) = (bs.length : Int) - 2 by omega]
      have e0 : rs.getD q ([], []) = r0 := by rw [List.getD_eq_getElem?_getD, h0]; rfl
      have k := kept_last (b := bs.take (bs.length - 2)) (a := r0.2) (L.back Vd.B) (by rw [lt]; exact hm) (rs := rs) (fun r hr => by
        obtain ⟨_, _, z1, z2⟩ := Vd.R r hr
        rw [lt, show bs.length - 2 + 2 = bs.length by omega]
        exact ⟨z1, z2⟩) (p := q) (by rw [h0, lt, ← hr1])
      rw [eb] at k
      rw [k]
      unfold leftR
      rw [e0]
/-- why a change of letters cannot be done -/
theorem err_let {bs : List Int} {rs : List Rl} {c : Chg} {e : Str} (hc : (∃ a, c = .letter a) ∨ c = .unletter) (h : chG bs rs c = .error e) : e = "word" ∨ e = "many" ∨ e = "letters" ∨ e = "rule" := by
  rcases err_why h with z | z | z | z | z
  · exact .inl z
  · exact .inr (.inl z)
  · subst z
    rcases hc with ⟨a, rfl⟩ | rfl
    · simp only [chG] at h
      split at h
      · cases h
      · split at h
        · split at h <;> cases h
        · cases h
    · simp only [chG] at h
      split at h
      · rename_i x hl
        cases h
        unfold lastM at hl
        split at hl
        · cases hl
        · split at hl <;> cases hl
      · split at h <;> cases h
  · exact .inr (.inr (.inl z))
  · exact .inr (.inr (.inr z))
theorem err_put {bs : List Int} {rs : List Rl} {a : List Int} {e : Str} (h : chG bs rs (.letter a) = .error e) : e = "word" ∨ e = "many" ∨ e = "letters" := by
  simp only [chG] at h
  split at h
  · cases h; exact .inr (.inr rfl)
  · split at h
    · split at h
      · cases h; exact .inr (.inl rfl)
      · cases h
    · cases h; exact .inl rfl
/-! values that are changes, values that are none -/
def someC : List PyData := [.tuple [.str "put", .tuple [.int 0], .tuple []], .tuple [.str "letter", .tuple [.int 11, .int 0]], .tuple [.str "drop", .int 39], .tuple [.str "unletter"], .tuple [.str "put", .tuple (List.replicate 40 (.int 11)), .tuple (List.replicate 40 (.int 0))]]
def wrong1 : List PyData := [.none, .int 5, .str "unletter", .list [], .tuple [], .tuple [.str "other"], .list [.str "unletter"], .tuple [.str "unletter", .int 0], .tuple [.str "drop", .int 40], .tuple [.str "drop", .int (-1)], .tuple [.str "drop", .bool true], .tuple [.str "drop", .none], .tuple [.str "drop"], .tuple [.str "letter", .list [.int 0]]]
def wrong2 : List PyData := [.tuple [.str "letter", .tuple [.int 12]], .tuple [.str "letter", .tuple (List.replicate 41 (.int 0))], .tuple [.str "letter", .tuple [.bool true]], .tuple [.str "letter"], .tuple [.str "put", .tuple [.int 0]], .tuple [.str "put", .tuple [.int 0], .list [.int 0]], .tuple [.str "put", .tuple [.int 0], .tuple [], .tuple []], .tuple [.str "put", .tuple [.int (-1)], .tuple []], .tuple [.none], .tuple [.tuple [], .tuple []]]
def sziB : PyData → Bool
  | .tuple ds => decide (ds.length ≤ 100) && ds.all fun | .tuple es => decide (es.length ≤ 100) | .list es => decide (es.length ≤ 100) | .dict _ => false | _ => true
  | _ => true
theorem sziB_ok {x : PyData} (h : sziB x = true) : SzI x := fun ds e => by
  subst e
  have big : 1000 ≤ sizeLine := by decide
  have h : (decide (ds.length ≤ 100) && ds.all fun | .tuple es => decide (es.length ≤ 100) | .list es => decide (es.length ≤ 100) | .dict _ => false | _ => true) = true := h
  rw [Bool.and_eq_true, decide_eq_true_eq, List.all_eq_true] at h
  refine ⟨by omega, fun x hx => ?_⟩
  have hx := h.2 x hx
  cases x with
  | tuple es => have := of_decide_eq_true hx; show es.length ≤ sizeLine; omega
  | list es => have := of_decide_eq_true hx; first | trivial | (show es.length ≤ sizeLine; omega)
  | dict es => cases hx
  | _ => trivial
theorem some_ok : ∀ x ∈ someC, isChD x = true ∧ SzI x := fun x hx => by
  have h : someC.all (fun x => isChD x && sziB x) = true := by decide +kernel
  have := List.all_eq_true.mp h x hx
  rw [Bool.and_eq_true] at this
  exact ⟨this.1, sziB_ok this.2⟩
theorem wrong_ok : ∀ x ∈ wrong1 ++ wrong2, isChD x = false ∧ SzI x := fun x hx => by
  have h : (wrong1 ++ wrong2).all (fun x => !isChD x && sziB x) = true := by decide +kernel
  have := List.all_eq_true.mp h x hx
  rw [Bool.and_eq_true] at this
  exact ⟨not_t this.1, sziB_ok this.2⟩
end Gw
namespace Gw
open PySem PySem.Spec PyProof.Rows L2 LamX
theorem q_notinD {X : Cx} (K : PySem.W.Frag) (e : X.K = K) (hu : X.A.units + 65 < cLine) : OpR X (compareOp .NotIn) (L2.rNotInD K) := by subst e; exact op_notInD hu
section
variable {K : PySem.W.Frag} {x : PyData} {es : List PyData} {a b : Bool} {i j : Int}
theorem ro_notInL (hx : SeqAt.shaped x = true) (hl : SeqAt.shaped (.list es) = true) : ROp K (L2.rNotInD K) x (.list es) (.bool (!es.any fun e => PyData.eqv e x)) := fun G H s vx vy dx dy Q q => ⟨x, es, dp_mono s x dx, dp_mono s (.list es) dy, hx, hl, q _ G H (Nx.refl s) (.bl _)⟩
theorem ro_notB : ROp K rNotB (.bool a) (.bool b) (.bool (!decide (a = b))) := fun G H s vx vy dx dy Q q => ⟨a, b, dp_bl dx, dp_bl dy, q _ G H (Nx.refl s) (.bl _)⟩
theorem ro_isB : ROp K rIsB (.bool a) (.bool b) (.bool (decide (a = b))) := fun G H s vx vy dx dy Q q => ⟨a, b, dp_bl dx, dp_bl dy, q _ G H (Nx.refl s) (.bl _)⟩
theorem rcl_max2 : RCl K (fun xs H Q => ∃ i j, xs = [V.int i, V.int j] ∧ Q (.int (if j > i then j else i)) H) [.int i, .int j] (.int (if j > i then j else i)) := fun G H s vs hv Q q => by
  obtain _ | ⟨h1, _ | ⟨h2, _ | _⟩⟩ := hv
  exact ⟨i, j, by rw [dp_int h1, dp_int h2], q _ G H (Nx.refl s) (.int _)⟩
theorem shaped_strL {es : List Str} (h : SeqAt.shaped (.list (es.map .str)) = true) : SeqAt.shaped (.list (es.map .str)) = true := h
end
theorem chg_shaped {c : Chg} {k : Str} {r : List PyData} (h : c.d = .tuple (.str k :: r)) : SeqAt.shaped (.str k) = true := by
  cases c <;> (have h := PyData.str.inj (List.cons.inj (PyData.tuple.inj h)).1; rw [← h]; exact shaped_str (by decide +kernel))
theorem due_notin {es : List Str} {e : Str} (h : es.contains e = true) : (!(es.map PyData.str).any fun x => PyData.eqv x (dueD (.error e))) = false := by rw [any_err, h]; rfl
theorem ch_bad {K : PySem.W.Frag} {CG CN CX : Addr} {G H : Hp} {E : XK} {Q : VK} {g : Addr} {v : V} {bs : List Int} {rs : List Rl} {x : PyData} (s : Same G H) (hg : GB K CG G g bs rs) (Vd : BkR bs rs) (hv : Dp K G v x) (sz : SzI x) (no : isChD x = false) (q : ∀ G' H', Nx G H G' H' → E (.ref CX) none H') : spCH K CG CN CX [.ref g, v] H Q E :=
  ⟨G, g, v, bs, rs, x, s, rfl, hg, Vd, hv, sz, (fun c e hc => by
    subst e
    exact absurd ((isChD_d hc).symm.trans no) (by decide)), (fun c e hc => by
    subst e
    exact absurd ((isChD_d hc).symm.trans no) (by decide)), fun _ => q⟩
theorem rep_flat {x : PyData} (n : Nat) : (List.replicate n [x]).flatten = List.replicate n x := by
  induction n with
  | zero => rfl
  | succ n ih => rw [List.replicate_succ, List.replicate_succ, List.flatten_cons, ih]; rfl
theorem ed_repN {K : PySem.W.Frag} {σ : L2.St} {G : Hp} {x n : Int} (h0 : 0 ≤ n) (h1 : n ≤ 1000) : EvD K (tOp (rRepA K) (tTup (tCons (tC (.int x)) tNil)) (tC (.int n))) σ G (.tuple (List.replicate n.toNat (.int x))) :=
  EvD.cast (ed_op (z := .tuple (List.replicate n.toNat [PyData.int x]).flatten) (ed_tup (ea_cons ed_int ea_nil) (by show 1 ≤ sizeLine; decide)) ed_int (ro_repA (fun z => nomatch z) (by show 1 ≤ 1000; decide) h0 h1)) (by rw [rep_flat])
theorem bad_at {K : PySem.W.Frag} {CB : Addr} {n : Nat} {G H : Hp} {E : XK} {Q : VK} {v : V} {us : List V} {x : PyData} (s : Same G H) (l : us.length = n) (hv : Dp K G v x) (q : ∀ d H', Same H H' → H' d = some (.xd (eF .non)) → E (.ref CB) (some d) H') : spBG K CB n (v :: us) H Q E := ⟨G, v, us, x, s, rfl, l, hv, q⟩
theorem bk10 : BkR [1, 0] [] := ⟨bk_of rfl rfl (by decide +kernel), (fun r hr => nomatch hr), Nat.zero_le _⟩
set_option maxHeartbeats 0 in
theorem ok_law {P : Program} {w : World} {K : PySem.W.Frag} {mg : Str → Option Value} {base : Heap} (T : Bt mg) {CG CN CX CB CS fB fGe : Addr} {fdGe : FuncData} (t_BadGroup : PySem.SupX.SupTxt P K mg "BadGroup" "part" CB fB) (e_BadChange : Err K mg "BadChange" CX) (gG : mg "GroupError" = some (.ref CS)) (EB : ExcC K CB) (EX : ExcC K CX)
  (xB : PySem.W.exmOne K (.ref CB) (.ref CS) = some true) (xX : PySem.W.exmOne K (.ref CX) (.ref CS) = some true) (kB : PySem.W.kitOne K (.ref CB) (.ref CB) = some true) (kX : PySem.W.kitOne K (.ref CX) (.ref CX) = some true)
  (OC : OwnC K CG) (O_Group : OwnE K CG fGe) (F_Group : FnOk P w K mg base CX0 2 fGe fdGe P_Groupeq (spEQ K CG)) (b_Group : Binds K fdGe P_Groupeq [])
  (h_Group : MkX P w K mg base "Group" P_Groupinit ["rules", "back"] 7 CG (spGI K CG CB) gR gR) (h_is_change : OkF P w K mg base "is_change" s_is_change P_is_change 5 (SpD K R_is_change)) (h_changed : OkX P w K mg base "changed" s_changed P_changed 10 (spCH K CG CN CX)) (h_changed_bad : OkX P w K mg base "changed" s_changed P_changed 10 (spBG K CB 1)) (h_changed_word_bad : OkX P w K mg base "changed_word" s_changed_word P_changed_word 11 (spBG K CB 2))
  (h__law_begun : Ok P w K mg base "_law_begun" P_law_begun 1 (spBegun K)) (h__law_take : Ok P w K mg base "_law_take" P_law_take 2 spTake) (h__law_word : Ok P w K mg base "_law_word" P_law_word 3 (spWordG K)) (h__law_some_group : Ok P w K mg base "_law_some_group" P_law_some_group 4 (spSomeG K)) (h__law_full_group : Ok P w K mg base "_law_full_group" P_law_full_group 4 (spSomeG K)) (h__law_some_change : Ok P w K mg base "_law_some_change" P_law_some_change 4 (spSomeC K))
  (h__law_changed : Ok P w K mg base "_law_changed" P_law_changed 2 (spLC K)) (h__law_kept_lists : Ok P w K mg base "_law_kept_lists" P_law_kept_lists 4 (SpD K R_law_kept_lists))
  {fq : Addr} {fdq : FuncData} (D_caught : DefAt K mg "_law_caught" s_law_caught P_law_caught fq fdq)
  {c0 Pt P2 : Addr} (h__law_change_right : Ok P w K mg base "_law_change_right" P_law_change_right 15 (spCR K (TQ61 Pt P2))) (TB : LamX.TabB base mg c0 Pt) (hPP : Pt ≠ P2)
  {f : Addr} {s : Shared} {H : Hp} {a : Addr} {ns : List Int} (hr : Room 16 (callerA.deeper (envOfC "law" (defScope s_law) s.heap.objs.size f (.ref c0)))) (hS : SqL K H a (ns.map V.int)) (h63 : ns.length ≤ 63) (hP : H Pt = some (.tbl #[])) (hP2 : H P2 = some (.tbl #[])) :
  ∃ t, PSs (cxOf CX0 P w K mg base N_law "law" (defScope s_law) f (.ref c0) callerA [] s H E0).nox (defBody s_law) t ∧ t { nx := fun _ _ => V.non = V.bl true, rt := fun v _ => v = .bl true } (start N_law [.ref a]) H := by
  have S := sc_law
  obtain ⟨oc, od, kV, doc, pm, an, cdv, ct, osl, rfl, lk_caught, c_caught⟩ := D_caught.F.ex
  have m_caught := D_caught.m
  have k_caught := D_caught.F.kp
  have b_caught := D_caught.b
  have hcode : (.ref c0 : Value) = .ref c0 := rfl
  have hmq : (Pt, qL "law" s_law) ∈ TQ61 Pt P2 := List.mem_cons_self
  have huq : ∀ p ∈ TQ61 Pt P2, p.1 = Pt → p.2 = qL "law" s_law := fun p hp e => by
    rcases List.mem_cons.mp hp with rfl | hp
    · rfl
    · rw [List.mem_singleton.mp hp] at e
      exact absurd e.symm hPP
  refine ⟨_, (pss_cons (ps_set (i := 1) S.nd rfl (by first | exact .inl rfl | exact .inr rfl) (pe_ok h__law_begun (hr.mono (by decide)) (by rfl) (pa_cons (pv 0) pa_nil)))
  (pss_cons (ps_for PassesOwn.never rfl (pi_range1 (by rfl) T.range (pa_cons (pe_op op_add pe_int (pe_callB (call_min2 rfl) (by rfl) T.min (by decide +kernel) (pa_cons (pe_callB (q_len K rfl) (by rfl) T.len PySem.boot_len (pa_cons (pv 0) pa_nil)) (pa_cons pe_int pa_nil)))) pa_nil)) (pg_name (i := 2) S.nd rfl (by first | exact .inl rfl | exact .inr rfl)) (pss_cons (ps_asg (pe_ifExp (pt_cmpR op_gt (pe_ok h__law_take (hr.mono (by decide)) (by rfl) (pa_cons (pv 1) (pa_cons pe_int pa_nil))) pe_int (nomark _)) (pe_ok h__law_some_group (hr.mono (by decide)) (by rfl) (pa_cons (pv 1) pa_nil)) (pe_ok h__law_full_group (hr.mono (by decide)) (by rfl) (pa_cons (pv 1) pa_nil))) (q_gT K 2 rfl rfl (pgs_cons (pg_name (i := 3) S.nd rfl (by first | exact .inl rfl | exact .inr rfl)) (pgs_cons (pg_name (i := 4) S.nd rfl (by first | exact .inl rfl | exact .inr rfl)) pgs_nil))))
  (pss_cons (ps_set (i := 5) S.nd rfl (by first | exact .inl rfl | exact .inr rfl) (pe_ok h__law_some_change (hr.mono (by decide)) (by rfl) (pa_cons (pv 1) (pa_cons (pv 3) (pa_cons (pv 4) pa_nil)))))
  (pss_cons (ps_setLc (i := 6) (own := [("k", 7)]) (g := gName 7) (by rfl) S.nd rfl rfl (sw_true rfl rfl rfl (by decide +kernel)) (pi_range1 (by rfl) T.range (pa_cons pe_int pa_nil)) (blkOk_by (N := N_law) (sc := defScope s_law) (by decide +kernel)) (fun _ _ _ _ _ => (pg_name (i := 7) S.nd rfl (by first | exact .inl rfl | exact .inr rfl))) (fun _ _ _ _ _ => pts_nil) (fun _ _ _ _ _ => (pe_ok h__law_word (hr.mono (by decide)) (by rfl) (pa_cons (pv 1) (pa_cons (pv 3) (pa_cons pe_int pa_nil))))))
  (pss_cons (ps_if (PW.pt (pw_or (pt_not (pt_val (pe_ok h__law_change_right (hr.mono (by decide)) (by rfl) (pa_cons (pv 3) (pa_cons (pv 4) (pa_cons (pv 5) (pa_cons (pv 6) pa_nil))))))) (pw_or1 (pt_cmpR op_notBl (pe_ok h_is_change.ok (hr.mono (by decide)) (by rfl) (pa_cons (pv 5) pa_nil)) pe_bl (nomark _))))) (pss_one (ps_ret pe_bl)) pss_nil)
  (pss_cons (ps_set (i := 8) S.nd rfl (by first | exact .inl rfl | exact .inr rfl) (pe_ok h__law_changed (hr.mono (by decide)) (by rfl) (pa_cons (pv 3) (pa_cons (pv 4) (pa_cons (pv 5) pa_nil)))))
  (pss_cons (ps_if (PW.pt (pw_and (pt_cmpR (q_inD K rfl hr.in1.units) (pe_ix (q_ixT K rfl) (pv 5) pe_int (fun _ _ => rfl)) (pe_lst (pa_cons pe_str (pa_cons pe_str pa_nil))) (by rfl)) (pw_and (pt_cmpR (q_notinD K rfl hr.in1.units) (pv 8) (pe_lst (pa_cons pe_str (pa_cons pe_str (pa_cons pe_str (pa_cons pe_str pa_nil))))) (by rfl)) (pw_and1 (pt_cmpR op_lt (pe_callB (call_max2 rfl) (by rfl) T.max (by decide +kernel) (pa_cons (pe_callB (q_len K rfl) (by rfl) T.len PySem.boot_len (pa_cons (pv 3) pa_nil)) (pa_cons (pe_callB (q_len K rfl) (by rfl) T.len PySem.boot_len (pa_cons (pe_ix (q_ixT K rfl) (pv 8) pe_int (fun _ _ => rfl)) pa_nil)) pa_nil))) pe_int (nomark _)))))) (pss_one (ps_if (pt_cmpR op_ne (pe_ok h__law_kept_lists (hr.mono (by decide)) (by rfl) (pa_cons (pv 3) (pa_cons (pv 4) pa_nil))) (pe_ok h__law_kept_lists (hr.mono (by decide)) (by rfl) (pa_cons (pe_ix (q_ixT K rfl) (pv 8) pe_int (fun _ _ => rfl)) (pa_cons (pe_ix (q_ixT K rfl) (pv 8) pe_int (fun _ _ => rfl)) pa_nil))) (nomark _)) (pss_one (ps_ret pe_bl)) pss_nil)) pss_nil)
  (pss_one (ps_if (PW.pt (pw_and (pt_cmpR op_eq (pe_ix (q_ixT K rfl) (pv 5) pe_int (fun _ _ => rfl)) pe_str (nomark _)) (pw_and1 (pt_cmpR (q_notinD K rfl hr.in1.units) (pv 8) (pe_lst (pa_cons pe_str (pa_cons pe_str (pa_cons pe_str pa_nil)))) (by rfl))))) (pss_one (ps_if (pt_cmpR (op_ownNe O_Group F_Group b_Group pass0 (hr.mono (by decide))) (pe_okX h_changed passL (hr.mono (by decide)) (by rfl) (pa_cons (pe_okX h_changed passL (hr.mono (by decide)) (by rfl) (pa_cons (pe_mkX h_Group passL (hr.mono (by decide)) (by rfl) (pa_cons (pv 3) (pa_cons (pv 4) pa_nil))) (pa_cons (pv 5) pa_nil))) (pa_cons (pe_tup (pa_cons pe_str pa_nil)) pa_nil))) (pe_mkX h_Group passL (hr.mono (by decide)) (by rfl) (pa_cons (pv 3) (pa_cons (pv 4) pa_nil))) (nomark _)) (pss_one (ps_ret pe_bl)) pss_nil)) pss_nil)))))))))
  (pss_cons (ps_set (i := 9) S.nd rfl (by first | exact .inl rfl | exact .inr rfl) (pe_lst (pa_cons (pe_tup (pa_cons pe_str (pa_cons (pe_tup (pa_cons pe_int pa_nil)) (pa_cons (pe_tup pa_nil) pa_nil)))) (pa_cons (pe_tup (pa_cons pe_str (pa_cons (pe_tup (pa_cons pe_int (pa_cons pe_int pa_nil))) pa_nil))) (pa_cons (pe_tup (pa_cons pe_str (pa_cons pe_int pa_nil))) (pa_cons (pe_tup (pa_cons pe_str pa_nil)) (pa_cons (pe_tup (pa_cons pe_str (pa_cons (pe_op (q_repA K rfl) (pe_tup (pa_cons pe_int pa_nil)) pe_int) (pa_cons (pe_op (q_repA K rfl) (pe_tup (pa_cons pe_int pa_nil)) pe_int) pa_nil)))) pa_nil)))))))
  (pss_cons (ps_set (i := 10) S.nd rfl (by first | exact .inl rfl | exact .inr rfl) (pe_lst (pa_cons pe_non (pa_cons pe_int (pa_cons pe_str (pa_cons (pe_lst pa_nil) (pa_cons (pe_tup pa_nil) (pa_cons (pe_tup (pa_cons pe_str pa_nil)) (pa_cons (pe_lst (pa_cons pe_str pa_nil)) (pa_cons (pe_tup (pa_cons pe_str (pa_cons pe_int pa_nil))) (pa_cons (pe_tup (pa_cons pe_str (pa_cons pe_int pa_nil))) (pa_cons (pe_tup (pa_cons pe_str (pa_cons (pe_un un_neg pe_int) pa_nil))) (pa_cons (pe_tup (pa_cons pe_str (pa_cons pe_bl pa_nil))) (pa_cons (pe_tup (pa_cons pe_str (pa_cons pe_non pa_nil))) (pa_cons (pe_tup (pa_cons pe_str pa_nil)) (pa_cons (pe_tup (pa_cons pe_str (pa_cons (pe_lst (pa_cons pe_int pa_nil)) pa_nil))) pa_nil))))))))))))))))
  (pss_cons (ps_aug (i := 10) S.nd rfl (by first | exact .inl rfl | exact .inr rfl) (pe_lst (pa_cons (pe_tup (pa_cons pe_str (pa_cons (pe_tup (pa_cons pe_int pa_nil)) pa_nil))) (pa_cons (pe_tup (pa_cons pe_str (pa_cons (pe_op (q_repA K rfl) (pe_tup (pa_cons pe_int pa_nil)) pe_int) pa_nil))) (pa_cons (pe_tup (pa_cons pe_str (pa_cons (pe_tup (pa_cons pe_bl pa_nil)) pa_nil))) (pa_cons (pe_tup (pa_cons pe_str pa_nil)) (pa_cons (pe_tup (pa_cons pe_str (pa_cons (pe_tup (pa_cons pe_int pa_nil)) pa_nil))) (pa_cons (pe_tup (pa_cons pe_str (pa_cons (pe_tup (pa_cons pe_int pa_nil)) (pa_cons (pe_lst (pa_cons pe_int pa_nil)) pa_nil)))) (pa_cons (pe_tup (pa_cons pe_str (pa_cons (pe_tup (pa_cons pe_int pa_nil)) (pa_cons (pe_tup pa_nil) (pa_cons (pe_tup pa_nil) pa_nil))))) (pa_cons (pe_tup (pa_cons pe_str (pa_cons (pe_tup (pa_cons (pe_un un_neg pe_int) pa_nil)) (pa_cons (pe_tup pa_nil) pa_nil)))) (pa_cons (pe_tup (pa_cons pe_non pa_nil)) (pa_cons (pe_tup (pa_cons (pe_tup pa_nil) (pa_cons (pe_tup pa_nil) pa_nil))) pa_nil))))))))))) iop_ext)
  (pss_cons (ps_if (PW.pt (pw_or (pt_not (pt_val (pe_callB (q_all K rfl rfl) (by rfl) T.all (by decide +kernel) (pa_cons (pe_lc (own := [("item", 11)]) (g := gName 11) (by rfl) S.nd  (q_iL K rfl (pv 9)) (blkOk_by (N := N_law) (sc := defScope s_law) (by decide +kernel)) (fun _ _ _ _ _ => (pg_name (i := 11) S.nd rfl (by first | exact .inl rfl | exact .inr rfl))) (fun _ _ _ _ _ => pts_nil) (fun _ _ _ _ _ => (pe_cmpR op_isBl (pe_ok h_is_change.ok (hr.mono (by decide)) (by rfl) (pa_cons (pv 11) pa_nil)) pe_bl (nomark _)))) pa_nil)))) (pw_or (pt_not (pt_val (pe_callB (q_all K rfl rfl) (by rfl) T.all (by decide +kernel) (pa_cons (pe_lc (own := [("item", 11)]) (g := gName 11) (by rfl) S.nd  (q_iL K rfl (pv 10)) (blkOk_by (N := N_law) (sc := defScope s_law) (by decide +kernel)) (fun _ _ _ _ _ => (pg_name (i := 11) S.nd rfl (by first | exact .inl rfl | exact .inr rfl))) (fun _ _ _ _ _ => pts_nil) (fun _ _ _ _ _ => (pe_cmpR op_isBl (pe_ok h_is_change.ok (hr.mono (by decide)) (by rfl) (pa_cons (pv 11) pa_nil)) pe_bl (nomark _)))) pa_nil)))) (pw_or1 (pt_cmpR op_notBl (pe_okK0 h_is_change kb_is_change (hr.mono (by decide)) (by rfl) (pk_cons (pe_tup (pa_cons pe_str pa_nil)) pk_nil)) pe_bl (nomark _)))))) (pss_one (ps_ret pe_bl)) pss_nil)
  (pss_cons (ps_for PassesOwn.never rfl (q_iL K rfl (pv 10)) (pg_name (i := 11) S.nd rfl (by first | exact .inl rfl | exact .inr rfl)) (pss_one (ps_if (pt_not (pt_val (pe_callB cr_isC (by rfl) T.isinstance (by decide +kernel) (pa_cons (LamX.pe_lamcall (k := 11) (by rfl) m_caught k_caught lk_caught c_caught b_caught sc_law_caught rfl (.inl rfl) (caught_gives gG) TB hcode hmq huq (hr.mono (by decide)) (LamX.lamS_by (show LamX.lamSB (defScope s_law) _ = true by decide +kernel)) rfl (fun _ _ _ _ _ => rfl) (fun A outer s H E f c' hr => (pe_okX h_changed (passes_call (takes_of rfl rfl rfl rfl) fun _ _ _ _ h => h) (hr.mono (by decide)) (by rfl) (pa_cons (pe_mkX h_Group (passes_call (takes_of rfl rfl rfl rfl) fun _ _ _ _ h => h) (hr.mono (by decide)) (by rfl) (pa_cons (pe_tup (pa_cons pe_int (pa_cons pe_int pa_nil))) (pa_cons (pe_lst pa_nil) pa_nil))) (pa_cons (pv 11) pa_nil))))) (pa_cons (pe_glob (v := .ref CX) (by rfl) e_BadChange.g rfl) pa_nil))))) (pss_one (ps_ret pe_bl)) pss_nil)))
  (pss_cons (ps_for PassesOwn.never rfl (q_iL K rfl (pe_lst (pa_cons pe_non (pa_cons pe_int (pa_cons pe_str (pa_cons (pe_tup pa_nil) (pa_cons (pe_lst (pa_cons (pe_tup (pa_cons pe_int (pa_cons pe_int pa_nil))) (pa_cons (pe_lst pa_nil) pa_nil))) pa_nil))))))) (pg_name (i := 11) S.nd rfl (by first | exact .inl rfl | exact .inr rfl)) (pss_one (ps_for PassesOwn.never rfl (q_iL K rfl (pe_lst (pa_cons (pe_lamV TB hcode hmq huq (LamX.lamS_by (show LamX.lamSB (defScope s_law) _ = true by decide +kernel)) rfl) (pa_cons (pe_lamV TB hcode hmq huq (LamX.lamS_by (show LamX.lamSB (defScope s_law) _ = true by decide +kernel)) rfl) pa_nil)))) (pg_name (i := 12) S.nd rfl (by first | exact .inl rfl | exact .inr rfl)) (pss_cons (ps_set (i := 13) S.nd rfl (by first | exact .inl rfl | exact .inr rfl) (pe_giv (k := 11) (by rfl) m_caught k_caught lk_caught c_caught b_caught sc_law_caught rfl (.inl rfl) (caught_gives gG) (hr.mono (by decide)) rfl lams_good (pv 12)))
  (pss_one (ps_if (PW.pt (pw_or (pt_not (pt_val (pe_callB cr_isC2 (by rfl) T.isinstance (by decide +kernel) (pa_cons (pv 13) (pa_cons (pe_glob (v := .ref CB) (by rfl) t_BadGroup.gC rfl) pa_nil))))) (pw_or1 (pt_cmpR op_notN (pe_errFld t_BadGroup (pv 13)) pe_non (nomark _))))) (pss_one (ps_ret pe_bl)) pss_nil))))))
  (pss_one (ps_ret pe_bl)))))))))), ?_⟩
  refine ⟨_, rfl, a, ns, rfl, hS, h63, fun d l c H1 sm hd hl hc D1 => ?_⟩
  have hS1 : SqL K H1 a (ns.map V.int) := sm.seq hS
  have hlen : (ns.map V.int).length ≤ 63 := by rw [List.length_map]; exact h63
  have T1 : Tabs (TQ61 Pt P2) H1 := fun p hp => by
    rcases List.mem_cons.mp hp with rfl | hp
    · exact TabS.nil (sm _ _ hP)
    · rw [List.mem_singleton.mp hp]
      exact TabS.nil (sm _ _ hP2)
  have big : 2000000 ≤ sizeLine := by decide
  refine ⟨_, rfl, a, _, rfl, .inl hS1, _, _, rfl, _, _, rfl, rfl, _, rfl, ?_, ?_, ?_⟩
  · split <;> omega
  · split <;> omega
  refine for_range (lo := 0) (fun _ σ Hc => ∃ z2 z3 z4 z5 z6 z7 z8, σ = [some (.ref a), some (.ref d), z2, z3, z4, z5, z6, z7, z8, none, none, none, none, none] ∧ Drw Hc d l c ∧ Tabs (TQ61 Pt P2) Hc)
    ⟨_, _, _, _, _, _, _, rfl, D1, T1⟩ (fun i σ Hc hi hP => ?_) (fun σ Hc hP => ?_)
  · obtain ⟨z2, z3, z4, z5, z6, z7, z8, rfl, Dc, Tc⟩ := hP
    have V0 := offD_vw Dc
    try dsimp only [gName, List.set_cons_succ, List.set_cons_zero]
    -- a group
    refine seq_cut (fun σ' H' => ∃ (G1 : Hp) (vb : V) (lr : Addr) (xs : List V) (bs : List Int) (rs : List Rl), σ' = [some (.ref a), some (.ref d), some (.int ((0 : Int) + (i : Int))), some vb, some (.ref lr), z5, z6, z7, z8, none, none, none, none, none] ∧ Vw G1 H' d l c ∧ Tabs (TQ61 Pt P2) H' ∧ BkR bs rs ∧ Dp K G1 vb (wD bs) ∧ G1 lr = some (.lst xs) ∧ DpAll K G1 xs (rs.map ruleD)) ?_ fun fin => ?_
    rotate_left
    · refine ⟨_, rfl, d, l, c, 5, rfl, V0.dr, by decide, by decide, fun k H2 k0 k1 nd2 D2 => ⟨_, _, rfl, rfl, _, rfl, ?_⟩⟩
      have m2 := Mv.nd (K := K) V0 Tc nd2 D2
      cases decide ((0 : Int) < k) with
      | true =>
        refine iteT ⟨_, rfl, offD d l c Hc, TQ61 Pt P2, d, l, c, rfl, m2.vw, m2.tb, fun p vb lr xs G' H' bs rs Vd m hp hb hlr hxs => ?_⟩
        refine ⟨p, _, rfl, same_tup m.vw.gh hp, rfl, _, _, rfl, _, _, rfl, rfl, ?_⟩
        exact fin _ _ ⟨G', vb, lr, xs, bs, rs, rfl, m.vw, m.tb, Vd, hb, hlr, hxs⟩
      | false =>
        refine iteF ⟨_, rfl, offD d l c Hc, TQ61 Pt P2, d, l, c, rfl, m2.vw, m2.tb, fun p vb lr xs G' H' bs rs Vd m hp hb hlr hxs => ?_⟩
        refine ⟨p, _, rfl, same_tup m.vw.gh hp, rfl, _, _, rfl, _, _, rfl, rfl, ?_⟩
        exact fin _ _ ⟨G', vb, lr, xs, bs, rs, rfl, m.vw, m.tb, Vd, hb, hlr, hxs⟩
    rintro σ' H2 ⟨G1, vb, lr, xs, bs, rs, rfl, V1, T1, Vd, hb, hlr, hxs⟩
    clear Dc Tc V0
    have hlD : Dp K G1 (.ref lr) (.list (rs.map ruleD)) := .lst (SqL.of hlr) hxs
    -- a change
    refine seq_asg ⟨_, rfl, _, rfl, _, rfl, G1, TQ61 Pt P2, d, l, c, vb, .ref lr, bs, rs, rfl, V1, T1, hb, hlD, Vd.B, Vd.L, fun vc G3 H3 cg hok m3 hc3 => ?_⟩
    have hb3 := m3.dp hb
    have hlr3 := m3.lv (o := .lst xs) (fun _ z => nomatch z) hlr
    have hxs3 := dpa_by m3.dp hxs
    have V3 := m3.vw
    have T3 := m3.tb
    try dsimp only [gName, List.set_cons_succ, List.set_cons_zero]
    clear m3 hlD hxs hlr hb V1 T1
    -- words
    have b2 := Vd.B.two
    have b12 := Vd.B.six
    refine seq_asg ⟨3, rfl, by decide, by decide, fun p6 hp6 => ?_⟩
    obtain ⟨gr0, v0, s0⟩ := Gr.start (K := K) V3 hp6
    refine lc_range (lo := 0) (n := 3) (fun k Hd => ∃ (Gd : Hp) (wss : List (List Int)), Mv K (TQ61 Pt P2) d l c G3 H3 Gd Hd ∧ Gr K d l c Gd Hd p6 (wss.map wD) ∧ wss.length = k ∧ ∀ ws ∈ wss, Letters bs.length ws ∧ ws.length ≤ 1000)
      ⟨G3, [], Mv.same V3 T3 s0, gr0, rfl, fun ws h => nomatch h⟩ (fun k Hd hk hP => ?_) fun Hd hP => ?_
    · obtain ⟨Gd, wss, md, gd, lw, hws⟩ := hP
      refine ⟨rfl, tyes ?_⟩
      have hbd := md.dp hb3
      obtain ⟨b, eb, hB⟩ := word_at md.vw (.inl hbd)
      refine ⟨_, rfl, _, rfl, d, l, c, b, _, 9, by rw [← eb]; rfl, md.vw.dr, hB, by rw [List.length_map]; omega, by rw [List.length_map]; omega, by decide, by decide, fun p ws H' e1 e2 e3 e4 e5 e6 => ?_⟩
      obtain ⟨mw, hu⟩ := word_mv (K := K) md.vw md.tb e3 e4 e5 e6
      rw [List.length_map] at e2
      have g7 := gd.mv mw
      obtain ⟨acc, ea, ha⟩ := id g7.ex
      obtain ⟨mf, gf⟩ := (md.trans mw).put hp6 g7 (dpa_append ha (.cons hu .nil))
      have la := dpa_length ha
      rw [List.length_map] at la
      refine ⟨acc, ea, by omega, _, wss ++ [ws], mf, by rw [List.map_append]; exact gf, by rw [List.length_append, lw]; rfl, fun ws' h => ?_⟩
      rcases List.mem_append.mp h with h | h
      · exact hws ws' h
      · rw [List.mem_singleton.mp h]
        exact ⟨e2, by omega⟩
    obtain ⟨Gd, wss, md, gd, lw, hws⟩ := hP
    obtain ⟨acc, ea, ha⟩ := id gd.ex
    have m4 := md.told hp6 gd.g ea gd.nd gd.nl gd.nc
    have s4 : Same Gd (upd Gd p6 (.lst acc)) := fun b u z => by rw [upd_ne (ne_of_none z gd.g)]; exact z
    have hw4 : Dp K (upd Gd p6 (.lst acc)) (.ref p6) (.list (wss.map wD)) := .lst (SqL.of upd_same) (dpa_mono s4 _ ha)
    generalize upd Gd p6 (.lst acc) = G4 at m4 s4 hw4
    have V4 := m4.vw
    have T4 := m4.tb
    have hb4 := m4.dp hb3
    have hc4 := m4.dp hc3
    have hlr4 := m4.lv (o := .lst xs) (fun _ z => nomatch z) hlr3
    have hxs4 := dpa_by m4.dp hxs3
    try dsimp only [gName, List.set_cons_succ, List.set_cons_zero]
    clear m4 md gd ea ha s4 gr0 v0 s0 hp6 hb3 hc3 hlr3 hxs3 V3 T3
    -- the change is right
    refine ⟨_, rfl, _, rfl, _, rfl, _, rfl, G4, vb, vc, .ref p6, lr, xs, bs, rs, cg, wss, V4.gh, T4, rfl, hb4, hlr4, hxs4, Vd, hc4, hok, hw4, hws, by omega, fun H5 e5 t5 => ⟨true, rfl, ?_⟩⟩
    have m5 := Mv.ext (K := K) V4 e5 t5
    have V5 := m5.vw
    have hb5 := m5.dp hb4
    have hc5 := m5.dp hc4
    have hlr5 := m5.lv (o := .lst xs) (fun _ z => nomatch z) hlr4
    have hxs5 := dpa_by m5.dp hxs4
    clear hb4 hc4 hlr4 hxs4 hw4 V4 T4 e5
    try dsimp only
    rw [if_neg (by decide)]
    refine (EvB.cast (eb_test (ed_op (ed_call (ea_cons (ed_var (i := 5) rfl hc5) ea_nil) (R := R_is_change) (E := E0) ⟨cg.d, rfl, szi_chg hok, rfl⟩) ed_bl ro_notB)) (by rw [isChD_d hok]; rfl) : EvB K _ [some (.ref a), some (.ref d), some (.int ((0 : Int) + (i : Int))), some vb, some (.ref lr), some vc, some (.ref p6), z7, z8, none, none, none, none, none] (noT G4) false) H5 V5.gh _ fun G6 H6 n6 => ?_
    try dsimp only
    rw [if_neg Bool.false_ne_true]
    refine nx_of ?_
    have m6 := Mv.nx (K := K) V5 m5.tb n6
    have V6 := m6.vw
    have T6 := m6.tb
    have hb6 := m6.dp hb5
    have hc6 := m6.dp hc5
    have hlr6 := m6.lv (o := .lst xs) (fun _ z => nomatch z) hlr5
    have hxs6 := dpa_by m6.dp hxs5
    clear m6 n6 m5 hb5 hc5 hlr5 hxs5 V5 t5
    -- what is due
    try dsimp only
    refine seq_asg ⟨_, rfl, _, rfl, _, rfl, G6, vb, vc, lr, xs, bs, rs, cg, V6.gh, rfl, hb6, hlr6, hxs6, hc6, Vd, hok, fun vd G7 H7 n7 hd7 => ?_⟩
    have m7 := Mv.nx (K := K) V6 T6 n7
    have V7 := m7.vw
    have T7 := m7.tb
    have hb7 := m7.dp hb6
    have hc7 := m7.dp hc6
    have hlr7 := m7.lv (o := .lst xs) (fun _ z => nomatch z) hlr6
    have hxs7 := dpa_by m7.dp hxs6
    have hl7 : Dp K G7 (.ref lr) (.list (rs.map ruleD)) := .lst (SqL.of hlr7) hxs7
    try dsimp only [gName, List.set_cons_succ, List.set_cons_zero]
    clear m7 n7 hb6 hc6 hlr6 hxs6 V6 T6
    have end1 : ∀ H', Same H7 H' → ∃ z2 z3 z4 z5 z6 z7' z8', ([some (.ref a), some (.ref d), some (.int ((0 : Int) + (i : Int))), some vb, some (.ref lr), some vc, some (.ref p6), z7, some vd, none, none, none, none, none] : L2.St) = [some (.ref a), some (.ref d), z2, z3, z4, z5, z6, z7', z8', none, none, none, none, none] ∧ Drw H' d l c ∧ Tabs (TQ61 Pt P2) H' := fun H' sm => ⟨_, _, _, _, _, _, _, rfl, V7.dr.same sm, tabs_same T7 sm⟩
    obtain ⟨k, r, ed, k1, k2, k3, k4⟩ := chg_first cg
    have hc7' := hc7
    rw [ed] at hc7'
    have shk := chg_shaped ed
    have kE : ∀ {G' : Hp}, Same G7 G' → EvD K (tOp (rIxT K) (tVar 5) (tC (.int 0))) [some (.ref a), some (.ref d), some (.int ((0 : Int) + (i : Int))), some vb, some (.ref lr), some vc, some (.ref p6), z7, some vd, none, none, none, none, none] G' (.str k) := fun s' => ed_op (ed_var (i := 5) rfl (dp_mono s' _ hc7')) ed_int (ro_ixT (k := 0) rfl rfl)
    have inE : ∀ {G' : Hp}, Same G7 G' → EvB K (tTest (tOp (rInD K) (tOp (rIxT K) (tVar 5) (tC (.int 0))) (tLst (tCons (tC (.str "letter")) (tCons (tC (.str "unletter")) tNil))))) [some (.ref a), some (.ref d), some (.int ((0 : Int) + (i : Int))), some vb, some (.ref lr), some vc, some (.ref p6), z7, some vd, none, none, none, none, none] G' (([("letter" : Str), "unletter"]).contains k) := fun s' => EvB.cast (eb_test (ed_op (kE s') (ed_lst (ea_cons ed_str (ea_cons ed_str ea_nil)) (by show 2 ≤ sizeLine; omega)) (ro_inL shk (shaped_strs (es := ["letter", "unletter"]) (by decide +kernel))))) (any_err ["letter", "unletter"] k)
    have isLet : ([("letter" : Str), "unletter"]).contains k = true → (∃ a, cg = .letter a) ∨ cg = .unletter := fun h => by
      rw [List.contains_cons, List.contains_cons, Bool.or_eq_true, Bool.or_eq_true, beq_iff_eq, beq_iff_eq] at h
      rcases h with h | h | h
      · exact .inl (k3.mp h)
      · exact .inr (k4.mp h)
      · cases h
    cases hch : chG bs rs cg with
    | error e =>
      rw [hch] at hd7
      have she : SeqAt.shaped (dueD (.error e)) = true := why_ok (err_why hch)
      refine seq_chk (K := K) (G := G7) (EvB.cast (eb_and (inE (Same.refl _)) fun h => eb_and (a := false) (b := false) (EvB.cast (eb_test (ed_op (ed_var (i := 8) rfl hd7) (ed_lst (ea_cons ed_str (ea_cons ed_str (ea_cons ed_str (ea_cons ed_str ea_nil)))) (by show 4 ≤ sizeLine; omega)) (ro_notInL (es := [("word" : Str), "many", "letters", "rule"].map PyData.str) she (by decide +kernel)))) (due_notin (by rcases err_let (isLet h) hch with rfl | rfl | rfl | rfl <;> decide +kernel))) fun z => nomatch z) (by cases ([("letter" : Str), "unletter"]).contains k <;> rfl)) V7.gh fun G8 H8 n8 => ?_
      refine if_chk (K := K) (G := G8) (EvB.cast (eb_and (eb_test (ed_op (kE n8.gg) ed_str ro_eqS)) fun h => EvB.cast (eb_test (ed_op (ed_var (i := 8) rfl (dp_mono n8.gg _ hd7)) (ed_lst (ea_cons ed_str (ea_cons ed_str (ea_cons ed_str ea_nil))) (by show 3 ≤ sizeLine; omega)) (ro_notInL (es := [("word" : Str), "many", "letters"].map PyData.str) she (by decide +kernel)))) (due_notin (by
        obtain ⟨a', rfl⟩ := k3.mp (of_decide_eq_true h)
        rcases err_put hch with rfl | rfl | rfl <;> decide +kernel))) (Bool.and_false _)) n8.gh fun G9 H9 n9 => end1 H9 (n8.hh.trans n9.hh)
    | ok p =>
    rw [hch] at hd7
    have Vp := chG_ok Vd hok hch
    have sho : SeqAt.shaped (dueD (.ok p)) = true := shaped_ok p
    have d0 : ∀ {G' : Hp}, Same G7 G' → EvD K (tOp (rIxT K) (tVar 8) (tC (.int 0))) [some (.ref a), some (.ref d), some (.int ((0 : Int) + (i : Int))), some vb, some (.ref lr), some vc, some (.ref p6), z7, some vd, none, none, none, none, none] G' (wD p.1) := fun s' => ed_op (ed_var (i := 8) rfl (dp_mono s' _ hd7)) ed_int (ro_ixT (k := 0) rfl rfl)
    have d1 : ∀ {G' : Hp}, Same G7 G' → EvD K (tOp (rIxT K) (tVar 8) (tC (.int 1))) [some (.ref a), some (.ref d), some (.int ((0 : Int) + (i : Int))), some vb, some (.ref lr), some vc, some (.ref p6), z7, some vd, none, none, none, none, none] G' (.list (p.2.map ruleD)) := fun s' => ed_op (ed_var (i := 8) rfl (dp_mono s' _ hd7)) ed_int (ro_ixT (k := 1) rfl rfl)
    refine seq_cut (fun σ' H' => σ' = [some (.ref a), some (.ref d), some (.int ((0 : Int) + (i : Int))), some vb, some (.ref lr), some vc, some (.ref p6), z7, some vd, none, none, none, none, none] ∧ ∃ G8, Nx G7 H7 G8 H') ?_ fun fin => ?_
    rotate_left
    · refine if_B (K := K) (G := G7) (eb_and (inE (Same.refl _)) fun h => eb_and (a := true) (EvB.cast (eb_test (ed_op (ed_var (i := 8) rfl hd7) (ed_lst (ea_cons ed_str (ea_cons ed_str (ea_cons ed_str (ea_cons ed_str ea_nil)))) (by show 4 ≤ sizeLine; omega)) (ro_notInL (es := [("word" : Str), "many", "letters", "rule"].map PyData.str) sho (by decide +kernel)))) (by rw [any_okD]; rfl)) fun _ => eb_test (ed_op (ed_cb (ea_cons (ed_cb (ea_cons (ed_var (i := 3) rfl hb7) ea_nil) rcl_len) (ea_cons (ed_cb (ea_cons (d0 (Same.refl _)) ea_nil) rcl_len) ea_nil)) rcl_max2) ed_int ro_b)) V7.gh (fun hb G8 H8 n8 => ?_) fun hb G8 H8 n8 => nx_of (fin _ _ ⟨rfl, G8, n8⟩)
      rw [Bool.and_eq_true, Bool.true_and, decide_eq_true_eq, List.length_map, List.length_map] at hb
      obtain ⟨hb1, hb2⟩ := hb
      have lb : bs.length ≤ 6 ∧ p.1.length ≤ 6 := by
        split at hb2 <;> omega
      have ek : keptM bs rs = keptM p.1 p.2 := by
        rcases isLet hb1 with ⟨a', rfl⟩ | rfl
        · exact kept_letter Vd hch
        · exact kept_unletter Vd hch
      have L1 := Vd.L
      have L2' := Vp.L
      refine if_chk (K := K) (G := G8) (EvB.cast (eb_test (ed_op (ed_call (ea_cons (ed_var (i := 3) rfl (dp_mono n8.gg _ hb7)) (ea_cons (ed_var (i := 4) rfl (dp_mono n8.gg _ hl7)) ea_nil)) (R := R_law_kept_lists) (E := E0) ⟨bs, rs, rfl, Vd.B, lb.1, Vd.R, by omega, rfl⟩) (ed_call (ea_cons (d0 n8.gg) (ea_cons (d1 n8.gg) ea_nil)) (R := R_law_kept_lists) (E := E0) ⟨p.1, p.2, rfl, Vp.B, lb.2, Vp.R, by omega, rfl⟩) ro_neI)) (by rw [ek]; simp)) n8.gh fun G9 H9 n9 => fin _ _ ⟨rfl, G9, n8.trans n9⟩
    rintro σ' H8 ⟨rfl, G8, n8⟩
    refine if_B (K := K) (G := G8) (eb_and (b := true) (eb_test (ed_op (kE n8.gg) ed_str ro_eqS)) fun h => EvB.cast (eb_test (ed_op (ed_var (i := 8) rfl (dp_mono n8.gg _ hd7)) (ed_lst (ea_cons ed_str (ea_cons ed_str (ea_cons ed_str ea_nil))) (by show 3 ≤ sizeLine; omega)) (ro_notInL (es := [("word" : Str), "many", "letters"].map PyData.str) sho (by decide +kernel)))) (by rw [any_okD]; rfl)) n8.gh (fun hb G9 H9 n9 => ?_) fun hb G9 H9 n9 => nx_of (end1 H9 (n8.hh.trans n9.hh))
    rw [Bool.and_true, decide_eq_true_eq] at hb
    obtain ⟨a', rfl⟩ := k3.mp hb
    have g9 := n8.gg.trans n9.gg
    have eG := eg_bkL (K := K) (CG := CG) (CB := CB) (E := E0) Vd (ed_var (i := 3) (σ := [some (.ref a), some (.ref d), some (.int ((0 : Int) + (i : Int))), some vb, some (.ref lr), some vc, some (.ref p6), z7, some vd, none, none, none, none, none]) rfl (dp_mono g9 _ hb7)) (ed_var (i := 4) rfl (dp_mono g9 _ hl7))
    refine if_chk (K := K) (G := G9) (EvB.cast (eb_test (ed_gg OC (eg_ch (p := (bs, rs)) (c := .unletter) (eg_ch eG Vd (ed_var (i := 5) rfl (dp_mono g9 _ hc7)) hok hch) Vp (ed_tup (ea_cons ed_str ea_nil) (by show 1 ≤ sizeLine; omega)) trivial (letter_back Vd hch)) eG (shG _ _) (shG _ _))) (by rw [eqG_self]; rfl)) n9.gh fun G10 H10 n10 => end1 H10 (n8.hh.trans (n9.hh.trans n10.hh))
  obtain ⟨z2, z3, z4, z5, z6, z7, z8, rfl, Dc, Tc⟩ := hP
  have sG : Same (noT Hc) Hc := noT_same
  have Z := noTb_noT Hc
  have st : ∀ {n : Nat}, n ≤ 100 → n ≤ sizeLine := fun h => by omega
  try dsimp only
  clear Dc T1 D1 hS1 sm hS
  -- some
  refine seq_let (K := K) (G := noT Hc) (i := 9) (d := .list someC) (ed_lst (ea_cons (ed_tup (ea_cons ed_str (ea_cons (ed_tup (ea_cons ed_int ea_nil) (st (by decide))) (ea_cons (ed_tup ea_nil (st (by decide))) ea_nil))) (st (by decide))) (ea_cons (ed_tup (ea_cons ed_str (ea_cons (ed_tup (ea_cons ed_int (ea_cons ed_int ea_nil)) (st (by decide))) ea_nil)) (st (by decide))) (ea_cons (ed_tup (ea_cons ed_str (ea_cons ed_int ea_nil)) (st (by decide))) (ea_cons (ed_tup (ea_cons ed_str ea_nil) (st (by decide))) (ea_cons (ed_tup (ea_cons ed_str (ea_cons (ed_repN (by decide) (by decide)) (ea_cons (ed_repN (by decide) (by decide)) ea_nil))) (st (by decide))) ea_nil))))) (st (by decide))) sG fun v9 G1 H1 n1 h9 => ?_
  try dsimp only [List.set_cons_succ, List.set_cons_zero]
  -- wrong
  refine seq_asg ?_
  refine (en_lst (ea_cons ed_non (ea_cons ed_int (ea_cons ed_str (ea_cons (ed_lst ea_nil (st (by decide))) (ea_cons (ed_tup ea_nil (st (by decide))) (ea_cons (ed_tup (ea_cons ed_str ea_nil) (st (by decide))) (ea_cons (ed_lst (ea_cons ed_str ea_nil) (st (by decide))) (ea_cons (ed_tup (ea_cons ed_str (ea_cons ed_int ea_nil)) (st (by decide))) (ea_cons (ed_tup (ea_cons ed_str (ea_cons ed_int ea_nil)) (st (by decide))) (ea_cons (ed_tup (ea_cons ed_str (ea_cons ed_negI ea_nil)) (st (by decide))) (ea_cons (ed_tup (ea_cons ed_str (ea_cons ed_bl ea_nil)) (st (by decide))) (ea_cons (ed_tup (ea_cons ed_str (ea_cons ed_non ea_nil)) (st (by decide))) (ea_cons (ed_tup (ea_cons ed_str ea_nil) (st (by decide))) (ea_cons (ed_tup (ea_cons ed_str (ea_cons (ed_lst (ea_cons ed_int ea_nil) (st (by decide))) ea_nil)) (st (by decide))) ea_nil)))))))))))))) (st (by decide)) : EvN K _ [some (.ref a), some (.ref d), z2, z3, z4, z5, z6, z7, z8, some v9, none, none, none, none] G1 wrong1) H1 n1.gh _ fun p10 us1 G2 H2 n2 hp10 gp10 e10 h10 => ?_
  try dsimp only [List.set_cons_succ, List.set_cons_zero]
  have gr : Grow K G1 H1 p10 wrong1 G2 H2 := ⟨n2, gp10, us1, e10, h10⟩
  refine ⟨_, rfl, ?_⟩
  refine (en_lst (ea_cons (ed_tup (ea_cons ed_str (ea_cons (ed_tup (ea_cons ed_int ea_nil) (st (by decide))) ea_nil)) (st (by decide))) (ea_cons (ed_tup (ea_cons ed_str (ea_cons (ed_repN (by decide) (by decide)) ea_nil)) (st (by decide))) (ea_cons (ed_tup (ea_cons ed_str (ea_cons (ed_tup (ea_cons ed_bl ea_nil) (st (by decide))) ea_nil)) (st (by decide))) (ea_cons (ed_tup (ea_cons ed_str ea_nil) (st (by decide))) (ea_cons (ed_tup (ea_cons ed_str (ea_cons (ed_tup (ea_cons ed_int ea_nil) (st (by decide))) ea_nil)) (st (by decide))) (ea_cons (ed_tup (ea_cons ed_str (ea_cons (ed_tup (ea_cons ed_int ea_nil) (st (by decide))) (ea_cons (ed_lst (ea_cons ed_int ea_nil) (st (by decide))) ea_nil))) (st (by decide))) (ea_cons (ed_tup (ea_cons ed_str (ea_cons (ed_tup (ea_cons ed_int ea_nil) (st (by decide))) (ea_cons (ed_tup ea_nil (st (by decide))) (ea_cons (ed_tup ea_nil (st (by decide))) ea_nil)))) (st (by decide)))
    (ea_cons (ed_tup (ea_cons ed_str (ea_cons (ed_tup (ea_cons ed_negI ea_nil) (st (by decide))) (ea_cons (ed_tup ea_nil (st (by decide))) ea_nil))) (st (by decide))) (ea_cons (ed_tup (ea_cons ed_non ea_nil) (st (by decide))) (ea_cons (ed_tup (ea_cons (ed_tup ea_nil (st (by decide))) (ea_cons (ed_tup ea_nil (st (by decide))) ea_nil)) (st (by decide))) ea_nil)))))))))) (st (by decide)) : EvN K _ [some (.ref a), some (.ref d), z2, z3, z4, z5, z6, z7, z8, some v9, some (.ref p10), none, none, none] G2 wrong2) H2 n2.gh _ fun q2 ws2 G3 H3 n3 hq2 gq2 eq2 hw2 => ?_
  have l1 := dpa_length h10
  have l2 := dpa_length hw2
  have e103 := n3.hh _ _ e10
  refine ⟨p10, q2, us1, ws2, rfl, rfl, e103, eq2, by rw [l1, l2]; exact st (by decide), ?_⟩
  obtain ⟨nd, hwD⟩ := ((gr.step n3).ext hp10 hw2 e103).done hp10
  try dsimp only [List.set_cons_succ, List.set_cons_zero]
  generalize hGd : upd G3 p10 _ = Gd at nd hwD
  generalize upd H3 p10 (.lst (us1 ++ ws2)) = Hd at nd
  have n13 := n1.trans nd
  have h9 := dp_mono nd.gg _ h9
  have s3 := same_noT Z n13.gg
  have Z3 := noTb_noT Gd
  have sH3 := noT_same.trans n13.gh
  have T3 := tabs_same Tc n13.hh
  have h9 := dp_noT _ h9
  have hwD := dp_noT _ hwD
  generalize noT Gd = G4 at s3 Z3 sH3 h9 hwD
  clear gr n1 n2 n3 nd n13 hGd h10 hw2 e10 e103 eq2 gp10 gq2
  -- judged
  have judge : ∀ {i : Nat} {v : V} {ds : List PyData} {b : Bool} {σ : L2.St}, σ[i]? = some (some v) → Dp K G4 v (.list ds) → ds.length ≤ 100 → (∀ x ∈ ds, isChD x = b ∧ SzI x) → (∀ v', wipe ((wipe σ [11]).set 11 (some v')) [11] = wipe σ [11]) → (wipe σ [11])[i]? = some (some v) → (∀ v', ((wipe σ [11]).set 11 (some v'))[11]? = some (some v')) →
      EvB K (tB (tCB (rAll K) (tCons (tLc (iList K (tVar i)) (gName 11) tYes (tOp rIsB (tCall (SpD K R_is_change) [] E0 (tCons (tVar 11) tNil)) (tC (.bl b))) [11]) tNil))) σ G4 true := fun {i v ds b σ} hi hv hl hx hw hi2 h11 => by
    refine eb_B (EvD.cast (ed_cb (ea_cons (EvN.toD (en_lcL1 (i := 11) (fun d => .bool (decide (isChD d = b))) (ed_var hi hv) hw (by omega) fun d v' Gi hm g hd => ed_op (ed_call (ea_cons (ed_var (i := 11) (h11 v') hd) ea_nil) (R := R_is_change) ⟨d, rfl, (hx d hm).2, rfl⟩) ed_bl ro_isB)) ea_nil) (z := .bool ((ds.map fun d => decide (isChD d = b)).all id)) ?_) ?_)
    · have h := rcl_all (K := K) (bs := ds.map fun d => decide (isChD d = b))
      rw [List.map_map] at h
      exact h
    · congr 1
      rw [List.all_map, List.all_eq_true]
      exact fun x hm => decide_eq_true (hx x hm).1
  refine seq_chk (K := K) (G := G4) (eb_or (a := false) (b := false) (EvB.cast (eb_not (judge (i := 9) rfl h9 (by decide) some_ok (fun _ => rfl) rfl fun _ => rfl)) rfl) fun _ => eb_or (a := false) (b := false) (EvB.cast (eb_not (judge (i := 10) rfl hwD (by decide) wrong_ok (fun _ => rfl) rfl fun _ => rfl)) rfl) fun _ => EvB.cast (eb_test (ed_op (ed_callK (gd := [.tuple [.str "unletter"]]) ea_nil (ea_cons (ed_tup (ea_cons ed_str ea_nil) (st (by decide))) ea_nil) (fun G' vs zs h1 h2 => by
    obtain _ | _ := h1
    obtain _ | ⟨h2, _ | _⟩ := h2
    exact .cons h2 .nil) (R := R_is_change) ⟨.tuple [.str "unletter"], rfl, szi_chg (c := .unletter) trivial, rfl⟩) ed_bl ro_notB)) (by decide +kernel)) sH3 fun G5 H5 n5 => ?_
  have s5 : Same G4 H5 := n5.gg.trans n5.gh
  have T5 := tabs_same T3 n5.hh
  clear n5
  try dsimp only
  -- no change
  obtain ⟨hw1, hw2⟩ : ∃ us, SqL K G4 p10 us ∧ DpAll K G4 us (wrong1 ++ wrong2) := by
    cases hwD with
    | @lst a us _ hs ha => exact ⟨us, hs, ha⟩
  obtain ⟨hw2, hw3⟩ := hw2
  refine ⟨_, rfl, p10, rfl, ⟨_, s5.seq hw2⟩, for_list (K := K) (a := p10) (xs := hw1) (fun jj σ Hc => ∃ y11, σ = [some (.ref a), some (.ref d), z2, z3, z4, z5, z6, z7, z8, some v9, some (.ref p10), y11, none, none] ∧ Same G4 Hc ∧ Tabs (TQ61 Pt P2) Hc) ⟨_, rfl, s5, T5⟩ (fun jj σ Hc _ hp => by obtain ⟨_, _, h, _⟩ := hp; exact h.seq hw2) (fun jj v2 σ Hq hjj hP => ?_) fun σ Hq hP => ?_⟩
  · obtain ⟨y11, rfl, sq, tq⟩ := hP
    obtain ⟨x, hx, hvx⟩ := dpa_get hw3 hjj
    obtain ⟨no, sz⟩ := wrong_ok x (List.mem_of_getElem? hx)
    refine ⟨tq, fun H20 e20 t20 => ?_⟩
    dsimp only [TTc]
    have s20 := ext_same Z3 sq e20
    refine tcons_of ?_
    refine (eg_bkL bk10 (ed_tup (ea_cons ed_int (ea_cons ed_int ea_nil)) (st (by decide))) (ed_lst ea_nil (Nat.zero_le _)) : EvG K CG _ [some (.ref a), some (.ref d), z2, z3, z4, z5, z6, z7, z8, some v9, some (.ref p10), some v2, none, none] G4 _ _) H20 s20 _ fun g G21 H21 n21 hg => ⟨_, rfl, ?_⟩
    dsimp only [tCons, tC, tNil]
    refine ch_bad (K := K) n21.gh hg bk10 (dp_mono n21.gg _ hvx) sz no fun G' H' n => ⟨true, xX, fun _ ae hae => ?_, fun z => nomatch z⟩
    have sE := same_upd (o := ErrO (.ref CX) none ae) hae
    have keep := n21.hh.trans (n.hh.trans sE)
    exact isc_yes EX kX upd_same ⟨true, rfl, if_off rfl (nx_of ⟨_, rfl, s20.trans keep, tabs_same t20 keep⟩)⟩
  obtain ⟨y11, rfl, s6, T6⟩ := hP
  clear s5 T5 hw1 hw2 hw3 hwD h9 judge sH3 T3
  try dsimp only
  -- no group
  refine seq_forOf ?_
  refine (ed_lst (ea_cons ed_non (ea_cons ed_int (ea_cons ed_str (ea_cons (ed_tup ea_nil (st (by decide))) (ea_cons (ed_lst (ea_cons (ed_tup (ea_cons ed_int (ea_cons ed_int ea_nil)) (st (by decide))) (ea_cons (ed_lst ea_nil (st (by decide))) ea_nil)) (st (by decide))) ea_nil))))) (st (by decide)) : EvD K _ [some (.ref a), some (.ref d), z2, z3, z4, z5, z6, z7, z8, some v9, some (.ref p10), y11, none, none] G4 (.list [.none, .int 5, .str "group", .tuple [], .list [.tuple [.int 1, .int 0], .list []]])) Hq s6 _ fun v G8 H8 n8 hv => ?_
  cases hv with
  | @lst al us _ hsq hus =>
  have s8 := same_noT Z3 n8.gg
  have Z8 := noTb_noT G8
  have sH8 := noT_same.trans n8.gh
  have t8 := tabs_same T6 n8.hh
  have hsq := sqL_noT hsq
  have hus := dpa_noT _ hus
  generalize noT G8 = G9 at s8 Z8 sH8 hsq hus
  refine ⟨al, rfl, ⟨us, sH8.seq hsq⟩, for_list (K := K) (a := al) (xs := us) (fun jj σ Hc => ∃ y11 y12 y13, σ = [some (.ref a), some (.ref d), z2, z3, z4, z5, z6, z7, z8, some v9, some (.ref p10), y11, y12, y13] ∧ Same G9 Hc ∧ Tabs (TQ61 Pt P2) Hc) ⟨_, _, _, rfl, sH8, t8⟩ (fun jj σ Hc _ hp => by obtain ⟨_, _, _, _, h, _⟩ := hp; exact h.seq hsq) (fun jj v2 σ Hq' hjj hP => ?_) fun σ Hc hP => rfl⟩
  obtain ⟨y11', y12, y13, rfl, sq, tq⟩ := hP
  obtain ⟨x, hx, hvx⟩ := dpa_get hus hjj
  refine ⟨tq, fun f1 c1' H41 e41 t41 hf1 at1 co1 => ⟨t41, fun f2 c2' H42 e42 t42 hf2 at2 co2 => ⟨by show 2 ≤ sizeLine; omega, fun pq hpq => ⟨pq, rfl, ⟨_, SqL.of upd_same⟩, ?_⟩⟩⟩⟩
  have s41 := ext_same Z8 sq e41
  have s42 := ext_same Z8 s41 e42
  have s45 := same_upd (o := .lst [.ref f1, .ref f2]) hpq
  have g1 : G9 f1 = none := sq.free hf1
  have g2 : G9 f2 = none := s41.free hf2
  have at12 := e42 _ _ at1 (fun _ z => nomatch z)
  have co12 := e42 _ _ co1 (fun _ z => nomatch z)
  have n12' : f1 ≠ f2 := ne_of_none at1 hf2
  have m1' := code_ne at12 co12
  have m2' := code_ne at2 co2
  have m21' : c2' ≠ f1 := code_ne at12 co2
  refine for_list (K := K) (a := pq) (xs := [.ref f1, .ref f2]) (fun jj σ Hc => ∃ y12 y13, σ = [some (.ref a), some (.ref d), z2, z3, z4, z5, z6, z7, z8, some v9, some (.ref p10), some v2, y12, y13] ∧ Same G9 Hc ∧ Tabs (TQ61 Pt P2) Hc ∧ Hc pq = some (.lst [.ref f1, .ref f2]) ∧
    (jj = 0 → Hc f1 = H42 f1 ∧ Hc c1' = H42 c1') ∧ (jj ≤ 1 → Hc f2 = H42 f2 ∧ Hc c2' = H42 c2'))
    ⟨_, _, rfl, s42.trans s45, tabs_same t42 s45, upd_same, fun _ => ⟨(s45 _ _ at12).trans at12.symm, (s45 _ _ co12).trans co12.symm⟩, fun _ => ⟨(s45 _ _ at2).trans at2.symm, (s45 _ _ co2).trans co2.symm⟩⟩ (fun jj σ Hc _ hp => by obtain ⟨_, _, _, _, _, h, _⟩ := hp; exact SqL.of h) ?_ ?_
  · rintro jk v3 σ Hr hjk ⟨y6, y7, rfl, sr, tr, hpq', q1, q2⟩
    match jk, hjk with
    | 0, hjk =>
      cases hjk
      obtain ⟨r1, r1c⟩ := q1 rfl
      obtain ⟨r2, r2c⟩ := q2 (by decide)
      have r1 := r1.trans at12
      refine ⟨_, rfl, f1, c1', _, _, _, fun E => tCall (spBG K CB 1) [] E (tCons (tVar 11) (tCons (tC .non) tNil)), ⟨LamX.lamS_by (show LamX.lamSB (defScope s_law) _ = true by decide +kernel), fun _ _ _ _ _ => rfl, fun A outer s H E f c' hr => pe_okX h_changed_bad (passes_call (takes_of rfl rfl rfl rfl) fun _ _ _ _ h => h) (hr.mono (by decide)) (by rfl) (pa_cons (pv 11) (pa_cons pe_non pa_nil))⟩, rfl, r1, r1c.trans co12, m1', ?_⟩
      refine ⟨_, rfl, ?_⟩
      dsimp only [tCons, tC, tNil]
      have sd := same_del sr g1
      refine bad_at (K := K) sd rfl hvx fun d' H' sm hd' => ⟨true, xB, fun _ ae hae => ?_, fun z => nomatch z⟩
      have sE := same_upd (o := ErrO (.ref CB) (some d') ae) hae
      have keep := sm.trans sE
      refine chk_none (i := 13) rfl upd_same (sE _ _ hd') EB kB ⟨_, _, rfl, sd.trans keep, tabs_same (tabs_del tr r1) keep, keep _ _ ((delH_ne (ne_of hpq' r1 fun z => nomatch z)).trans hpq'), (fun z => absurd z (by decide)), fun _ => ⟨(keep _ _ ((delH_ne (Ne.symm n12')).trans (r2.trans at2))).trans at2.symm, (keep _ _ ((delH_ne m21').trans (r2c.trans co2))).trans co2.symm⟩⟩
    | 1, hjk =>
      cases hjk
      obtain ⟨r2, r2c⟩ := q2 (by decide)
      have r2 := r2.trans at2
      refine ⟨_, rfl, f2, c2', _, _, _, fun E => tCall (spBG K CB 2) [] E (tCons (tVar 11) (tCons (tC .non) (tCons (tC .non) tNil))), ⟨LamX.lamS_by (show LamX.lamSB (defScope s_law) _ = true by decide +kernel), fun _ _ _ _ _ => rfl, fun A outer s H E f c' hr => pe_okX h_changed_word_bad (passes_call (takes_of rfl rfl rfl rfl) fun _ _ _ _ h => h) (hr.mono (by decide)) (by rfl) (pa_cons (pv 11) (pa_cons pe_non (pa_cons pe_non pa_nil)))⟩, rfl, r2, r2c.trans co2, m2', ?_⟩
      refine ⟨_, rfl, ?_⟩
      dsimp only [tCons, tC, tNil]
      have sd := same_del sr g2
      refine bad_at (K := K) sd rfl hvx fun d' H' sm hd' => ⟨true, xB, fun _ ae hae => ?_, fun z => nomatch z⟩
      have sE := same_upd (o := ErrO (.ref CB) (some d') ae) hae
      have keep := sm.trans sE
      refine chk_none (i := 13) rfl upd_same (sE _ _ hd') EB kB ⟨_, _, rfl, sd.trans keep, tabs_same (tabs_del tr r2) keep, keep _ _ ((delH_ne (ne_of hpq' r2 fun z => nomatch z)).trans hpq'), (fun z => absurd z (by decide)), (fun z => absurd z (by decide))⟩
    | jk + 2, hjk => cases hjk
  rintro σ Hr ⟨y12', y13', rfl, sr, tr, _⟩
  exact ⟨_, _, _, rfl, sr, tr⟩
end Gw
namespace PySem
namespace SupX
open PySem.W PySem.Calls PyProof.Rows PySem.HandSPX
/-! ### own errors made by keyword, as values -/
section
variable {prog : Program} {w : World} {A : Around} {E : Value → Shared → Prop} {R : Result → Shared → Prop} {h : Heap} {g : Array GenState} {d : Drawn} {t : Nat} {os : OsState}
variable {nm q : Str} {C N : Addr} {bs bm bmB : List Value} {hdct : Bool} {sn : List Str} {sub : List Value} {ab : Bool} {col : Option Bool} {dd : Option Addr} {k0 k1 k2 k3 k5 : Option Value} {B newId initId : String}
theorem kw_check (F : ExcBaseFacts B newId initId bmB) (eT : ∀ X : String, bm.contains (.type X) = bmB.contains (.type X)) {kw : List (Str × Value)} {Q : Unit → Shared → Prop}
    (at1 : h.get? C = some (excClassObj nm q C N bs bm hdct sn sub ab col dd k0 k1 k2 k3 k5 newId)) (out : Q () ⟨h, g, d, t, os⟩) : wpAny (model prog w) A (checkBuiltinCall newId ⟨[.ref C], kw⟩) Q E ⟨h, g, d, t, os⟩ := by
  have c1 : (Value.ref C :: bm).contains (.type B) = true := by rw [List.contains_cons, eT, F.hasB, Bool.or_true]
  have c2 := F.noStar
  simp only [checkBuiltinCall, F.newKind, F.newSplit, F.newRow]
  repeat (first | refine wpAny_loadPart_at at1 ?_ | (refine wpAny_isSubtype_exc at1 ?_; rw [c1]) | refine wpAny_staticBase_exc at1 ?_ | refine wpAny_madeBy_exc at1 ?_ | simp only [bne_self_eq_false, Bool.false_eq_true, if_false] | wp_step)
  exact out
theorem kw_new (F : ExcBaseFacts B newId initId bmB) (eT : ∀ X : String, bm.contains (.type X) = bmB.contains (.type X)) {kw : List (Str × Value)} (at1 : h.get? C = some (excClassObj nm q C N bs bm hdct sn sub ab col dd k0 k1 k2 k3 k5 newId))
    (out : R (.ok (.ret (.ref (h.objs.size + 1)))) ⟨(h.push { cls := .type "tuple", data := .seq #[] }).push { cls := .ref C, data := .fields #[.ref h.objs.size, .none, .none, .none, .bool false, .none] }, g, d, t, os⟩) : codeAny (model prog w) A (.builtin newId ⟨[.ref C], kw⟩) R ⟨h, g, d, t, os⟩ := by
  have ends := F.ends
  have c1 : (Value.ref C :: bm).contains (.type B) = true := by rw [List.contains_cons, eT, F.hasB, Bool.or_true]
  have c2 : (Value.ref C :: bm).contains (.type "AttributeError") = false := by rw [List.contains_cons, eT, F.noAttr]; rfl
  have c3 : (Value.ref C :: bm).contains (.type "NameError") = false := by rw [List.contains_cons, eT, F.noName]; rfl
  refine codeAny_builtinAt F.entry ?_
  unfold Builtin.«BaseException.__new__»
  refine wpAt_bind ?_
  show wpAt _ _ _ (stack >>= _) _ _ _
  refine wpAt_bind (wpAt_stack fun p below => wpAt_of_wpAny ?_)
  wp_walk
  refine wpAt_of_wpAny ?_
  rw [F.owner]
  repeat (first | with_reducible refine wpAny_madeHere_exc F.canon at1 ?_ | with_reducible refine wpAny_loadPart_at at1 ?_ | (with_reducible refine wpAny_isSubtype_exc at1 ?_; first | rw [c1] | rw [c2] | rw [c3]) | wp_step)
  show R _ _
  rw [Heap.size_push]
  exact out
theorem kw_type (F : ExcBaseFacts B newId initId bmB) (eT : ∀ X : String, bm.contains (.type X) = bmB.contains (.type X)) {kw : List (Str × Value)} {fI : Addr} {Q : Fin → Shared → Prop} (at1 : h.get? C = some (excClassObj nm q C N bs bm hdct sn sub ab col dd k0 k1 k2 k3 k5 newId))
    (hi : W.Looks (model prog w) h (typeLookup (.ref C) "__init__") (some (.ref fI))) (hb : ∀ self, W.Looks (model prog w) h (bindSpecial (.ref fI) self) (.ref fI, [self]))
    (run : codeAny (model prog w) A (.call (.ref fI) ⟨[.ref (h.objs.size + 1)], kw⟩) (fun r s' => match r with | .ok (.ret v) => v = .none ∧ Q (.done (.ret (.ref (h.objs.size + 1)))) s' | .ok _ => False | .error e => E e s') ⟨(h.push (W.kdv_tup [])).push (excO C h.objs.size), g, d, t, os⟩) :
    wpAny (model prog w) A (Builtin.«type.__call__» ⟨[.ref C], kw⟩) Q E ⟨h, g, d, t, os⟩ := by
  repeat (first | with_reducible refine wpAny_loadPart_at at1 ?_ | with_reducible refine wpAny_madeBy_exc at1 ?_ | wp_step)
  refine codeAny_call_builtin_code (Code.quiet_builtin _ F.quiet) (kw_check F eT at1 ?_)
  refine kw_new F eT at1 ?_
  show wpAny _ _ _ _ _ _
  have k : ∀ b o, h.get? b = some o → ((h.push (W.kdv_tup [])).push (excO C h.objs.size)).get? b = some o := fun b o e => Heap.get?_push_of_some _ (Heap.get?_push_of_some _ e)
  have at2 := k _ _ at1
  have got : ((h.push (W.kdv_tup [])).push (excO C h.objs.size)).get? (h.objs.size + 1) = some (excO C h.objs.size) := by heap_get
  have c4 : (Value.ref C :: bm).contains (.ref C) = true := by simp
  have i1 := hi.keeps k
  have b1 := (hb (.ref (h.objs.size + 1))).keeps k
  unfold isInstance
  repeat (first | with_reducible refine wpAny_loadPart_at got ?_ | (with_reducible refine wpAny_isSubtype_exc at2 ?_; rw [c4]) | wp_step)
  show wpAny _ _ (typeLookup (.ref C) _) _ _ _
  refine i1.at ?_
  refine wpAny_holding (wpAny_bind (b1.at ?_))
  refine wpAny_bind (wpAny_call (codeAny_mono run fun r s' z => ?_))
  rcases r with e | (v | _ | _ | _) <;> first | exact z | exact z.elim | skip
  obtain ⟨rfl, z⟩ := z
  first
    | exact wpAny_pure (wpAny_pure z)
    | (wp_walk; exact z)
theorem kw_call (F : ExcBaseFacts B newId initId bmB) (eT : ∀ X : String, bm.contains (.type X) = bmB.contains (.type X)) {kw : List (Str × Value)} {fI : Addr} (at1 : h.get? C = some (excClassObj nm q C N bs bm hdct sn sub ab col dd k0 k1 k2 k3 k5 newId))
    (hi : W.Looks (model prog w) h (typeLookup (.ref C) "__init__") (some (.ref fI))) (hb : ∀ self, W.Looks (model prog w) h (bindSpecial (.ref fI) self) (.ref fI, [self]))
    (run : codeAny (model prog w) (A.under (.builtin "type.__call__" ⟨[.ref C], kw⟩)) (.call (.ref fI) ⟨[.ref (h.objs.size + 1)], kw⟩) (W.InitBack (h.objs.size + 1) R) ⟨(h.push (W.kdv_tup [])).push (excO C h.objs.size), g, d, t, os⟩) :
    codeAny (model prog w) A (.call (.ref C) ⟨[], kw⟩) R ⟨h, g, d, t, os⟩ := by
  have u1 := tc_lookup
  have u2 := tc_bind (.ref C)
  have ty : (⟨h, g, d, t, os⟩ : Shared).TypeIs (.ref C) "type" := ⟨_, at1, rfl⟩
  refine codeAny_of_tree ?_
  show wpAny _ _ (callAny (.ref C) _) _ _ _
  repeat (any_goals (first | assumption | with_reducible refine wpAny_loadPart_at at1 ?_ | wp_step))
  refine ⟨rfl, ?_⟩
  refine codeAny_call_builtin_at (Code.quiet_builtin _ (by decide +kernel)) entry_typeCall (wpAny_check_type_call_sub at1 (kw_type F eT at1 hi hb ?_))
  refine codeAny_mono run fun r s' z => ?_
  rcases r with e | (v | _ | _ | _) <;> exact z
end
def KwFld (f : Str) : Prop := ∀ (qn : Str) (p1 p2 : Pos) (b : List Stmt) (doc pm : Value) (an : Option Addr) (cd ct : Value) (cc : Addr) (a v : Value), bindArgs (ksFn "__init__" qn (eA f p1 p2) b (eS f) .none .none doc pm an cd ct cc) ⟨[a], [(f, v)]⟩ = pure [(("self" : Str), a), (f, v)]
section
variable {prog : Program} {w : World} {A : Around} {E : Value → Shared → Prop} {R : Result → Shared → Prop} {s : Shared} {K : Frag} {mg mb : Str → Option Value} {xn f : Str} {C fI : Addr}
theorem sup_initK (T : SupTxt prog K mg xn f C fI) (kb : KwFld f) {x t0 : Addr} {v : Value} (X : K.In s.heap) (hg : s.heap.Ns mainGlobals mg) (hb : s.heap.Ns builtinsNs mb) (hbb : ∀ y : Str, y ≠ "__name__" → mb y = bootBuiltins y) (hlim : s.heap.NoLimit) (hx : s.heap.get? x = some (excO C t0)) (hnx : K.lookup x = none) (hroom : A.depth < recursionLimit)
    (hq : ∀ h' tk dx t1, InitEnd s.heap h' x C dx t1 f v → R (.ok (.ret .none)) { s with heap := h', toks := tk }) :
    codeAny (model prog w) A (.call (.ref fI) ⟨[.ref x], [(f, v)]⟩) R s := by
  obtain ⟨oc, od, doc, pm, an, cda, ct, osl, cc, p1, p2, txt, q1, q2, q3, q4, q5, q6, r1, r2, r3, r4, qn, ccl, cl, cdd, cld, vs, ccs, csl, file, tf, hpos, ho, hcd, hcode, hvs, hfile, hcell⟩ := T.fn
  obtain ⟨nm, q, N, bs, bm, sn, sub, ab, col, dd, k0, k1, k2, k3, k5, hC, hbm⟩ := T.cls
  have hcl : clsIn K C = some { name := nm, bases := bs, mro := .ref C :: bm, ns := N, qualname := q, hasDict := true, slotNames := sn, subclasses := sub, abstract := ab, collection := col, hasDel := false } := by unfold clsIn; rw [hC] <;> rfl
  refine ks_codeAny_call_defAt (binds := [(("self" : Str), .ref x), (f, v)]) hroom (X _ _ ho) rfl hlim (codeRec_of X hcd) rfl (BindsTo.of_eq (kb _ _ _ _ _ _ _ _ _ _ _ _)) T.nf.nc ?l (fun h₁ hns k => ?_) rfl rfl rfl
  case l =>
    intro y hy
    rcases List.mem_cons.mp hy with rfl | hy
    · exact T.nf.l1
    · rw [List.mem_singleton.mp hy]; exact T.nf.l2
  have X₁ : K.In h₁ := X.keeps k
  have hx₁ := k _ _ hx
  have hxL : s.heap.objs.size ≠ x := Nat.ne_of_gt (Heap.lt_size hx)
  obtain ⟨hp, g, d, tk0, os⟩ := s
  dsimp only at X hg hb hlim hx hns k hxL ⊢
  have m1 : [(("self" : Str), Value.ref x), (f, v)].reverse.lookup ("self" : Str) = some (.ref x) := by
    have : (("self" : Str) == f) = false := by
      have := T.nf.ns
      rw [beq_eq_false_iff_ne] at this ⊢
      exact fun z => this z.symm
    show [(f, v), (("self" : Str), Value.ref x)].lookup ("self" : Str) = _
    simp [List.lookup, this]
  have m2 : [(("self" : Str), Value.ref x), (f, v)].reverse.lookup f = some v := by
    show [(f, v), (("self" : Str), Value.ref x)].lookup f = _
    simp [List.lookup]
  show _root_.PySem.wpAt _ _ (.func (eB f txt q1 q2 q3 q4 q5 q6 r1 r2 r3 r4) (ksEnv qn (eS f) hp.objs.size fI (.ref cda) cc)) (execs (eB f txt q1 q2 q3 q4 q5 q6 r1 r2 r3 r4) (ksEnv qn (eS f) hp.objs.size fI (.ref cda) cc)) _ _ _
  refine ks_wpAt_execs_cons (ks_wpAt_Expr_any (ks_wpAt_MethodCall ?_ (sup_he hpos)))
  refine ks_wpAt_super_base (env := ksEnv qn (eS f) hp.objs.size fI (.ref cda) cc) T.nf.l4 T.nf.l3 (by decide) rfl (X₁ _ _ ho) rfl rfl rfl (X₁ _ _ hcode) rfl hvs hfile T.top ?_
  refine ks_loadName_global rfl T.nf.l4 (loadGlobal_builtin (env := ksEnv qn (eS f) hp.objs.size fI (.ref cda) cc) (hg.keeps k) T.noS (hb.keeps k) ((hbb _ (by decide +kernel)).trans (by first | boot_by_name | rfl | kernel_rfl)) ⟨rfl, ?_⟩)
  refine wpAny_loadName_free rfl T.nf.l3 rfl ⟨_, X₁ _ _ hcell, rfl⟩ ?_
  refine wpAny_loadName_local rfl T.nf.l1 hns m1 ?_
  refine ks_wpAny_isType_cls (X₁ _ _ hC) rfl ⟨rfl, ?_⟩
  refine ks_wpAny_call_super (X₁ _ _ hC) rfl hx₁ rfl (fun c e => by cases e) (looks_mroIn X₁ T.mC) (fun h₂ eso k₂ => ?_)
  have X₂ : K.In h₂ := X₁.keeps k₂
  have hx₂ := k₂ _ _ hx₁
  have I₂ : InstAt h₂ x (excO C t0) C none := ⟨hx₂, rfl, rfl, trivial⟩
  have hsup : alongIn K "__init__" (((Value.ref C :: bm).dropWhile (· != .ref C)).drop 1) = some (some (.builtin "ValueError.__init__")) := by
    have e := T.sup
    unfold ks_superIn at e
    rw [hcl] at e
    exact e
  refine kxs_getMethod kxs_ValueError eso (looks_opaque X₂ T.op) (l₀ := Value.ref C :: bm) (fun A Q E s k q => wpAny_bind ((looks_clsIn X₂ hcl) A _ E s k (wpAny_pure q))) rfl X₂ hsup (I₂.type.andThen (looks_subIn X₂ T.veC)) (ks_ne X₂ I₂ hcl) (by decide) ?_
  have k₃ : ∀ b o, h₂.get? b = some o → (h₂.push (kxs_mw "ValueError.__init__" x)).get? b = some o := fun b o e => Heap.get?_push_of_some _ e
  have hx₃ := k₃ _ _ hx₂
  have hmw : (h₂.push (kxs_mw "ValueError.__init__" x)).get? h₂.objs.size = some (kxs_mw "ValueError.__init__" x) := Heap.get?_push_at rfl rfl
  refine kxs_callWith (i := "ValueError.__init__") (x := x) (by rfl) (evalArgs_plain ?_)
  refine spliced_cons (Constant_str (pos := q4) (k := 0) (spliced_nil ⟨hmw, ?_⟩))
  refine call_mw (X₂.keeps k₃ _ _ hC) hx₃ hmw (one_size _) fun h₄ t1 k₄ hx₄ => ?_
  have X₄ : K.In h₄ := kept_but (X₂.keeps k₃) hnx k₄
  have hns₄ : h₄.Ns hp.objs.size (fun y => [(("self" : Str), Value.ref x), (f, v)].reverse.lookup y) := ((hns.keeps k₂).keeps k₃).at fun o q => k₄ _ _ hxL q
  refine ks_wpAt_execs_cons (wpAt_of_wpAny (plainObj_wpAny_Assign_Attribute ?_))
  refine wpAny_Name (wpAny_loadName_local rfl T.nf.l2 hns₄ m2 ?_) T.nf.nd
  refine wpAny_Name (wpAny_loadName_local rfl T.nf.l1 hns₄ m1 ?_) (by decide)
  refine set_plain X₄ (ox := excO C t1) (od := none) ⟨hx₄, rfl, rfl, trivial⟩ T.sa ?_
  refine exc_osa X₄ hx₄ hcl (show refsVE (.ref C :: bm) = true from hbm) rfl T.noN (fun h₅ tk₅ dx k₅ dn dne hx₅ hn₅ => ?_)
  refine wpAt_of_wpAny (wpAny_execs_nil (hq h₅ tk₅ dx t1 ⟨fun b o hb e => k₅ b o hb (k₄ b o hb (k₃ _ _ (k₂ _ _ (k b o e)))), hx₅, ?_, dne, hn₅⟩))
  exact Nat.le_of_lt (Nat.lt_of_lt_of_le hns₄.lt dn)
theorem sup_madeK (T : SupTxt prog K mg xn f C fI) (kb : KwFld f) {v : Value} (X : K.In s.heap) (hg : s.heap.Ns mainGlobals mg) (hb : s.heap.Ns builtinsNs mb) (hbb : ∀ y : Str, y ≠ "__name__" → mb y = bootBuiltins y) (hlim : s.heap.NoLimit) (hroom : A.depth + 1 < recursionLimit)
    (hq : ∀ h' tk e d, OwnMade s.heap h' e C d f v → R (.ok (.ret (.ref e))) { s with heap := h', toks := tk }) : codeAny (model prog w) A (.call (.ref C) ⟨[], [(f, v)]⟩) R s := by
  obtain ⟨nm, q, N, bs, bm, sn, sub, ab, col, dd, k0, k1, k2, k3, k5, hC, hbm⟩ := T.cls
  obtain ⟨hp, g, dr, tk, os⟩ := s
  have k : ∀ b o, hp.get? b = some o → ((hp.push (kdv_tup [])).push (excO C hp.objs.size)).get? b = some o := fun b o e => Heap.get?_push_of_some _ (Heap.get?_push_of_some _ e)
  have hget : ((hp.push (kdv_tup [])).push (excO C hp.objs.size)).get? (hp.objs.size + 1) = some (excO C hp.objs.size) := by heap_get
  have hnx : K.lookup (hp.objs.size + 1) = none := by
    cases e : K.lookup (hp.objs.size + 1) with
    | none => rfl
    | some o =>
      have z : hp.get? (hp.objs.size + 1) = some o := X _ _ e
      exact absurd (Nat.lt_of_succ_lt (Heap.lt_size z)) (Nat.lt_irrefl _)
  refine kw_call F.excBase_ValueError (fun X => refsVE_contains X bm hbm) (X _ _ hC) (looks_findIn X T.iC) (fun self => bind_fn X self T.tC) ?_
  refine sup_initK (s := ⟨(hp.push (kdv_tup [])).push (excO C hp.objs.size), g, dr, tk, os⟩) T kb (X.keeps k) (hg.keeps k) (hb.keeps k) hbb (hlim.keeps k) hget hnx ?_ fun h' tk' dx t1 ⟨k', hx, dn, dne, hns⟩ => ?_
  · show A.depth + 1 < recursionLimit
    exact hroom
  · have old : ∀ b o, hp.get? b = some o → h'.get? b = some o := fun b o e => k' b o (Nat.ne_of_lt (Nat.lt_succ_of_lt (Heap.lt_size e))) (k b o e)
    have z : hp.objs.size + 1 + 1 ≤ dx := by
      have q := dn; rw [Heap.size_push, Heap.size_push] at q; exact q
    exact ⟨rfl, hq h' tk' (hp.objs.size + 1) dx ⟨old, Nat.le_succ _, ⟨_, _, hx, rfl, rfl, rfl, rfl⟩, Nat.le_trans (Nat.le_trans (Nat.le_succ _) (Nat.le_succ _)) z, dne, hns⟩⟩
theorem kw_part : KwFld "part" := fun _ _ _ _ _ _ _ _ _ _ _ _ => rfl
theorem kw_most : KwFld "most" := fun _ _ _ _ _ _ _ _ _ _ _ _ => rfl
theorem kw_place : KwFld "place" := fun _ _ _ _ _ _ _ _ _ _ _ _ => rfl
theorem kw_fault : KwFld "fault" := fun _ _ _ _ _ _ _ _ _ _ _ _ => rfl
theorem kw_at : KwFld "at" := fun _ _ _ _ _ _ _ _ _ _ _ _ => rfl
theorem kw_why : KwFld "why" := fun _ _ _ _ _ _ _ _ _ _ _ _ => rfl
theorem fld_place : FldOk "place" := ⟨rfl, rfl, rfl, rfl, by decide, rfl, rfl, fun _ _ _ _ _ _ _ _ _ _ _ _ => rfl⟩
theorem fld_fault : FldOk "fault" := ⟨rfl, rfl, rfl, rfl, by decide, rfl, rfl, fun _ _ _ _ _ _ _ _ _ _ _ _ => rfl⟩
theorem fld_at : FldOk "at" := ⟨rfl, rfl, rfl, rfl, by decide, rfl, rfl, fun _ _ _ _ _ _ _ _ _ _ _ _ => rfl⟩
theorem fld_why : FldOk "why" := ⟨rfl, rfl, rfl, rfl, by decide, rfl, rfl, fun _ _ _ _ _ _ _ _ _ _ _ _ => rfl⟩
end
end SupX
end PySem
namespace Gw
open PySem PySem.Spec PyProof.Rows PySem.HandSPX L2 LamX
/-! ### what the top has written, the head -/
theorem all_mk {l : PySem.W.OpenLaw} {w : World} {K : PySem.W.Frag} {h : Heap} {mg : Str → Option Value} {fa : Addr} {ts : List Addr} (X : K.In h) (G : h.Ns mainGlobals mg) (hfa : mg "law" = some (.ref fa))
    {C_GroupError : Addr}
    {C_BadGroup : Addr}
    {nm_BadGroup q_BadGroup : Str} {N_BadGroup fI_BadGroup cda_BadGroup cc_BadGroup : Addr} {bs_BadGroup : List Value} {sn_BadGroup : List Str} {sub_BadGroup : List Value} {ab_BadGroup : Bool} {col_BadGroup : Option Bool} {dd_BadGroup : Option Addr} {m0_BadGroup m1_BadGroup m2_BadGroup m3_BadGroup m5_BadGroup : Option Value}
    {oi_BadGroup : Value} {odi_BadGroup : Option Addr} {doci_BadGroup pmi_BadGroup : Value} {ani_BadGroup : Option Addr} {cti_BadGroup : Value} {osli_BadGroup : Array (Option Value)} {ccl_BadGroup ccv_BadGroup : Value} {cdd_BadGroup cld_BadGroup : Option Addr} {vsi_BadGroup : Array Value} {ccs_BadGroup csl_BadGroup : Array (Option Value)} {file_BadGroup : Str} {tf_BadGroup : Tok}
    {C_NotLet : Addr}
    {nm_NotLet q_NotLet : Str} {N_NotLet fI_NotLet cda_NotLet cc_NotLet : Addr} {bs_NotLet : List Value} {sn_NotLet : List Str} {sub_NotLet : List Value} {ab_NotLet : Bool} {col_NotLet : Option Bool} {dd_NotLet : Option Addr} {m0_NotLet m1_NotLet m2_NotLet m3_NotLet m5_NotLet : Option Value}
    {oi_NotLet : Value} {odi_NotLet : Option Addr} {doci_NotLet pmi_NotLet : Value} {ani_NotLet : Option Addr} {cti_NotLet : Value} {osli_NotLet : Array (Option Value)} {ccl_NotLet ccv_NotLet : Value} {cdd_NotLet cld_NotLet : Option Addr} {vsi_NotLet : Array Value} {ccs_NotLet csl_NotLet : Array (Option Value)} {file_NotLet : Str} {tf_NotLet : Tok}
    {C_BadWord : Addr}
    {C_BadChange : Addr}
    {C_Group : Addr}
    {g_Groupinit : Addr} {od_Groupinit an_Groupinit : Option Addr} {sl_Groupinit : Array (Option Value)} {oc_Groupinit kV_Groupinit dc_Groupinit pm_Groupinit cd_Groupinit ct_Groupinit : Value}
    {g_Groupeq : Addr} {od_Groupeq an_Groupeq : Option Addr} {sl_Groupeq : Array (Option Value)} {oc_Groupeq kV_Groupeq dc_Groupeq pm_Groupeq cd_Groupeq ct_Groupeq : Value}
    {f0 : Addr} {od0 an0 : Option Addr} {sl0 : Array (Option Value)} {oc0 kV0 dc0 pm0 cd0 ct0 : Value}
    {f1 : Addr} {od1 an1 : Option Addr} {sl1 : Array (Option Value)} {oc1 kV1 dc1 pm1 cd1 ct1 : Value}
    {f2 : Addr} {od2 an2 : Option Addr} {sl2 : Array (Option Value)} {oc2 kV2 dc2 pm2 cd2 ct2 : Value}
    {f3 : Addr} {od3 an3 : Option Addr} {sl3 : Array (Option Value)} {oc3 kV3 dc3 pm3 cd3 ct3 : Value}
    {f4 : Addr} {od4 an4 : Option Addr} {sl4 : Array (Option Value)} {oc4 kV4 dc4 pm4 cd4 ct4 : Value}
    {f5 : Addr} {od5 an5 : Option Addr} {sl5 : Array (Option Value)} {oc5 kV5 dc5 pm5 cd5 ct5 : Value}
    {f6 : Addr} {od6 an6 : Option Addr} {sl6 : Array (Option Value)} {oc6 kV6 dc6 pm6 cd6 ct6 : Value}
    {f7 : Addr} {od7 an7 : Option Addr} {sl7 : Array (Option Value)} {oc7 kV7 dc7 pm7 cd7 ct7 : Value}
    {f8 : Addr} {od8 an8 : Option Addr} {sl8 : Array (Option Value)} {oc8 kV8 dc8 pm8 cd8 ct8 : Value}
    {f9 : Addr} {od9 an9 : Option Addr} {sl9 : Array (Option Value)} {oc9 kV9 dc9 pm9 cd9 ct9 : Value}
    {f10 : Addr} {od10 an10 : Option Addr} {sl10 : Array (Option Value)} {oc10 kV10 dc10 pm10 cd10 ct10 : Value}
    {f11 : Addr} {od11 an11 : Option Addr} {sl11 : Array (Option Value)} {oc11 kV11 dc11 pm11 cd11 ct11 : Value}
    {f12 : Addr} {od12 an12 : Option Addr} {sl12 : Array (Option Value)} {oc12 kV12 dc12 pm12 cd12 ct12 : Value}
    {f13 : Addr} {od13 an13 : Option Addr} {sl13 : Array (Option Value)} {oc13 kV13 dc13 pm13 cd13 ct13 : Value}
    {f14 : Addr} {od14 an14 : Option Addr} {sl14 : Array (Option Value)} {oc14 kV14 dc14 pm14 cd14 ct14 : Value}
    {f15 : Addr} {od15 an15 : Option Addr} {sl15 : Array (Option Value)} {oc15 kV15 dc15 pm15 cd15 ct15 : Value}
    {f16 : Addr} {od16 an16 : Option Addr} {sl16 : Array (Option Value)} {oc16 kV16 dc16 pm16 cd16 ct16 : Value}
    {f17 : Addr} {od17 an17 : Option Addr} {sl17 : Array (Option Value)} {oc17 kV17 dc17 pm17 cd17 ct17 : Value}
    {f18 : Addr} {od18 an18 : Option Addr} {sl18 : Array (Option Value)} {oc18 kV18 dc18 pm18 cd18 ct18 : Value}
    {f19 : Addr} {od19 an19 : Option Addr} {sl19 : Array (Option Value)} {oc19 kV19 dc19 pm19 cd19 ct19 : Value}
    {f20 : Addr} {od20 an20 : Option Addr} {sl20 : Array (Option Value)} {oc20 kV20 dc20 pm20 cd20 ct20 : Value}
    {f21 : Addr} {od21 an21 : Option Addr} {sl21 : Array (Option Value)} {oc21 kV21 dc21 pm21 cd21 ct21 : Value}
    {f22 : Addr} {od22 an22 : Option Addr} {sl22 : Array (Option Value)} {oc22 kV22 dc22 pm22 cd22 ct22 : Value}
    {f23 : Addr} {od23 an23 : Option Addr} {sl23 : Array (Option Value)} {oc23 kV23 dc23 pm23 cd23 ct23 : Value}
    {f24 : Addr} {od24 an24 : Option Addr} {sl24 : Array (Option Value)} {oc24 kV24 dc24 pm24 cd24 ct24 : Value}
    {f25 : Addr} {od25 an25 : Option Addr} {sl25 : Array (Option Value)} {oc25 kV25 dc25 pm25 cd25 ct25 : Value}
    {f26 : Addr} {od26 an26 : Option Addr} {sl26 : Array (Option Value)} {oc26 kV26 dc26 pm26 cd26 ct26 : Value}
    {f27 : Addr} {od27 an27 : Option Addr} {sl27 : Array (Option Value)} {oc27 kV27 dc27 pm27 cd27 ct27 : Value}
    {f28 : Addr} {od28 an28 : Option Addr} {sl28 : Array (Option Value)} {oc28 kV28 dc28 pm28 cd28 ct28 : Value}
    {f29 : Addr} {od29 an29 : Option Addr} {sl29 : Array (Option Value)} {oc29 kV29 dc29 pm29 cd29 ct29 : Value}
    {f30 : Addr} {od30 an30 : Option Addr} {sl30 : Array (Option Value)} {oc30 kV30 dc30 pm30 cd30 ct30 : Value}
    {f31 : Addr} {od31 an31 : Option Addr} {sl31 : Array (Option Value)} {oc31 kV31 dc31 pm31 cd31 ct31 : Value}
    {f32 : Addr} {od32 an32 : Option Addr} {sl32 : Array (Option Value)} {oc32 kV32 dc32 pm32 cd32 ct32 : Value}
    {f33 : Addr} {od33 an33 : Option Addr} {sl33 : Array (Option Value)} {oc33 kV33 dc33 pm33 cd33 ct33 : Value}
    {f34 : Addr} {od34 an34 : Option Addr} {sl34 : Array (Option Value)} {oc34 kV34 dc34 pm34 cd34 ct34 : Value}
    {f35 : Addr} {od35 an35 : Option Addr} {sl35 : Array (Option Value)} {oc35 kV35 dc35 pm35 cd35 ct35 : Value}
    {f36 : Addr} {od36 an36 : Option Addr} {sl36 : Array (Option Value)} {oc36 kV36 dc36 pm36 cd36 ct36 : Value}
    {f37 : Addr} {od37 an37 : Option Addr} {sl37 : Array (Option Value)} {oc37 kV37 dc37 pm37 cd37 ct37 : Value}
    {f38 : Addr} {od38 an38 : Option Addr} {sl38 : Array (Option Value)} {oc38 kV38 dc38 pm38 cd38 ct38 : Value}
    {f39 cL39 Pt39 : Addr} {od39 an39 ddT39 : Option Addr} {sl39 slT39 : Array (Option Value)} {oc39 kV39 dc39 pm39 ct39 eT39 : Value} {vsT39 : Array Value}
    {f40 : Addr} {od40 an40 : Option Addr} {sl40 : Array (Option Value)} {oc40 kV40 dc40 pm40 cd40 ct40 : Value}
    {f41 : Addr} {od41 an41 : Option Addr} {sl41 : Array (Option Value)} {oc41 kV41 dc41 pm41 cd41 ct41 : Value}
    {f42 cL Pt : Addr} {od42 an42 ddT : Option Addr} {sl42 slT : Array (Option Value)} {oc42 kV42 dc42 pm42 ct42 eT : Value} {vsT : Array Value}
    {t_MOST_BACK : Tok}
    {t_MOST_RULES : Tok}
    {t_MOST_SIDE : Tok}
    (a0 : PySem.W.nsIn K mainGlobals "is_number" = some (some (.ref f0)))
    (l0 : K.lookup f0 = some ⟨oc0, od0, .func (PySem.W.fnOf "is_number" "is_number" (defArgs s_is_number) (defBody s_is_number) (defScope s_is_number) .none kV0 dc0 pm0 an0 cd0 ct0), sl0⟩)
    (c0 : PySem.W.codeIn K cd0 "is_number" = true)
    (k0 : PySem.W.keepIn K (.ref f0) = true)
    (a1 : PySem.W.nsIn K mainGlobals "is_number_in" = some (some (.ref f1)))
    (l1 : K.lookup f1 = some ⟨oc1, od1, .func (PySem.W.fnOf "is_number_in" "is_number_in" (defArgs s_is_number_in) (defBody s_is_number_in) (defScope s_is_number_in) .none kV1 dc1 pm1 an1 cd1 ct1), sl1⟩)
    (c1 : PySem.W.codeIn K cd1 "is_number_in" = true)
    (k1 : PySem.W.keepIn K (.ref f1) = true)
    (a2 : PySem.W.nsIn K mainGlobals "is_list" = some (some (.ref f2)))
    (l2 : K.lookup f2 = some ⟨oc2, od2, .func (PySem.W.fnOf "is_list" "is_list" (defArgs s_is_list) (defBody s_is_list) (defScope s_is_list) .none kV2 dc2 pm2 an2 cd2 ct2), sl2⟩)
    (c2 : PySem.W.codeIn K cd2 "is_list" = true)
    (k2 : PySem.W.keepIn K (.ref f2) = true)
    (a3 : PySem.W.nsIn K mainGlobals "is_pair" = some (some (.ref f3)))
    (l3 : K.lookup f3 = some ⟨oc3, od3, .func (PySem.W.fnOf "is_pair" "is_pair" (defArgs s_is_pair) (defBody s_is_pair) (defScope s_is_pair) .none kV3 dc3 pm3 an3 cd3 ct3), sl3⟩)
    (c3 : PySem.W.codeIn K cd3 "is_pair" = true)
    (k3 : PySem.W.keepIn K (.ref f3) = true)
    (a4 : PySem.W.nsIn K mainGlobals "is_row" = some (some (.ref f4)))
    (l4 : K.lookup f4 = some ⟨oc4, od4, .func (PySem.W.fnOf "is_row" "is_row" (defArgs s_is_row) (defBody s_is_row) (defScope s_is_row) .none kV4 dc4 pm4 an4 cd4 ct4), sl4⟩)
    (c4 : PySem.W.codeIn K cd4 "is_row" = true)
    (k4 : PySem.W.keepIn K (.ref f4) = true)
    (a5 : PySem.W.nsIn K mainGlobals "is_short_row" = some (some (.ref f5)))
    (l5 : K.lookup f5 = some ⟨oc5, od5, .func (PySem.W.fnOf "is_short_row" "is_short_row" (defArgs s_is_short_row) (defBody s_is_short_row) (defScope s_is_short_row) .none kV5 dc5 pm5 an5 cd5 ct5), sl5⟩)
    (c5 : PySem.W.codeIn K cd5 "is_short_row" = true)
    (k5 : PySem.W.keepIn K (.ref f5) = true)
    (a6 : PySem.W.nsIn K mainGlobals "is_back" = some (some (.ref f6)))
    (l6 : K.lookup f6 = some ⟨oc6, od6, .func (PySem.W.fnOf "is_back" "is_back" (defArgs s_is_back) (defBody s_is_back) (defScope s_is_back) .none kV6 dc6 pm6 an6 cd6 ct6), sl6⟩)
    (c6 : PySem.W.codeIn K cd6 "is_back" = true)
    (k6 : PySem.W.keepIn K (.ref f6) = true)
    (a7 : PySem.W.nsIn K mainGlobals "want_letters" = some (some (.ref f7)))
    (l7 : K.lookup f7 = some ⟨oc7, od7, .func (PySem.W.fnOf "want_letters" "want_letters" (defArgs s_want_letters) (defBody s_want_letters) (defScope s_want_letters) .none kV7 dc7 pm7 an7 cd7 ct7), sl7⟩)
    (c7 : PySem.W.codeIn K cd7 "want_letters" = true)
    (k7 : PySem.W.keepIn K (.ref f7) = true)
    (a8 : PySem.W.nsIn K mainGlobals "turned_back" = some (some (.ref f8)))
    (l8 : K.lookup f8 = some ⟨oc8, od8, .func (PySem.W.fnOf "turned_back" "turned_back" (defArgs s_turned_back) (defBody s_turned_back) (defScope s_turned_back) .none kV8 dc8 pm8 an8 cd8 ct8), sl8⟩)
    (c8 : PySem.W.codeIn K cd8 "turned_back" = true)
    (k8 : PySem.W.keepIn K (.ref f8) = true)
    (a9 : PySem.W.nsIn K mainGlobals "is_rule" = some (some (.ref f9)))
    (l9 : K.lookup f9 = some ⟨oc9, od9, .func (PySem.W.fnOf "is_rule" "is_rule" (defArgs s_is_rule) (defBody s_is_rule) (defScope s_is_rule) .none kV9 dc9 pm9 an9 cd9 ct9), sl9⟩)
    (c9 : PySem.W.codeIn K cd9 "is_rule" = true)
    (k9 : PySem.W.keepIn K (.ref f9) = true)
    (a10 : PySem.W.nsIn K mainGlobals "are_rules" = some (some (.ref f10)))
    (l10 : K.lookup f10 = some ⟨oc10, od10, .func (PySem.W.fnOf "are_rules" "are_rules" (defArgs s_are_rules) (defBody s_are_rules) (defScope s_are_rules) .none kV10 dc10 pm10 an10 cd10 ct10), sl10⟩)
    (c10 : PySem.W.codeIn K cd10 "are_rules" = true)
    (k10 : PySem.W.keepIn K (.ref f10) = true)
    (a11 : PySem.W.nsIn K mainGlobals "want_group" = some (some (.ref f11)))
    (l11 : K.lookup f11 = some ⟨oc11, od11, .func (PySem.W.fnOf "want_group" "want_group" (defArgs s_want_group) (defBody s_want_group) (defScope s_want_group) .none kV11 dc11 pm11 an11 cd11 ct11), sl11⟩)
    (c11 : PySem.W.codeIn K cd11 "want_group" = true)
    (k11 : PySem.W.keepIn K (.ref f11) = true)
    (a12 : PySem.W.nsIn K mainGlobals "is_change" = some (some (.ref f12)))
    (l12 : K.lookup f12 = some ⟨oc12, od12, .func (PySem.W.fnOf "is_change" "is_change" (defArgs s_is_change) (defBody s_is_change) (defScope s_is_change) .none kV12 dc12 pm12 an12 cd12 ct12), sl12⟩)
    (c12 : PySem.W.codeIn K cd12 "is_change" = true)
    (k12 : PySem.W.keepIn K (.ref f12) = true)
    (a13 : PySem.W.nsIn K mainGlobals "with_rule" = some (some (.ref f13)))
    (l13 : K.lookup f13 = some ⟨oc13, od13, .func (PySem.W.fnOf "with_rule" "with_rule" (defArgs s_with_rule) (defBody s_with_rule) (defScope s_with_rule) .none kV13 dc13 pm13 an13 cd13 ct13), sl13⟩)
    (c13 : PySem.W.codeIn K cd13 "with_rule" = true)
    (k13 : PySem.W.keepIn K (.ref f13) = true)
    (a14 : PySem.W.nsIn K mainGlobals "without_rule" = some (some (.ref f14)))
    (l14 : K.lookup f14 = some ⟨oc14, od14, .func (PySem.W.fnOf "without_rule" "without_rule" (defArgs s_without_rule) (defBody s_without_rule) (defScope s_without_rule) .none kV14 dc14 pm14 an14 cd14 ct14), sl14⟩)
    (c14 : PySem.W.codeIn K cd14 "without_rule" = true)
    (k14 : PySem.W.keepIn K (.ref f14) = true)
    (a15 : PySem.W.nsIn K mainGlobals "with_letters" = some (some (.ref f15)))
    (l15 : K.lookup f15 = some ⟨oc15, od15, .func (PySem.W.fnOf "with_letters" "with_letters" (defArgs s_with_letters) (defBody s_with_letters) (defScope s_with_letters) .none kV15 dc15 pm15 an15 cd15 ct15), sl15⟩)
    (c15 : PySem.W.codeIn K cd15 "with_letters" = true)
    (k15 : PySem.W.keepIn K (.ref f15) = true)
    (a16 : PySem.W.nsIn K mainGlobals "place_of_meaning" = some (some (.ref f16)))
    (l16 : K.lookup f16 = some ⟨oc16, od16, .func (PySem.W.fnOf "place_of_meaning" "place_of_meaning" (defArgs s_place_of_meaning) (defBody s_place_of_meaning) (defScope s_place_of_meaning) .none kV16 dc16 pm16 an16 cd16 ct16), sl16⟩)
    (c16 : PySem.W.codeIn K cd16 "place_of_meaning" = true)
    (k16 : PySem.W.keepIn K (.ref f16) = true)
    (a17 : PySem.W.nsIn K mainGlobals "replaced" = some (some (.ref f17)))
    (l17 : K.lookup f17 = some ⟨oc17, od17, .func (PySem.W.fnOf "replaced" "replaced" (defArgs s_replaced) (defBody s_replaced) (defScope s_replaced) .none kV17 dc17 pm17 an17 cd17 ct17), sl17⟩)
    (c17 : PySem.W.codeIn K cd17 "replaced" = true)
    (k17 : PySem.W.keepIn K (.ref f17) = true)
    (a18 : PySem.W.nsIn K mainGlobals "meaning_of_last" = some (some (.ref f18)))
    (l18 : K.lookup f18 = some ⟨oc18, od18, .func (PySem.W.fnOf "meaning_of_last" "meaning_of_last" (defArgs s_meaning_of_last) (defBody s_meaning_of_last) (defScope s_meaning_of_last) .none kV18 dc18 pm18 an18 cd18 ct18), sl18⟩)
    (c18 : PySem.W.codeIn K cd18 "meaning_of_last" = true)
    (k18 : PySem.W.keepIn K (.ref f18) = true)
    (a19 : PySem.W.nsIn K mainGlobals "without_letters" = some (some (.ref f19)))
    (l19 : K.lookup f19 = some ⟨oc19, od19, .func (PySem.W.fnOf "without_letters" "without_letters" (defArgs s_without_letters) (defBody s_without_letters) (defScope s_without_letters) .none kV19 dc19 pm19 an19 cd19 ct19), sl19⟩)
    (c19 : PySem.W.codeIn K cd19 "without_letters" = true)
    (k19 : PySem.W.keepIn K (.ref f19) = true)
    (a20 : PySem.W.nsIn K mainGlobals "changed" = some (some (.ref f20)))
    (l20 : K.lookup f20 = some ⟨oc20, od20, .func (PySem.W.fnOf "changed" "changed" (defArgs s_changed) (defBody s_changed) (defScope s_changed) .none kV20 dc20 pm20 an20 cd20 ct20), sl20⟩)
    (c20 : PySem.W.codeIn K cd20 "changed" = true)
    (k20 : PySem.W.keepIn K (.ref f20) = true)
    (a21 : PySem.W.nsIn K mainGlobals "changed_word" = some (some (.ref f21)))
    (l21 : K.lookup f21 = some ⟨oc21, od21, .func (PySem.W.fnOf "changed_word" "changed_word" (defArgs s_changed_word) (defBody s_changed_word) (defScope s_changed_word) .none kV21 dc21 pm21 an21 cd21 ct21), sl21⟩)
    (c21 : PySem.W.codeIn K cd21 "changed_word" = true)
    (k21 : PySem.W.keepIn K (.ref f21) = true)
    (a22 : PySem.W.nsIn K mainGlobals "_law_begun" = some (some (.ref f22)))
    (l22 : K.lookup f22 = some ⟨oc22, od22, .func (PySem.W.fnOf "_law_begun" "_law_begun" (defArgs s_law_begun) (defBody s_law_begun) (defScope s_law_begun) .none kV22 dc22 pm22 an22 cd22 ct22), sl22⟩)
    (c22 : PySem.W.codeIn K cd22 "_law_begun" = true)
    (k22 : PySem.W.keepIn K (.ref f22) = true)
    (a23 : PySem.W.nsIn K mainGlobals "_law_mixed" = some (some (.ref f23)))
    (l23 : K.lookup f23 = some ⟨oc23, od23, .func (PySem.W.fnOf "_law_mixed" "_law_mixed" (defArgs s_law_mixed) (defBody s_law_mixed) (defScope s_law_mixed) .none kV23 dc23 pm23 an23 cd23 ct23), sl23⟩)
    (c23 : PySem.W.codeIn K cd23 "_law_mixed" = true)
    (k23 : PySem.W.keepIn K (.ref f23) = true)
    (a24 : PySem.W.nsIn K mainGlobals "_law_take" = some (some (.ref f24)))
    (l24 : K.lookup f24 = some ⟨oc24, od24, .func (PySem.W.fnOf "_law_take" "_law_take" (defArgs s_law_take) (defBody s_law_take) (defScope s_law_take) .none kV24 dc24 pm24 an24 cd24 ct24), sl24⟩)
    (c24 : PySem.W.codeIn K cd24 "_law_take" = true)
    (k24 : PySem.W.keepIn K (.ref f24) = true)
    (a25 : PySem.W.nsIn K mainGlobals "_law_pick" = some (some (.ref f25)))
    (l25 : K.lookup f25 = some ⟨oc25, od25, .func (PySem.W.fnOf "_law_pick" "_law_pick" (defArgs s_law_pick) (defBody s_law_pick) (defScope s_law_pick) .none kV25 dc25 pm25 an25 cd25 ct25), sl25⟩)
    (c25 : PySem.W.codeIn K cd25 "_law_pick" = true)
    (k25 : PySem.W.keepIn K (.ref f25) = true)
    (a26 : PySem.W.nsIn K mainGlobals "_law_caught" = some (some (.ref f26)))
    (l26 : K.lookup f26 = some ⟨oc26, od26, .func (PySem.W.fnOf "_law_caught" "_law_caught" (defArgs s_law_caught) (defBody s_law_caught) (defScope s_law_caught) .none kV26 dc26 pm26 an26 cd26 ct26), sl26⟩)
    (c26 : PySem.W.codeIn K cd26 "_law_caught" = true)
    (k26 : PySem.W.keepIn K (.ref f26) = true)
    (a27 : PySem.W.nsIn K mainGlobals "_law_word" = some (some (.ref f27)))
    (l27 : K.lookup f27 = some ⟨oc27, od27, .func (PySem.W.fnOf "_law_word" "_law_word" (defArgs s_law_word) (defBody s_law_word) (defScope s_law_word) .none kV27 dc27 pm27 an27 cd27 ct27), sl27⟩)
    (c27 : PySem.W.codeIn K cd27 "_law_word" = true)
    (k27 : PySem.W.keepIn K (.ref f27) = true)
    (a28 : PySem.W.nsIn K mainGlobals "_law_undoing" = some (some (.ref f28)))
    (l28 : K.lookup f28 = some ⟨oc28, od28, .func (PySem.W.fnOf "_law_undoing" "_law_undoing" (defArgs s_law_undoing) (defBody s_law_undoing) (defScope s_law_undoing) .none kV28 dc28 pm28 an28 cd28 ct28), sl28⟩)
    (c28 : PySem.W.codeIn K cd28 "_law_undoing" = true)
    (k28 : PySem.W.keepIn K (.ref f28) = true)
    (a29 : PySem.W.nsIn K mainGlobals "_law_small_moves" = some (some (.ref f29)))
    (l29 : K.lookup f29 = some ⟨oc29, od29, .func (PySem.W.fnOf "_law_small_moves" "_law_small_moves" (defArgs s_law_small_moves) (defBody s_law_small_moves) (defScope s_law_small_moves) .none kV29 dc29 pm29 an29 cd29 ct29), sl29⟩)
    (c29 : PySem.W.codeIn K cd29 "_law_small_moves" = true)
    (k29 : PySem.W.keepIn K (.ref f29) = true)
    (a30 : PySem.W.nsIn K mainGlobals "_law_moved_point" = some (some (.ref f30)))
    (l30 : K.lookup f30 = some ⟨oc30, od30, .func (PySem.W.fnOf "_law_moved_point" "_law_moved_point" (defArgs s_law_moved_point) (defBody s_law_moved_point) (defScope s_law_moved_point) .none kV30 dc30 pm30 an30 cd30 ct30), sl30⟩)
    (c30 : PySem.W.codeIn K cd30 "_law_moved_point" = true)
    (k30 : PySem.W.keepIn K (.ref f30) = true)
    (a31 : PySem.W.nsIn K mainGlobals "_law_alike_moves" = some (some (.ref f31)))
    (l31 : K.lookup f31 = some ⟨oc31, od31, .func (PySem.W.fnOf "_law_alike_moves" "_law_alike_moves" (defArgs s_law_alike_moves) (defBody s_law_alike_moves) (defScope s_law_alike_moves) .none kV31 dc31 pm31 an31 cd31 ct31), sl31⟩)
    (c31 : PySem.W.codeIn K cd31 "_law_alike_moves" = true)
    (k31 : PySem.W.keepIn K (.ref f31) = true)
    (a32 : PySem.W.nsIn K mainGlobals "_law_keeps" = some (some (.ref f32)))
    (l32 : K.lookup f32 = some ⟨oc32, od32, .func (PySem.W.fnOf "_law_keeps" "_law_keeps" (defArgs s_law_keeps) (defBody s_law_keeps) (defScope s_law_keeps) .none kV32 dc32 pm32 an32 cd32 ct32), sl32⟩)
    (c32 : PySem.W.codeIn K cd32 "_law_keeps" = true)
    (k32 : PySem.W.keepIn K (.ref f32) = true)
    (a33 : PySem.W.nsIn K mainGlobals "_law_spelled" = some (some (.ref f33)))
    (l33 : K.lookup f33 = some ⟨oc33, od33, .func (PySem.W.fnOf "_law_spelled" "_law_spelled" (defArgs s_law_spelled) (defBody s_law_spelled) (defScope s_law_spelled) .none kV33 dc33 pm33 an33 cd33 ct33), sl33⟩)
    (c33 : PySem.W.codeIn K cd33 "_law_spelled" = true)
    (k33 : PySem.W.keepIn K (.ref f33) = true)
    (a34 : PySem.W.nsIn K mainGlobals "_law_letter_rule" = some (some (.ref f34)))
    (l34 : K.lookup f34 = some ⟨oc34, od34, .func (PySem.W.fnOf "_law_letter_rule" "_law_letter_rule" (defArgs s_law_letter_rule) (defBody s_law_letter_rule) (defScope s_law_letter_rule) .none kV34 dc34 pm34 an34 cd34 ct34), sl34⟩)
    (c34 : PySem.W.codeIn K cd34 "_law_letter_rule" = true)
    (k34 : PySem.W.keepIn K (.ref f34) = true)
    (a35 : PySem.W.nsIn K mainGlobals "_law_changed" = some (some (.ref f35)))
    (l35 : K.lookup f35 = some ⟨oc35, od35, .func (PySem.W.fnOf "_law_changed" "_law_changed" (defArgs s_law_changed) (defBody s_law_changed) (defScope s_law_changed) .none kV35 dc35 pm35 an35 cd35 ct35), sl35⟩)
    (c35 : PySem.W.codeIn K cd35 "_law_changed" = true)
    (k35 : PySem.W.keepIn K (.ref f35) = true)
    (a36 : PySem.W.nsIn K mainGlobals "_law_carried" = some (some (.ref f36)))
    (l36 : K.lookup f36 = some ⟨oc36, od36, .func (PySem.W.fnOf "_law_carried" "_law_carried" (defArgs s_law_carried) (defBody s_law_carried) (defScope s_law_carried) .none kV36 dc36 pm36 an36 cd36 ct36), sl36⟩)
    (c36 : PySem.W.codeIn K cd36 "_law_carried" = true)
    (k36 : PySem.W.keepIn K (.ref f36) = true)
    (a37 : PySem.W.nsIn K mainGlobals "_law_some_group" = some (some (.ref f37)))
    (l37 : K.lookup f37 = some ⟨oc37, od37, .func (PySem.W.fnOf "_law_some_group" "_law_some_group" (defArgs s_law_some_group) (defBody s_law_some_group) (defScope s_law_some_group) .none kV37 dc37 pm37 an37 cd37 ct37), sl37⟩)
    (c37 : PySem.W.codeIn K cd37 "_law_some_group" = true)
    (k37 : PySem.W.keepIn K (.ref f37) = true)
    (a38 : PySem.W.nsIn K mainGlobals "_law_some_change" = some (some (.ref f38)))
    (l38 : K.lookup f38 = some ⟨oc38, od38, .func (PySem.W.fnOf "_law_some_change" "_law_some_change" (defArgs s_law_some_change) (defBody s_law_some_change) (defScope s_law_some_change) .none kV38 dc38 pm38 an38 cd38 ct38), sl38⟩)
    (c38 : PySem.W.codeIn K cd38 "_law_some_change" = true)
    (k38 : PySem.W.keepIn K (.ref f38) = true)
    (a39 : PySem.W.nsIn K mainGlobals "_law_change_right" = some (some (.ref f39)))
    (l39 : K.lookup f39 = some ⟨oc39, od39, .func (PySem.W.fnOf "_law_change_right" "_law_change_right" (defArgs s_law_change_right) (defBody s_law_change_right) (defScope s_law_change_right) .none kV39 dc39 pm39 an39 (.ref cL39) ct39), sl39⟩)
    (c39 : PySem.W.codeIn K (.ref cL39) "_law_change_right" = true)
    (k39 : PySem.W.keepIn K (.ref f39) = true)
    (lc039 : K.lookup cL39 = some ⟨eT39, ddT39, .fields vsT39, slT39⟩)
    (lt039 : vsT39[11]? = some (.ref Pt39))
    (ch039 : PySem.W.codeHdIn K cL39 Pt39 = true)
    (np039 : K.lookup Pt39 = none)
    (mt039 : Pt39 ∈ ts)
    (a40 : PySem.W.nsIn K mainGlobals "_law_kept_lists" = some (some (.ref f40)))
    (l40 : K.lookup f40 = some ⟨oc40, od40, .func (PySem.W.fnOf "_law_kept_lists" "_law_kept_lists" (defArgs s_law_kept_lists) (defBody s_law_kept_lists) (defScope s_law_kept_lists) .none kV40 dc40 pm40 an40 cd40 ct40), sl40⟩)
    (c40 : PySem.W.codeIn K cd40 "_law_kept_lists" = true)
    (k40 : PySem.W.keepIn K (.ref f40) = true)
    (a41 : PySem.W.nsIn K mainGlobals "_law_full_group" = some (some (.ref f41)))
    (l41 : K.lookup f41 = some ⟨oc41, od41, .func (PySem.W.fnOf "_law_full_group" "_law_full_group" (defArgs s_law_full_group) (defBody s_law_full_group) (defScope s_law_full_group) .none kV41 dc41 pm41 an41 cd41 ct41), sl41⟩)
    (c41 : PySem.W.codeIn K cd41 "_law_full_group" = true)
    (k41 : PySem.W.keepIn K (.ref f41) = true)
    (a42 : PySem.W.nsIn K mainGlobals "law" = some (some (.ref f42)))
    (l42 : K.lookup f42 = some ⟨oc42, od42, .func (PySem.W.fnOf "law" "law" (defArgs s_law) (defBody s_law) (defScope s_law) .none kV42 dc42 pm42 an42 (.ref cL) ct42), sl42⟩)
    (c42 : PySem.W.codeIn K (.ref cL) "law" = true)
    (k42 : PySem.W.keepIn K (.ref f42) = true)
    (lc0 : K.lookup cL = some ⟨eT, ddT, .fields vsT, slT⟩)
    (lt0 : vsT[11]? = some (.ref Pt))
    (ch0 : PySem.W.codeHdIn K cL Pt = true)
    (np0 : K.lookup Pt = none)
    (mt0 : Pt ∈ ts)
    (pn039 : Pt ≠ Pt39)
    (g_MOST_BACK : PySem.W.nsIn K mainGlobals "MOST_BACK" = some (some (.int 12 t_MOST_BACK)))
    (g_MOST_RULES : PySem.W.nsIn K mainGlobals "MOST_RULES" = some (some (.int 40 t_MOST_RULES)))
    (g_MOST_SIDE : PySem.W.nsIn K mainGlobals "MOST_SIDE" = some (some (.int 40 t_MOST_SIDE)))
    (z_len : PySem.W.nsIn K mainGlobals "len" = some none)
    (z_int : PySem.W.nsIn K mainGlobals "int" = some none)
    (z_bool : PySem.W.nsIn K mainGlobals "bool" = some none)
    (z_str : PySem.W.nsIn K mainGlobals "str" = some none)
    (z_list : PySem.W.nsIn K mainGlobals "list" = some none)
    (z_tuple : PySem.W.nsIn K mainGlobals "tuple" = some none)
    (z_dict : PySem.W.nsIn K mainGlobals "dict" = some none)
    (z_isinstance : PySem.W.nsIn K mainGlobals "isinstance" = some none)
    (z_all : PySem.W.nsIn K mainGlobals "all" = some none)
    (z_any : PySem.W.nsIn K mainGlobals "any" = some none)
    (z_abs : PySem.W.nsIn K mainGlobals "abs" = some none)
    (z_min : PySem.W.nsIn K mainGlobals "min" = some none)
    (z_max : PySem.W.nsIn K mainGlobals "max" = some none)
    (z_range : PySem.W.nsIn K mainGlobals "range" = some none)
    (z_enumerate : PySem.W.nsIn K mainGlobals "enumerate" = some none)
    (z_repr : PySem.W.nsIn K mainGlobals "repr" = some none)
    (z_sorted : PySem.W.nsIn K mainGlobals "sorted" = some none)
    (z_super : PySem.W.nsIn K mainGlobals "super" = some none)
    (z_op : PySem.W.nsIn K cStatics "thirdparty.any" = some none)
    (h_top : (l.prog.main.scope.names.lookup ("super" : Str)).isSome = false)
    (xg_GroupError : PySem.W.nsIn K mainGlobals "GroupError" = some (some (.ref C_GroupError)))
    (xb_GroupError : PySem.W.subIn K (.ref C_GroupError) (.type "BaseException") = some true)
    (xt_GroupError : PySem.W.typeIn K (.ref C_GroupError) = some (.type "type"))
    (xd_GroupError : PySem.W.hasDictIn K C_GroupError = true)
    (xg_BadGroup : PySem.W.nsIn K mainGlobals "BadGroup" = some (some (.ref C_BadGroup)))
    (xb_BadGroup : PySem.W.subIn K (.ref C_BadGroup) (.type "BaseException") = some true)
    (xt_BadGroup : PySem.W.typeIn K (.ref C_BadGroup) = some (.type "type"))
    (xd_BadGroup : PySem.W.hasDictIn K C_BadGroup = true)
    (xx_BadGroup : K.lookup C_BadGroup = some (excClassObj nm_BadGroup q_BadGroup C_BadGroup N_BadGroup bs_BadGroup [.ref C_GroupError, .type "ValueError", .type "Exception", .type "BaseException", .type "object"] true sn_BadGroup sub_BadGroup ab_BadGroup col_BadGroup dd_BadGroup m0_BadGroup m1_BadGroup m2_BadGroup m3_BadGroup m5_BadGroup "ValueError.__new__"))
    (xk_BadGroup : PySem.W.keepIn K (.ref C_BadGroup) = true)
    (xsa_BadGroup : PySem.W.findIn K (.ref C_BadGroup) "__setattr__" = some (some (.builtin "object.__setattr__")))
    (xa_BadGroup : PySem.W.findIn K (.ref C_BadGroup) "__getattribute__" = some (some (.builtin "BaseException.__getattribute__")))
    (xh_BadGroup : PySem.W.findIn K (.ref C_BadGroup) "__getattr__" = some none)
    (xn_BadGroup : PySem.W.findIn K (.ref C_BadGroup) "part" = some none)
    (xi_BadGroup : PySem.W.findIn K (.ref C_BadGroup) "__init__" = some (some (.ref fI_BadGroup)))
    (xf_BadGroup : PySem.W.typeIn K (.ref fI_BadGroup) = some (.type "function"))
    (xv_BadGroup : PySem.W.subIn K (.ref C_BadGroup) (.type "ValueError") = some true)
    (xo_BadGroup : PySem.W.mroIn K C_BadGroup (.ref C_BadGroup) = some true)
    (xw_BadGroup : PySem.W.ks_superIn K C_BadGroup C_BadGroup "__init__" = some (some (.builtin "ValueError.__init__")))
    (xc_BadGroup : PySem.W.findIn K (.ref C_BadGroup) "__class__" = some (some (.builtin "object.__class__")))
    (xm_BadGroup : PySem.W.mroIn K C_BadGroup (.type "object") = some true)
    (xs_BadGroup : PySem.W.subIn K (.ref C_BadGroup) (.ref C_GroupError) = some true)
    (xl_BadGroup : K.lookup fI_BadGroup = some ⟨oi_BadGroup, odi_BadGroup, .func (PySem.W.ksFn "__init__" "BadGroup.__init__" (PySem.SupX.eA "part" ⟨8, 17, 8, 21⟩ ⟨8, 23, 8, 27⟩) (PySem.SupX.eB "part" "not right for a group" ⟨9, 8, 9, 13⟩ ⟨9, 8, 9, 15⟩ ⟨9, 8, 9, 24⟩ ⟨9, 25, 9, 48⟩ ⟨9, 8, 9, 49⟩ ⟨9, 8, 9, 49⟩ ⟨10, 8, 10, 12⟩ ⟨10, 8, 10, 17⟩ ⟨10, 20, 10, 24⟩ ⟨10, 8, 10, 24⟩) (PySem.SupX.eS "part") .none .none doci_BadGroup pmi_BadGroup ani_BadGroup (.ref cda_BadGroup) cti_BadGroup cc_BadGroup), osli_BadGroup⟩)
    (xq_BadGroup : PySem.W.codeIn K (.ref cda_BadGroup) "BadGroup.__init__" = true)
    (xcd_BadGroup : K.lookup cda_BadGroup = some ⟨ccl_BadGroup, cdd_BadGroup, .fields vsi_BadGroup, ccs_BadGroup⟩)
    (xfl_BadGroup : vsi_BadGroup[2]? = some (.str file_BadGroup tf_BadGroup))
    (xfe_BadGroup : ((l.prog.main.file : Str) == file_BadGroup) = true)
    (xcc_BadGroup : K.lookup cc_BadGroup = some ⟨ccv_BadGroup, cld_BadGroup, .cell (some (.ref C_BadGroup)), csl_BadGroup⟩)
    (xg_NotLet : PySem.W.nsIn K mainGlobals "NotLet" = some (some (.ref C_NotLet)))
    (xb_NotLet : PySem.W.subIn K (.ref C_NotLet) (.type "BaseException") = some true)
    (xt_NotLet : PySem.W.typeIn K (.ref C_NotLet) = some (.type "type"))
    (xd_NotLet : PySem.W.hasDictIn K C_NotLet = true)
    (xx_NotLet : K.lookup C_NotLet = some (excClassObj nm_NotLet q_NotLet C_NotLet N_NotLet bs_NotLet [.ref C_GroupError, .type "ValueError", .type "Exception", .type "BaseException", .type "object"] true sn_NotLet sub_NotLet ab_NotLet col_NotLet dd_NotLet m0_NotLet m1_NotLet m2_NotLet m3_NotLet m5_NotLet "ValueError.__new__"))
    (xk_NotLet : PySem.W.keepIn K (.ref C_NotLet) = true)
    (xsa_NotLet : PySem.W.findIn K (.ref C_NotLet) "__setattr__" = some (some (.builtin "object.__setattr__")))
    (xa_NotLet : PySem.W.findIn K (.ref C_NotLet) "__getattribute__" = some (some (.builtin "BaseException.__getattribute__")))
    (xh_NotLet : PySem.W.findIn K (.ref C_NotLet) "__getattr__" = some none)
    (xn_NotLet : PySem.W.findIn K (.ref C_NotLet) "why" = some none)
    (xi_NotLet : PySem.W.findIn K (.ref C_NotLet) "__init__" = some (some (.ref fI_NotLet)))
    (xf_NotLet : PySem.W.typeIn K (.ref fI_NotLet) = some (.type "function"))
    (xv_NotLet : PySem.W.subIn K (.ref C_NotLet) (.type "ValueError") = some true)
    (xo_NotLet : PySem.W.mroIn K C_NotLet (.ref C_NotLet) = some true)
    (xw_NotLet : PySem.W.ks_superIn K C_NotLet C_NotLet "__init__" = some (some (.builtin "ValueError.__init__")))
    (xc_NotLet : PySem.W.findIn K (.ref C_NotLet) "__class__" = some (some (.builtin "object.__class__")))
    (xm_NotLet : PySem.W.mroIn K C_NotLet (.type "object") = some true)
    (xs_NotLet : PySem.W.subIn K (.ref C_NotLet) (.ref C_GroupError) = some true)
    (xl_NotLet : K.lookup fI_NotLet = some ⟨oi_NotLet, odi_NotLet, .func (PySem.W.ksFn "__init__" "NotLet.__init__" (PySem.SupX.eA "why" ⟨15, 17, 15, 21⟩ ⟨15, 23, 15, 26⟩) (PySem.SupX.eB "why" "this cannot be done" ⟨16, 8, 16, 13⟩ ⟨16, 8, 16, 15⟩ ⟨16, 8, 16, 24⟩ ⟨16, 25, 16, 46⟩ ⟨16, 8, 16, 47⟩ ⟨16, 8, 16, 47⟩ ⟨17, 8, 17, 12⟩ ⟨17, 8, 17, 16⟩ ⟨17, 19, 17, 22⟩ ⟨17, 8, 17, 22⟩) (PySem.SupX.eS "why") .none .none doci_NotLet pmi_NotLet ani_NotLet (.ref cda_NotLet) cti_NotLet cc_NotLet), osli_NotLet⟩)
    (xq_NotLet : PySem.W.codeIn K (.ref cda_NotLet) "NotLet.__init__" = true)
    (xcd_NotLet : K.lookup cda_NotLet = some ⟨ccl_NotLet, cdd_NotLet, .fields vsi_NotLet, ccs_NotLet⟩)
    (xfl_NotLet : vsi_NotLet[2]? = some (.str file_NotLet tf_NotLet))
    (xfe_NotLet : ((l.prog.main.file : Str) == file_NotLet) = true)
    (xcc_NotLet : K.lookup cc_NotLet = some ⟨ccv_NotLet, cld_NotLet, .cell (some (.ref C_NotLet)), csl_NotLet⟩)
    (xg_BadWord : PySem.W.nsIn K mainGlobals "BadWord" = some (some (.ref C_BadWord)))
    (xb_BadWord : PySem.W.subIn K (.ref C_BadWord) (.type "BaseException") = some true)
    (xt_BadWord : PySem.W.typeIn K (.ref C_BadWord) = some (.type "type"))
    (xd_BadWord : PySem.W.hasDictIn K C_BadWord = true)
    (xx_BadWord : PySem.W.excIn K C_BadWord [.type "ValueError", .type "Exception", .type "BaseException", .type "object"] "ValueError.__new__" = true)
    (xk_BadWord : PySem.W.keepIn K (.ref C_BadWord) = true)
    (xa_BadWord : PySem.W.findIn K (.ref C_BadWord) "__getattribute__" = some (some (.builtin "BaseException.__getattribute__")))
    (xh_BadWord : PySem.W.findIn K (.ref C_BadWord) "__getattr__" = some none)
    (xc_BadWord : PySem.W.findIn K (.ref C_BadWord) "__class__" = some (some (.builtin "object.__class__")))
    (xm_BadWord : PySem.W.mroIn K C_BadWord (.type "object") = some true)
    (xs_BadWord : PySem.W.subIn K (.ref C_BadWord) (.ref C_GroupError) = some true)
    (xg_BadChange : PySem.W.nsIn K mainGlobals "BadChange" = some (some (.ref C_BadChange)))
    (xb_BadChange : PySem.W.subIn K (.ref C_BadChange) (.type "BaseException") = some true)
    (xt_BadChange : PySem.W.typeIn K (.ref C_BadChange) = some (.type "type"))
    (xd_BadChange : PySem.W.hasDictIn K C_BadChange = true)
    (xx_BadChange : PySem.W.excIn K C_BadChange [.type "ValueError", .type "Exception", .type "BaseException", .type "object"] "ValueError.__new__" = true)
    (xk_BadChange : PySem.W.keepIn K (.ref C_BadChange) = true)
    (xa_BadChange : PySem.W.findIn K (.ref C_BadChange) "__getattribute__" = some (some (.builtin "BaseException.__getattribute__")))
    (xh_BadChange : PySem.W.findIn K (.ref C_BadChange) "__getattr__" = some none)
    (xc_BadChange : PySem.W.findIn K (.ref C_BadChange) "__class__" = some (some (.builtin "object.__class__")))
    (xm_BadChange : PySem.W.mroIn K C_BadChange (.type "object") = some true)
    (xs_BadChange : PySem.W.subIn K (.ref C_BadChange) (.ref C_GroupError) = some true)
    (gk1 : PySem.W.specialIn K (.builtin "object.__class__") "__get__" = some (some (.builtin "getset_descriptor.__get__")))
    (gk2 : PySem.W.takesIn K (.builtin "object.__class__") = some true)
    (og_Group : PySem.W.nsIn K mainGlobals "Group" = some (some (.ref C_Group)))
    (op_Group : PySem.W.plainGet K C_Group Str.empty = true)
    (od_Group : PySem.W.hasDictIn K C_Group = true)
    (oo_Group : PySem.W.plainOver K C_Group = true)
    (os_Group : PySem.W.findIn K (.ref C_Group) "__setattr__" = some (some (.builtin "object.__setattr__")))
    (om_Group : PySem.W.makesIn K C_Group = true)
    (ok_Group : PySem.W.keepIn K (.ref C_Group) = true)
    (oi_Group : PySem.W.isClsIn K C_Group = true)
    (ot_Group : PySem.W.typeIn K (.ref C_Group) = some (.type "type"))
    (oc_Group : PySem.W.findIn K (.ref C_Group) "__class__" = some (some (.builtin "object.__class__")))
    (ob_Group : PySem.W.mroIn K C_Group (.type "object") = some true)
    (on_Group : PySem.W.findIn K (.ref C_Group) "__ne__" = some (some (.builtin "object.__ne__")))
    (ouNoneType_Group : PySem.W.subIn K (.type "NoneType") (.ref C_Group) = some false)
    (oubool_Group : PySem.W.subIn K (.type "bool") (.ref C_Group) = some false)
    (ouint_Group : PySem.W.subIn K (.type "int") (.ref C_Group) = some false)
    (oustr_Group : PySem.W.subIn K (.type "str") (.ref C_Group) = some false)
    (oulist_Group : PySem.W.subIn K (.type "list") (.ref C_Group) = some false)
    (outuple_Group : PySem.W.subIn K (.type "tuple") (.ref C_Group) = some false)
    (oudict_Group : PySem.W.subIn K (.type "dict") (.ref C_Group) = some false)
    (ofback_Group : PySem.W.findIn K (.ref C_Group) "back" = some none)
    (ofrules_Group : PySem.W.findIn K (.ref C_Group) "rules" = some none)
    (ma_Groupinit : PySem.W.findIn K (.ref C_Group) "__init__" = some (some (.ref g_Groupinit)))
    (mi_Groupinit : PySem.W.isFn K (.ref g_Groupinit) = true)
    (ml_Groupinit : K.lookup g_Groupinit = some ⟨oc_Groupinit, od_Groupinit, .func (PySem.W.fnOf "__init__" "Group.__init__" (defArgs s_Groupinit) (defBody s_Groupinit) (defScope s_Groupinit) .none kV_Groupinit dc_Groupinit pm_Groupinit an_Groupinit cd_Groupinit ct_Groupinit), sl_Groupinit⟩)
    (mc_Groupinit : PySem.W.codeIn K cd_Groupinit "Group.__init__" = true)
    (mk_Groupinit : PySem.W.keepIn K (.ref g_Groupinit) = true)
    (ma_Groupeq : PySem.W.findIn K (.ref C_Group) "__eq__" = some (some (.ref g_Groupeq)))
    (mi_Groupeq : PySem.W.isFn K (.ref g_Groupeq) = true)
    (ml_Groupeq : K.lookup g_Groupeq = some ⟨oc_Groupeq, od_Groupeq, .func (PySem.W.fnOf "__eq__" "Group.__eq__" (defArgs s_Groupeq) (defBody s_Groupeq) (defScope s_Groupeq) .none kV_Groupeq dc_Groupeq pm_Groupeq an_Groupeq cd_Groupeq ct_Groupeq), sl_Groupeq⟩)
    (mc_Groupeq : PySem.W.codeIn K cd_Groupeq "Group.__eq__" = true)
    (mk_Groupeq : PySem.W.keepIn K (.ref g_Groupeq) = true)
    : ∃ c qs, (∀ q ∈ qs, q.2 ∈ ts) ∧ LawL l.prog w K mg "law" s_law N_law 16 fa c qs := by
  have e := hfa.symm.trans (PySem.W.mg_of X G a42)
  cases e
  have T : Bt mg := ⟨PySem.W.mg_none_of X G z_len, PySem.W.mg_none_of X G z_int, PySem.W.mg_none_of X G z_bool, PySem.W.mg_none_of X G z_str, PySem.W.mg_none_of X G z_list, PySem.W.mg_none_of X G z_tuple, PySem.W.mg_none_of X G z_dict, PySem.W.mg_none_of X G z_isinstance, PySem.W.mg_none_of X G z_all, PySem.W.mg_none_of X G z_any, PySem.W.mg_none_of X G z_abs, PySem.W.mg_none_of X G z_min, PySem.W.mg_none_of X G z_max, PySem.W.mg_none_of X G z_range, PySem.W.mg_none_of X G z_enumerate, PySem.W.mg_none_of X G z_repr, PySem.W.mg_none_of X G z_sorted⟩
  have c_MOST_BACK := PySem.W.mg_of X G g_MOST_BACK
  have c_MOST_RULES := PySem.W.mg_of X G g_MOST_RULES
  have c_MOST_SIDE := PySem.W.mg_of X G g_MOST_SIDE
  have t_BadGroup : PySem.SupX.SupTxt l.prog K mg "BadGroup" "part" C_BadGroup fI_BadGroup :=
    { gC := PySem.W.mg_of X G xg_BadGroup, cls := ⟨nm_BadGroup, q_BadGroup, N_BadGroup, bs_BadGroup, _, sn_BadGroup, sub_BadGroup, ab_BadGroup, col_BadGroup, dd_BadGroup, m0_BadGroup, m1_BadGroup, m2_BadGroup, m3_BadGroup, m5_BadGroup, xx_BadGroup, rfl⟩, sa := xsa_BadGroup, ga := xa_BadGroup, gg := xh_BadGroup, noN := xn_BadGroup, iC := xi_BadGroup, tC := xf_BadGroup, kC := xk_BadGroup, exC := xb_BadGroup, veC := xv_BadGroup, tyC := xt_BadGroup, hdC := xd_BadGroup, mC := xo_BadGroup, sup := xw_BadGroup, op := z_op, noS := PySem.W.mg_none_of X G z_super, top := h_top, nf := PySem.SupX.fld_part,
      fn := ⟨_, _, _, _, _, cda_BadGroup, _, _, cc_BadGroup, _, _, _, _, _, _, _, _, _, _, _, _, _, _, _, _, _, _, _, _, _, file_BadGroup, _, rfl, xl_BadGroup, xq_BadGroup, xcd_BadGroup, xfl_BadGroup, xfe_BadGroup, xcc_BadGroup⟩ }
  have E_BadGroup : ExcC K C_BadGroup := ⟨xa_BadGroup, xh_BadGroup, xb_BadGroup, xd_BadGroup, xc_BadGroup, gk1, gk2, xm_BadGroup⟩
  have x_BadGroup : PySem.W.exmOne K (.ref C_BadGroup) (.ref C_GroupError) = some true := PySem.W.exm_ref xb_GroupError xd_GroupError xt_GroupError xs_BadGroup
  have y_BadGroup : PySem.W.kitOne K (.ref C_BadGroup) (.ref C_BadGroup) = some true := if_pos (beq_self_eq_true _)
  have t_NotLet : PySem.SupX.SupTxt l.prog K mg "NotLet" "why" C_NotLet fI_NotLet :=
    { gC := PySem.W.mg_of X G xg_NotLet, cls := ⟨nm_NotLet, q_NotLet, N_NotLet, bs_NotLet, _, sn_NotLet, sub_NotLet, ab_NotLet, col_NotLet, dd_NotLet, m0_NotLet, m1_NotLet, m2_NotLet, m3_NotLet, m5_NotLet, xx_NotLet, rfl⟩, sa := xsa_NotLet, ga := xa_NotLet, gg := xh_NotLet, noN := xn_NotLet, iC := xi_NotLet, tC := xf_NotLet, kC := xk_NotLet, exC := xb_NotLet, veC := xv_NotLet, tyC := xt_NotLet, hdC := xd_NotLet, mC := xo_NotLet, sup := xw_NotLet, op := z_op, noS := PySem.W.mg_none_of X G z_super, top := h_top, nf := PySem.SupX.fld_why,
      fn := ⟨_, _, _, _, _, cda_NotLet, _, _, cc_NotLet, _, _, _, _, _, _, _, _, _, _, _, _, _, _, _, _, _, _, _, _, _, file_NotLet, _, rfl, xl_NotLet, xq_NotLet, xcd_NotLet, xfl_NotLet, xfe_NotLet, xcc_NotLet⟩ }
  have E_NotLet : ExcC K C_NotLet := ⟨xa_NotLet, xh_NotLet, xb_NotLet, xd_NotLet, xc_NotLet, gk1, gk2, xm_NotLet⟩
  have x_NotLet : PySem.W.exmOne K (.ref C_NotLet) (.ref C_GroupError) = some true := PySem.W.exm_ref xb_GroupError xd_GroupError xt_GroupError xs_NotLet
  have y_NotLet : PySem.W.kitOne K (.ref C_NotLet) (.ref C_NotLet) = some true := if_pos (beq_self_eq_true _)
  have e_BadWord : Err K mg "BadWord" C_BadWord := ⟨PySem.W.mg_of X G xg_BadWord, xx_BadWord, xk_BadWord, xb_BadWord, xt_BadWord⟩
  have E_BadWord : ExcC K C_BadWord := ⟨xa_BadWord, xh_BadWord, xb_BadWord, xd_BadWord, xc_BadWord, gk1, gk2, xm_BadWord⟩
  have x_BadWord : PySem.W.exmOne K (.ref C_BadWord) (.ref C_GroupError) = some true := PySem.W.exm_ref xb_GroupError xd_GroupError xt_GroupError xs_BadWord
  have y_BadWord : PySem.W.kitOne K (.ref C_BadWord) (.ref C_BadWord) = some true := if_pos (beq_self_eq_true _)
  have e_BadChange : Err K mg "BadChange" C_BadChange := ⟨PySem.W.mg_of X G xg_BadChange, xx_BadChange, xk_BadChange, xb_BadChange, xt_BadChange⟩
  have E_BadChange : ExcC K C_BadChange := ⟨xa_BadChange, xh_BadChange, xb_BadChange, xd_BadChange, xc_BadChange, gk1, gk2, xm_BadChange⟩
  have x_BadChange : PySem.W.exmOne K (.ref C_BadChange) (.ref C_GroupError) = some true := PySem.W.exm_ref xb_GroupError xd_GroupError xt_GroupError xs_BadChange
  have y_BadChange : PySem.W.kitOne K (.ref C_BadChange) (.ref C_BadChange) = some true := if_pos (beq_self_eq_true _)
  have gG := PySem.W.mg_of X G xg_GroupError
  have F0 := fun_mk (st := s_is_number) l0 c0 k0
  have b0 := F0.binds (ps := P_is_number) fun _ _ _ _ _ _ us hl => match us, hl with | [_], _ => rfl
  have D0 : DefAt K mg "is_number" s_is_number P_is_number f0 _ := ⟨F0, PySem.W.mg_of X G a0, b0⟩
  have F1 := fun_mk (st := s_is_number_in) l1 c1 k1
  have b1 := F1.binds (ps := P_is_number_in) fun _ _ _ _ _ _ us hl => match us, hl with | [_, _, _], _ => rfl
  have D1 : DefAt K mg "is_number_in" s_is_number_in P_is_number_in f1 _ := ⟨F1, PySem.W.mg_of X G a1, b1⟩
  have F2 := fun_mk (st := s_is_list) l2 c2 k2
  have b2 := F2.binds (ps := P_is_list) fun _ _ _ _ _ _ us hl => match us, hl with | [_], _ => rfl
  have D2 : DefAt K mg "is_list" s_is_list P_is_list f2 _ := ⟨F2, PySem.W.mg_of X G a2, b2⟩
  have F3 := fun_mk (st := s_is_pair) l3 c3 k3
  have b3 := F3.binds (ps := P_is_pair) fun _ _ _ _ _ _ us hl => match us, hl with | [_], _ => rfl
  have D3 : DefAt K mg "is_pair" s_is_pair P_is_pair f3 _ := ⟨F3, PySem.W.mg_of X G a3, b3⟩
  have F4 := fun_mk (st := s_is_row) l4 c4 k4
  have b4 := F4.binds (ps := P_is_row) fun _ _ _ _ _ _ us hl => match us, hl with | [_, _], _ => rfl
  have D4 : DefAt K mg "is_row" s_is_row P_is_row f4 _ := ⟨F4, PySem.W.mg_of X G a4, b4⟩
  have F5 := fun_mk (st := s_is_short_row) l5 c5 k5
  have b5 := F5.binds (ps := P_is_short_row) fun _ _ _ _ _ _ us hl => match us, hl with | [_, _, _], _ => rfl
  have D5 : DefAt K mg "is_short_row" s_is_short_row P_is_short_row f5 _ := ⟨F5, PySem.W.mg_of X G a5, b5⟩
  have F6 := fun_mk (st := s_is_back) l6 c6 k6
  have b6 := F6.binds (ps := P_is_back) fun _ _ _ _ _ _ us hl => match us, hl with | [_], _ => rfl
  have D6 : DefAt K mg "is_back" s_is_back P_is_back f6 _ := ⟨F6, PySem.W.mg_of X G a6, b6⟩
  have F7 := fun_mk (st := s_want_letters) l7 c7 k7
  have b7 := F7.binds (ps := P_want_letters) fun _ _ _ _ _ _ us hl => match us, hl with | [_, _], _ => rfl
  have D7 : DefAt K mg "want_letters" s_want_letters P_want_letters f7 _ := ⟨F7, PySem.W.mg_of X G a7, b7⟩
  have F8 := fun_mk (st := s_turned_back) l8 c8 k8
  have b8 := F8.binds (ps := P_turned_back) fun _ _ _ _ _ _ us hl => match us, hl with | [_, _], _ => rfl
  have D8 : DefAt K mg "turned_back" s_turned_back P_turned_back f8 _ := ⟨F8, PySem.W.mg_of X G a8, b8⟩
  have F9 := fun_mk (st := s_is_rule) l9 c9 k9
  have b9 := F9.binds (ps := P_is_rule) fun _ _ _ _ _ _ us hl => match us, hl with | [_, _], _ => rfl
  have D9 : DefAt K mg "is_rule" s_is_rule P_is_rule f9 _ := ⟨F9, PySem.W.mg_of X G a9, b9⟩
  have F10 := fun_mk (st := s_are_rules) l10 c10 k10
  have b10 := F10.binds (ps := P_are_rules) fun _ _ _ _ _ _ us hl => match us, hl with | [_, _], _ => rfl
  have D10 : DefAt K mg "are_rules" s_are_rules P_are_rules f10 _ := ⟨F10, PySem.W.mg_of X G a10, b10⟩
  have F11 := fun_mk (st := s_want_group) l11 c11 k11
  have b11 := F11.binds (ps := P_want_group) fun _ _ _ _ _ _ us hl => match us, hl with | [_], _ => rfl
  have D11 : DefAt K mg "want_group" s_want_group P_want_group f11 _ := ⟨F11, PySem.W.mg_of X G a11, b11⟩
  have F12 := fun_mk (st := s_is_change) l12 c12 k12
  have b12 := F12.binds (ps := P_is_change) fun _ _ _ _ _ _ us hl => match us, hl with | [_], _ => rfl
  have D12 : DefAt K mg "is_change" s_is_change P_is_change f12 _ := ⟨F12, PySem.W.mg_of X G a12, b12⟩
  have F13 := fun_mk (st := s_with_rule) l13 c13 k13
  have b13 := F13.binds (ps := P_with_rule) fun _ _ _ _ _ _ us hl => match us, hl with | [_, _, _], _ => rfl
  have D13 : DefAt K mg "with_rule" s_with_rule P_with_rule f13 _ := ⟨F13, PySem.W.mg_of X G a13, b13⟩
  have F14 := fun_mk (st := s_without_rule) l14 c14 k14
  have b14 := F14.binds (ps := P_without_rule) fun _ _ _ _ _ _ us hl => match us, hl with | [_, _], _ => rfl
  have D14 : DefAt K mg "without_rule" s_without_rule P_without_rule f14 _ := ⟨F14, PySem.W.mg_of X G a14, b14⟩
  have F15 := fun_mk (st := s_with_letters) l15 c15 k15
  have b15 := F15.binds (ps := P_with_letters) fun _ _ _ _ _ _ us hl => match us, hl with | [_, _], _ => rfl
  have D15 : DefAt K mg "with_letters" s_with_letters P_with_letters f15 _ := ⟨F15, PySem.W.mg_of X G a15, b15⟩
  have F16 := fun_mk (st := s_place_of_meaning) l16 c16 k16
  have b16 := F16.binds (ps := P_place_of_meaning) fun _ _ _ _ _ _ us hl => match us, hl with | [_], _ => rfl
  have D16 : DefAt K mg "place_of_meaning" s_place_of_meaning P_place_of_meaning f16 _ := ⟨F16, PySem.W.mg_of X G a16, b16⟩
  have F17 := fun_mk (st := s_replaced) l17 c17 k17
  have b17 := F17.binds (ps := P_replaced) fun _ _ _ _ _ _ us hl => match us, hl with | [_, _, _], _ => rfl
  have D17 : DefAt K mg "replaced" s_replaced P_replaced f17 _ := ⟨F17, PySem.W.mg_of X G a17, b17⟩
  have F18 := fun_mk (st := s_meaning_of_last) l18 c18 k18
  have b18 := F18.binds (ps := P_meaning_of_last) fun _ _ _ _ _ _ us hl => match us, hl with | [_], _ => rfl
  have D18 : DefAt K mg "meaning_of_last" s_meaning_of_last P_meaning_of_last f18 _ := ⟨F18, PySem.W.mg_of X G a18, b18⟩
  have F19 := fun_mk (st := s_without_letters) l19 c19 k19
  have b19 := F19.binds (ps := P_without_letters) fun _ _ _ _ _ _ us hl => match us, hl with | [_], _ => rfl
  have D19 : DefAt K mg "without_letters" s_without_letters P_without_letters f19 _ := ⟨F19, PySem.W.mg_of X G a19, b19⟩
  have F20 := fun_mk (st := s_changed) l20 c20 k20
  have b20 := F20.binds (ps := P_changed) fun _ _ _ _ _ _ us hl => match us, hl with | [_, _], _ => rfl
  have D20 : DefAt K mg "changed" s_changed P_changed f20 _ := ⟨F20, PySem.W.mg_of X G a20, b20⟩
  have F21 := fun_mk (st := s_changed_word) l21 c21 k21
  have b21 := F21.binds (ps := P_changed_word) fun _ _ _ _ _ _ us hl => match us, hl with | [_, _, _], _ => rfl
  have D21 : DefAt K mg "changed_word" s_changed_word P_changed_word f21 _ := ⟨F21, PySem.W.mg_of X G a21, b21⟩
  have F22 := fun_mk (st := s_law_begun) l22 c22 k22
  have b22 := F22.binds (ps := P_law_begun) fun _ _ _ _ _ _ us hl => match us, hl with | [_], _ => rfl
  have D22 : DefAt K mg "_law_begun" s_law_begun P_law_begun f22 _ := ⟨F22, PySem.W.mg_of X G a22, b22⟩
  have F23 := fun_mk (st := s_law_mixed) l23 c23 k23
  have b23 := F23.binds (ps := P_law_mixed) fun _ _ _ _ _ _ us hl => match us, hl with | [_], _ => rfl
  have D23 : DefAt K mg "_law_mixed" s_law_mixed P_law_mixed f23 _ := ⟨F23, PySem.W.mg_of X G a23, b23⟩
  have F24 := fun_mk (st := s_law_take) l24 c24 k24
  have b24 := F24.binds (ps := P_law_take) fun _ _ _ _ _ _ us hl => match us, hl with | [_, _], _ => rfl
  have D24 : DefAt K mg "_law_take" s_law_take P_law_take f24 _ := ⟨F24, PySem.W.mg_of X G a24, b24⟩
  have F25 := fun_mk (st := s_law_pick) l25 c25 k25
  have b25 := F25.binds (ps := P_law_pick) fun _ _ _ _ _ _ us hl => match us, hl with | [_, _], _ => rfl
  have D25 : DefAt K mg "_law_pick" s_law_pick P_law_pick f25 _ := ⟨F25, PySem.W.mg_of X G a25, b25⟩
  have F26 := fun_mk (st := s_law_caught) l26 c26 k26
  have b26 := F26.binds (ps := P_law_caught) fun _ _ _ _ _ _ us hl => match us, hl with | [_], _ => rfl
  have D26 : DefAt K mg "_law_caught" s_law_caught P_law_caught f26 _ := ⟨F26, PySem.W.mg_of X G a26, b26⟩
  have F27 := fun_mk (st := s_law_word) l27 c27 k27
  have b27 := F27.binds (ps := P_law_word) fun _ _ _ _ _ _ us hl => match us, hl with | [_, _, _], _ => rfl
  have D27 : DefAt K mg "_law_word" s_law_word P_law_word f27 _ := ⟨F27, PySem.W.mg_of X G a27, b27⟩
  have F28 := fun_mk (st := s_law_undoing) l28 c28 k28
  have b28 := F28.binds (ps := P_law_undoing) fun _ _ _ _ _ _ us hl => match us, hl with | [_, _], _ => rfl
  have D28 : DefAt K mg "_law_undoing" s_law_undoing P_law_undoing f28 _ := ⟨F28, PySem.W.mg_of X G a28, b28⟩
  have F29 := fun_mk (st := s_law_small_moves) l29 c29 k29
  have b29 := F29.binds (ps := P_law_small_moves) fun _ _ _ _ _ _ us hl => match us, hl with | [_, _], _ => rfl
  have D29 : DefAt K mg "_law_small_moves" s_law_small_moves P_law_small_moves f29 _ := ⟨F29, PySem.W.mg_of X G a29, b29⟩
  have F30 := fun_mk (st := s_law_moved_point) l30 c30 k30
  have b30 := F30.binds (ps := P_law_moved_point) fun _ _ _ _ _ _ us hl => match us, hl with | [_, _, _], _ => rfl
  have D30 : DefAt K mg "_law_moved_point" s_law_moved_point P_law_moved_point f30 _ := ⟨F30, PySem.W.mg_of X G a30, b30⟩
  have F31 := fun_mk (st := s_law_alike_moves) l31 c31 k31
  have b31 := F31.binds (ps := P_law_alike_moves) fun _ _ _ _ _ _ us hl => match us, hl with | [_, _, _], _ => rfl
  have D31 : DefAt K mg "_law_alike_moves" s_law_alike_moves P_law_alike_moves f31 _ := ⟨F31, PySem.W.mg_of X G a31, b31⟩
  have F32 := fun_mk (st := s_law_keeps) l32 c32 k32
  have b32 := F32.binds (ps := P_law_keeps) fun _ _ _ _ _ _ us hl => match us, hl with | [_, _], _ => rfl
  have D32 : DefAt K mg "_law_keeps" s_law_keeps P_law_keeps f32 _ := ⟨F32, PySem.W.mg_of X G a32, b32⟩
  have F33 := fun_mk (st := s_law_spelled) l33 c33 k33
  have b33 := F33.binds (ps := P_law_spelled) fun _ _ _ _ _ _ us hl => match us, hl with | [_, _, _, _], _ => rfl
  have D33 : DefAt K mg "_law_spelled" s_law_spelled P_law_spelled f33 _ := ⟨F33, PySem.W.mg_of X G a33, b33⟩
  have F34 := fun_mk (st := s_law_letter_rule) l34 c34 k34
  have b34 := F34.binds (ps := P_law_letter_rule) fun _ _ _ _ _ _ us hl => match us, hl with | [_, _], _ => rfl
  have D34 : DefAt K mg "_law_letter_rule" s_law_letter_rule P_law_letter_rule f34 _ := ⟨F34, PySem.W.mg_of X G a34, b34⟩
  have F35 := fun_mk (st := s_law_changed) l35 c35 k35
  have b35 := F35.binds (ps := P_law_changed) fun _ _ _ _ _ _ us hl => match us, hl with | [_, _, _], _ => rfl
  have D35 : DefAt K mg "_law_changed" s_law_changed P_law_changed f35 _ := ⟨F35, PySem.W.mg_of X G a35, b35⟩
  have F36 := fun_mk (st := s_law_carried) l36 c36 k36
  have b36 := F36.binds (ps := P_law_carried) fun _ _ _ _ _ _ us hl => match us, hl with | [_, _, _, _], _ => rfl
  have D36 : DefAt K mg "_law_carried" s_law_carried P_law_carried f36 _ := ⟨F36, PySem.W.mg_of X G a36, b36⟩
  have F37 := fun_mk (st := s_law_some_group) l37 c37 k37
  have b37 := F37.binds (ps := P_law_some_group) fun _ _ _ _ _ _ us hl => match us, hl with | [_], _ => rfl
  have D37 : DefAt K mg "_law_some_group" s_law_some_group P_law_some_group f37 _ := ⟨F37, PySem.W.mg_of X G a37, b37⟩
  have F38 := fun_mk (st := s_law_some_change) l38 c38 k38
  have b38 := F38.binds (ps := P_law_some_change) fun _ _ _ _ _ _ us hl => match us, hl with | [_, _, _], _ => rfl
  have D38 : DefAt K mg "_law_some_change" s_law_some_change P_law_some_change f38 _ := ⟨F38, PySem.W.mg_of X G a38, b38⟩
  have F39 := fun_mk (st := s_law_change_right) l39 c39 k39
  have b39 := F39.binds (ps := P_law_change_right) fun _ _ _ _ _ _ us hl => match us, hl with | [_, _, _, _], _ => rfl
  have FC39 := funC_mk (st := s_law_change_right) l39 c39 k39
  have DC39 : DefC K mg "_law_change_right" s_law_change_right P_law_change_right f39 _ cL39 := ⟨FC39, PySem.W.mg_of X G a39, b39⟩
  have F40 := fun_mk (st := s_law_kept_lists) l40 c40 k40
  have b40 := F40.binds (ps := P_law_kept_lists) fun _ _ _ _ _ _ us hl => match us, hl with | [_, _], _ => rfl
  have D40 : DefAt K mg "_law_kept_lists" s_law_kept_lists P_law_kept_lists f40 _ := ⟨F40, PySem.W.mg_of X G a40, b40⟩
  have F41 := fun_mk (st := s_law_full_group) l41 c41 k41
  have b41 := F41.binds (ps := P_law_full_group) fun _ _ _ _ _ _ us hl => match us, hl with | [_], _ => rfl
  have D41 : DefAt K mg "_law_full_group" s_law_full_group P_law_full_group f41 _ := ⟨F41, PySem.W.mg_of X G a41, b41⟩
  have F42 := fun_mk (st := s_law) l42 c42 k42
  have b42 := F42.binds (ps := P_law) fun _ _ _ _ _ _ us hl => match us, hl with | [_], _ => rfl
  have cl_Group : Cls K C_Group := ⟨op_Group, od_Group, oo_Group, os_Group⟩
  have OC_Group : OwnC K C_Group := ⟨cl_Group, oi_Group, ot_Group, oc_Group, gk1, gk2, ob_Group, ouNoneType_Group, oubool_Group, ouint_Group, oustr_Group, oulist_Group, outuple_Group, oudict_Group⟩
  have O_Group : OwnE K C_Group g_Groupeq := ⟨ma_Groupeq, on_Group, ob_Group, mi_Groupeq⟩
  have M_Group : Mk K C_Group g_Groupinit := ⟨om_Group, ma_Groupinit, mi_Groupinit, ok_Group⟩
  have g_Group := PySem.W.mg_of X G og_Group
  have F_Groupinit := fun_mk (st := s_Groupinit) ml_Groupinit mc_Groupinit mk_Groupinit
  have b_Groupinit := F_Groupinit.binds (ps := P_Groupinit) fun _ _ _ _ _ _ us hl => match us, hl with | [_, _, _], _ => rfl
  have F_Groupeq := fun_mk (st := s_Groupeq) ml_Groupeq mc_Groupeq mk_Groupeq
  have b_Groupeq := F_Groupeq.binds (ps := P_Groupeq) fun _ _ _ _ _ _ us hl => match us, hl with | [_, _], _ => rfl
  have qsm : ∀ q ∈ ([(cL, Pt), (cL39, Pt39)] : List (Addr × Addr)), q.2 ∈ ts := fun q hq => by
    simp only [List.mem_cons, List.not_mem_nil, or_false] at hq
    rcases hq with rfl | rfl
    · exact mt0
    · exact mt039
  have qsc : ∀ q ∈ ([(cL, Pt), (cL39, Pt39)] : List (Addr × Addr)), PySem.W.codeHdIn K q.1 q.2 = true ∧ K.lookup q.2 = none := fun q hq => by
    simp only [List.mem_cons, List.not_mem_nil, or_false] at hq
    rcases hq with rfl | rfl
    · exact ⟨ch0, np0⟩
    · exact ⟨ch039, np039⟩
  refine ⟨cL, [(cL, Pt), (cL39, Pt39)], qsm, ⟨sc_law, ⟨_, _, _, _, _, _, _, _, l42, b42⟩, c42, qsc, fun base hK hNs TBs s H a ns hr hS h63 hPs => ?_⟩⟩
  have TB := TBs (cL, Pt) (by simp)
  have hP := hPs (cL, Pt) (by simp)
  have TB39 := TBs (cL39, Pt39) (by simp)
  have hP39 := hPs (cL39, Pt39) (by simp)
  have h_is_number := ok_is_number (P := l.prog) (w := w) (base := base) D0 T
  have h_is_number_in := ok_is_number_in (P := l.prog) (w := w) (base := base) D1 T h_is_number
  have h_is_list := ok_is_list (P := l.prog) (w := w) (base := base) D2 T
  have h_is_pair := ok_is_pair (P := l.prog) (w := w) (base := base) D3 T
  have h_is_row := ok_is_row (P := l.prog) (w := w) (base := base) D4 T h_is_number_in
  have h_is_short_row := ok_is_short_row (P := l.prog) (w := w) (base := base) D5 T h_is_row
  have h_is_back := ok_is_back (P := l.prog) (w := w) (base := base) D6 T c_MOST_BACK h_is_row
  have h_is_rule := ok_is_rule (P := l.prog) (w := w) (base := base) D9 T c_MOST_SIDE h_is_pair h_is_short_row
  have h_are_rules := ok_are_rules (P := l.prog) (w := w) (base := base) D10 T c_MOST_RULES h_is_list h_is_rule
  have h_turned_back := ok_turned_back (P := l.prog) (w := w) (base := base) D8 T
  have h__law_begun := ok_law_begun (P := l.prog) (w := w) (base := base) D22 T
  have h__law_mixed := ok_law_mixed (P := l.prog) (w := w) (base := base) D23 T
  have h__law_take := ok_law_take (P := l.prog) (w := w) (base := base) D24 T h__law_mixed
  have h__law_undoing := ok_law_undoing (P := l.prog) (w := w) (base := base) D28 T
  have h__law_small_moves := ok_law_small_moves (P := l.prog) (w := w) (base := base) D29 T
  have h__law_moved_point := ok_law_moved_point (P := l.prog) (w := w) (base := base) D30 T
  have h__law_alike_moves := ok_law_alike_moves (P := l.prog) (w := w) (base := base) D31 T h__law_moved_point
  have h__law_keeps := ok_law_keeps (P := l.prog) (w := w) (base := base) D32 T h__law_alike_moves
  have h__law_spelled := ok_law_spelled (P := l.prog) (w := w) (base := base) D33 T
  have h__law_letter_rule := ok_law_letter_rule (P := l.prog) (w := w) (base := base) D34 T
  have h__law_changed := ok_law_changed (P := l.prog) (w := w) (base := base) D35 T h__law_letter_rule h__law_undoing h__law_spelled
  have h__law_carried := ok_law_carried (P := l.prog) (w := w) (base := base) D36 T h__law_letter_rule h__law_undoing h__law_spelled
  have h__law_kept_lists := ok_law_kept_lists (P := l.prog) (w := w) (base := base) D40 T h__law_small_moves h__law_keeps
  have D_caught := D26
  have h_Group : MkX l.prog w K mg base "Group" P_Groupinit ["rules", "back"] 7 C_Group (spGI K C_Group C_BadGroup) gR gR := ⟨_, _, g_Group, M_Group, b_Groupinit, ⟨fun s us ws _ l1 l2 => match us, ws, l1, l2 with | [_], [_, _], _, _ => .of_eq rfl, fun r r' => gR_rel r r'⟩, ok_Groupinit (P := l.prog) (w := w) (base := base) F_Groupinit T t_BadGroup cl_Group ofback_Group ofrules_Group h_is_back h_are_rules⟩
  have F_Geq := ok_Groupeq (P := l.prog) (w := w) (base := base) F_Groupeq T g_Group OC_Group ofback_Group ofrules_Group
  have h_is_change := okF_is_change (P := l.prog) (w := w) (base := base) D12 T c_MOST_BACK c_MOST_SIDE c_MOST_RULES h_is_short_row h_is_number_in
  have h_want_group := okw_want_group (P := l.prog) (w := w) (base := base) D11 T t_BadGroup g_Group OC_Group
  have h_want_groupB := ok_want_group (P := l.prog) (w := w) (base := base) D11 T t_BadGroup g_Group OC_Group
  have h_want_letters := ok_want_letters (P := l.prog) (w := w) (base := base) D7 T e_BadWord h_is_row
  have h_replaced := ok_replaced (P := l.prog) (w := w) (base := base) D17 T h_turned_back
  have h_place := ok_place_of_meaning (P := l.prog) (w := w) (base := base) D16 T t_NotLet OC_Group ofback_Group ofrules_Group h_is_row
  have h_last := ok_meaning_of_last (P := l.prog) (w := w) (base := base) D18 T t_NotLet OC_Group ofback_Group ofrules_Group h_place
  have h_wr := ok_with_rule (P := l.prog) (w := w) (base := base) D13 T t_NotLet c_MOST_RULES OC_Group ofback_Group ofrules_Group h_Group h_is_row
  have h_wor := ok_without_rule (P := l.prog) (w := w) (base := base) D14 T t_NotLet OC_Group ofback_Group ofrules_Group h_Group
  have h_wl := ok_with_letters (P := l.prog) (w := w) (base := base) D15 T t_NotLet c_MOST_RULES c_MOST_BACK OC_Group ofback_Group ofrules_Group h_Group h_is_row
  have h_wol := ok_without_letters (P := l.prog) (w := w) (base := base) D19 T t_NotLet c_MOST_SIDE OC_Group ofback_Group ofrules_Group h_Group h_last h_replaced
  have h_changed := ok_changed (P := l.prog) (w := w) (base := base) D20 T e_BadChange h_want_group h_is_change.ok h_wr h_wor h_wl h_wol
  have h_changed_word := ok_changed_word (P := l.prog) (w := w) (base := base) (CN := C_NotLet) (CX := C_BadChange) D21 T OC_Group ofback_Group h_changed h_want_letters h_last h_replaced
  have h_changed_bad := ok_changed_bad (P := l.prog) (w := w) (base := base) D20 T e_BadChange h_want_groupB h_is_change.ok h_wr h_wor h_wl h_wol
  have h_changed_word_bad := ok_changed_word_bad (P := l.prog) (w := w) (base := base) D21 T h_changed_bad h_want_letters h_last h_replaced
  have h__law_pickG := ok_law_pickG (P := l.prog) (w := w) (base := base) D25 T h__law_take
  have h__law_wordG := ok_law_wordG (P := l.prog) (w := w) (base := base) D27 T h__law_take
  have h__law_some_group := ok_law_some_group (P := l.prog) (w := w) (base := base) D37 T h__law_take h__law_pickG h__law_wordG
  have h__law_full_group := ok_law_full_group (P := l.prog) (w := w) (base := base) D41 T h__law_take h__law_pickG h__law_wordG
  have h__law_some_change := ok_law_some_change (P := l.prog) (w := w) (base := base) D38 T h__law_take h__law_wordG
  have h_cr := ok_law_change_right (P := l.prog) (w := w) (base := base) DC39 T TB39 pn039 t_NotLet e_BadWord gG E_NotLet E_BadWord x_NotLet x_BadWord y_NotLet y_BadWord OC_Group O_Group F_Geq b_Groupeq h_Group h_changed h_changed_word h__law_changed h__law_carried D_caught
  exact ok_law T t_BadGroup e_BadChange gG E_BadGroup E_BadChange x_BadGroup x_BadChange y_BadGroup y_BadChange OC_Group O_Group F_Geq b_Groupeq h_Group h_is_change h_changed h_changed_bad h_changed_word_bad h__law_begun h__law_take h__law_wordG h__law_some_group h__law_full_group h__law_some_change h__law_changed h__law_kept_lists D_caught h_cr TB pn039 hr hS h63 hP hP39
end Gw

open PySem PySem.W PyProof.Rows in
set_option maxRecDepth 100000 in
set_option maxHeartbeats 0 in
theorem PySem.Challenge.cw_gatewords_k61_whole_changes_of_groups_holds : PySem.Challenge.rw_gatewords_k61_whole_changes_of_groups.Holds := by
  w_on; o_law; k_head; (case hw => w_witness2)
  k_fill
  refine Gw.walk_atL (l := PySem.Challenge.rw_gatewords_k61_whole_changes_of_groups) (st := Gw.s_law) (N := Gw.N_law) (k := 16) (ts := _) rfl rfl ⟨rfl, by decide, by decide⟩ (fun w h Y => ⟨PySem.W.km_in_of Y, fun P hP => PySem.W.km_tabs_of Y P hP⟩) ?F
  case F =>
    intro w mg fa h KX G hmg
    refine' Gw.all_mk KX G hmg ?a0 ?l0 ?c0 ?k0 ?a1 ?l1 ?c1 ?k1 ?a2 ?l2 ?c2 ?k2 ?a3 ?l3 ?c3 ?k3 ?a4 ?l4 ?c4 ?k4 ?a5 ?l5 ?c5 ?k5 ?a6 ?l6 ?c6 ?k6 ?a7 ?l7 ?c7 ?k7 ?a8 ?l8 ?c8 ?k8 ?a9 ?l9 ?c9 ?k9 ?a10 ?l10 ?c10 ?k10 ?a11 ?l11 ?c11 ?k11 ?a12 ?l12 ?c12 ?k12 ?a13 ?l13 ?c13 ?k13 ?a14 ?l14 ?c14 ?k14 ?a15 ?l15 ?c15 ?k15 ?a16 ?l16 ?c16 ?k16 ?a17 ?l17 ?c17 ?k17 ?a18 ?l18 ?c18 ?k18 ?a19 ?l19 ?c19 ?k19 ?a20 ?l20 ?c20 ?k20 ?a21 ?l21 ?c21 ?k21 ?a22 ?l22 ?c22 ?k22 ?a23 ?l23 ?c23 ?k23 ?a24 ?l24 ?c24 ?k24 ?a25 ?l25 ?c25 ?k25 ?a26 ?l26 ?c26 ?k26 ?a27 ?l27 ?c27 ?k27 ?a28 ?l28 ?c28 ?k28 ?a29 ?l29 ?c29 ?k29 ?a30 ?l30 ?c30 ?k30 ?a31 ?l31 ?c31 ?k31 ?a32 ?l32 ?c32 ?k32 ?a33 ?l33 ?c33 ?k33 ?a34 ?l34 ?c34 ?k34 ?a35 ?l35 ?c35 ?k35 ?a36 ?l36 ?c36 ?k36 ?a37 ?l37 ?c37 ?k37 ?a38 ?l38 ?c38 ?k38 ?a39 ?l39 ?c39 ?k39 ?lc039 ?lt039 ?ch039 ?np039 ?mt039 ?a40 ?l40 ?c40 ?k40 ?a41 ?l41 ?c41 ?k41 ?a42 ?l42 ?c42 ?k42 ?lc0 ?lt0 ?ch0 ?np0 ?mt0 ?pn039 ?g_MOST_BACK ?g_MOST_RULES ?g_MOST_SIDE ?z_len ?z_int ?z_bool ?z_str ?z_list ?z_tuple ?z_dict ?z_isinstance ?z_all ?z_any ?z_abs ?z_min ?z_max ?z_range ?z_enumerate ?z_repr ?z_sorted ?z_super ?z_op ?h_top ?xg_GroupError ?xb_GroupError ?xt_GroupError ?xd_GroupError ?xg_BadGroup ?xb_BadGroup ?xt_BadGroup ?xd_BadGroup ?xx_BadGroup ?xk_BadGroup ?xsa_BadGroup ?xa_BadGroup ?xh_BadGroup ?xn_BadGroup ?xi_BadGroup ?xf_BadGroup ?xv_BadGroup ?xo_BadGroup ?xw_BadGroup ?xc_BadGroup ?xm_BadGroup ?xs_BadGroup ?xl_BadGroup ?xq_BadGroup ?xcd_BadGroup ?xfl_BadGroup ?xfe_BadGroup ?xcc_BadGroup ?xg_NotLet ?xb_NotLet ?xt_NotLet ?xd_NotLet ?xx_NotLet ?xk_NotLet ?xsa_NotLet ?xa_NotLet ?xh_NotLet ?xn_NotLet ?xi_NotLet ?xf_NotLet ?xv_NotLet ?xo_NotLet ?xw_NotLet ?xc_NotLet ?xm_NotLet ?xs_NotLet ?xl_NotLet ?xq_NotLet ?xcd_NotLet ?xfl_NotLet ?xfe_NotLet ?xcc_NotLet ?xg_BadWord ?xb_BadWord ?xt_BadWord ?xd_BadWord ?xx_BadWord ?xk_BadWord ?xa_BadWord ?xh_BadWord ?xc_BadWord ?xm_BadWord ?xs_BadWord ?xg_BadChange ?xb_BadChange ?xt_BadChange ?xd_BadChange ?xx_BadChange ?xk_BadChange ?xa_BadChange ?xh_BadChange ?xc_BadChange ?xm_BadChange ?xs_BadChange ?gk1 ?gk2 ?og_Group ?op_Group ?od_Group ?oo_Group ?os_Group ?om_Group ?ok_Group ?oi_Group ?ot_Group ?oc_Group ?ob_Group ?on_Group ?ouNoneType_Group ?oubool_Group ?ouint_Group ?oustr_Group ?oulist_Group ?outuple_Group ?oudict_Group ?ofback_Group ?ofrules_Group ?ma_Groupinit ?mi_Groupinit ?ml_Groupinit ?mc_Groupinit ?mk_Groupinit ?ma_Groupeq ?mi_Groupeq ?ml_Groupeq ?mc_Groupeq ?mk_Groupeq
    (case a0 => k_is)
    (case l0 => k_is)
    (case c0 => k_is)
    (case k0 => k_is)
    (case a1 => k_is)
    (case l1 => k_is)
    (case c1 => k_is)
    (case k1 => k_is)
    (case a2 => k_is)
    (case l2 => k_is)
    (case c2 => k_is)
    (case k2 => k_is)
    (case a3 => k_is)
    (case l3 => k_is)
    (case c3 => k_is)
    (case k3 => k_is)
    (case a4 => k_is)
    (case l4 => k_is)
    (case c4 => k_is)
    (case k4 => k_is)
    (case a5 => k_is)
    (case l5 => k_is)
    (case c5 => k_is)
    (case k5 => k_is)
    (case a6 => k_is)
    (case l6 => k_is)
    (case c6 => k_is)
    (case k6 => k_is)
    (case a7 => k_is)
    (case l7 => k_is)
    (case c7 => k_is)
    (case k7 => k_is)
    (case a8 => k_is)
    (case l8 => k_is)
    (case c8 => k_is)
    (case k8 => k_is)
    (case a9 => k_is)
    (case l9 => k_is)
    (case c9 => k_is)
    (case k9 => k_is)
    (case a10 => k_is)
    (case l10 => k_is)
    (case c10 => k_is)
    (case k10 => k_is)
    (case a11 => k_is)
    (case l11 => k_is)
    (case c11 => k_is)
    (case k11 => k_is)
    (case a12 => k_is)
    (case l12 => k_is)
    (case c12 => k_is)
    (case k12 => k_is)
    (case a13 => k_is)
    (case l13 => k_is)
    (case c13 => k_is)
    (case k13 => k_is)
    (case a14 => k_is)
    (case l14 => k_is)
    (case c14 => k_is)
    (case k14 => k_is)
    (case a15 => k_is)
    (case l15 => k_is)
    (case c15 => k_is)
    (case k15 => k_is)
    (case a16 => k_is)
    (case l16 => k_is)
    (case c16 => k_is)
    (case k16 => k_is)
    (case a17 => k_is)
    (case l17 => k_is)
    (case c17 => k_is)
    (case k17 => k_is)
    (case a18 => k_is)
    (case l18 => k_is)
    (case c18 => k_is)
    (case k18 => k_is)
    (case a19 => k_is)
    (case l19 => k_is)
    (case c19 => k_is)
    (case k19 => k_is)
    (case a20 => k_is)
    (case l20 => k_is)
    (case c20 => k_is)
    (case k20 => k_is)
    (case a21 => k_is)
    (case l21 => k_is)
    (case c21 => k_is)
    (case k21 => k_is)
    (case a22 => k_is)
    (case l22 => k_is)
    (case c22 => k_is)
    (case k22 => k_is)
    (case a23 => k_is)
    (case l23 => k_is)
    (case c23 => k_is)
    (case k23 => k_is)
    (case a24 => k_is)
    (case l24 => k_is)
    (case c24 => k_is)
    (case k24 => k_is)
    (case a25 => k_is)
    (case l25 => k_is)
    (case c25 => k_is)
    (case k25 => k_is)
    (case a26 => k_is)
    (case l26 => k_is)
    (case c26 => k_is)
    (case k26 => k_is)
    (case a27 => k_is)
    (case l27 => k_is)
    (case c27 => k_is)
    (case k27 => k_is)
    (case a28 => k_is)
    (case l28 => k_is)
    (case c28 => k_is)
    (case k28 => k_is)
    (case a29 => k_is)
    (case l29 => k_is)
    (case c29 => k_is)
    (case k29 => k_is)
    (case a30 => k_is)
    (case l30 => k_is)
    (case c30 => k_is)
    (case k30 => k_is)
    (case a31 => k_is)
    (case l31 => k_is)
    (case c31 => k_is)
    (case k31 => k_is)
    (case a32 => k_is)
    (case l32 => k_is)
    (case c32 => k_is)
    (case k32 => k_is)
    (case a33 => k_is)
    (case l33 => k_is)
    (case c33 => k_is)
    (case k33 => k_is)
    (case a34 => k_is)
    (case l34 => k_is)
    (case c34 => k_is)
    (case k34 => k_is)
    (case a35 => k_is)
    (case l35 => k_is)
    (case c35 => k_is)
    (case k35 => k_is)
    (case a36 => k_is)
    (case l36 => k_is)
    (case c36 => k_is)
    (case k36 => k_is)
    (case a37 => k_is)
    (case l37 => k_is)
    (case c37 => k_is)
    (case k37 => k_is)
    (case a38 => k_is)
    (case l38 => k_is)
    (case c38 => k_is)
    (case k38 => k_is)
    (case a39 => k_is)
    (case l39 => k_is)
    (case c39 => k_is)
    (case k39 => k_is)
    (case lc039 => k_is)
    (case lt039 => first | rfl | k_is)
    (case ch039 => rfl)
    (case np039 => first | rfl | k_is)
    (case mt039 => first | exact List.mem_singleton_self _ | decide | simp)
    (case a40 => k_is)
    (case l40 => k_is)
    (case c40 => k_is)
    (case k40 => k_is)
    (case a41 => k_is)
    (case l41 => k_is)
    (case c41 => k_is)
    (case k41 => k_is)
    (case a42 => k_is)
    (case l42 => k_is)
    (case c42 => k_is)
    (case k42 => k_is)
    (case lc0 => k_is)
    (case lt0 => first | rfl | k_is)
    (case ch0 => rfl)
    (case np0 => first | rfl | k_is)
    (case mt0 => first | exact List.mem_singleton_self _ | decide | simp)
    (case pn039 => first | decide | simp)
    (case g_MOST_BACK => k_is)
    (case g_MOST_RULES => k_is)
    (case g_MOST_SIDE => k_is)
    (case z_len => k_is)
    (case z_int => k_is)
    (case z_bool => k_is)
    (case z_str => k_is)
    (case z_list => k_is)
    (case z_tuple => k_is)
    (case z_dict => k_is)
    (case z_isinstance => k_is)
    (case z_all => k_is)
    (case z_any => k_is)
    (case z_abs => k_is)
    (case z_min => k_is)
    (case z_max => k_is)
    (case z_range => k_is)
    (case z_enumerate => k_is)
    (case z_repr => k_is)
    (case z_sorted => k_is)
    (case z_super => k_is)
    (case z_op => k_is)
    (case h_top => first | rfl | decide +kernel)
    (case xg_GroupError => k_is)
    (case xb_GroupError => k_is)
    (case xt_GroupError => k_is)
    (case xd_GroupError => k_is)
    (case xg_BadGroup => k_is)
    (case xb_BadGroup => k_is)
    (case xt_BadGroup => k_is)
    (case xd_BadGroup => k_is)
    (case xx_BadGroup => k_is)
    (case xk_BadGroup => k_is)
    (case xsa_BadGroup => k_is)
    (case xa_BadGroup => k_is)
    (case xh_BadGroup => k_is)
    (case xn_BadGroup => k_is)
    (case xi_BadGroup => k_is)
    (case xf_BadGroup => k_is)
    (case xv_BadGroup => k_is)
    (case xo_BadGroup => k_is)
    (case xw_BadGroup => ks_is)
    (case xc_BadGroup => k_is)
    (case xm_BadGroup => k_is)
    (case xs_BadGroup => k_is)
    (case xl_BadGroup => k_is)
    (case xq_BadGroup => k_is)
    (case xcd_BadGroup => k_is)
    (case xfl_BadGroup => first | rfl | k_is)
    (case xfe_BadGroup => first | rfl | decide +kernel)
    (case xcc_BadGroup => k_is)
    (case xg_NotLet => k_is)
    (case xb_NotLet => k_is)
    (case xt_NotLet => k_is)
    (case xd_NotLet => k_is)
    (case xx_NotLet => k_is)
    (case xk_NotLet => k_is)
    (case xsa_NotLet => k_is)
    (case xa_NotLet => k_is)
    (case xh_NotLet => k_is)
    (case xn_NotLet => k_is)
    (case xi_NotLet => k_is)
    (case xf_NotLet => k_is)
    (case xv_NotLet => k_is)
    (case xo_NotLet => k_is)
    (case xw_NotLet => ks_is)
    (case xc_NotLet => k_is)
    (case xm_NotLet => k_is)
    (case xs_NotLet => k_is)
    (case xl_NotLet => k_is)
    (case xq_NotLet => k_is)
    (case xcd_NotLet => k_is)
    (case xfl_NotLet => first | rfl | k_is)
    (case xfe_NotLet => first | rfl | decide +kernel)
    (case xcc_NotLet => k_is)
    (case xg_BadWord => k_is)
    (case xb_BadWord => k_is)
    (case xt_BadWord => k_is)
    (case xd_BadWord => k_is)
    (case xx_BadWord => k_exc)
    (case xk_BadWord => k_is)
    (case xa_BadWord => k_is)
    (case xh_BadWord => k_is)
    (case xc_BadWord => k_is)
    (case xm_BadWord => k_is)
    (case xs_BadWord => k_is)
    (case xg_BadChange => k_is)
    (case xb_BadChange => k_is)
    (case xt_BadChange => k_is)
    (case xd_BadChange => k_is)
    (case xx_BadChange => k_exc)
    (case xk_BadChange => k_is)
    (case xa_BadChange => k_is)
    (case xh_BadChange => k_is)
    (case xc_BadChange => k_is)
    (case xm_BadChange => k_is)
    (case xs_BadChange => k_is)
    (case gk1 => k_is)
    (case gk2 => k_is)
    (case og_Group => k_is)
    (case op_Group => k_is)
    (case od_Group => k_is)
    (case oo_Group => k_is)
    (case os_Group => k_is)
    (case om_Group => k_is)
    (case ok_Group => k_is)
    (case oi_Group => k_is)
    (case ot_Group => k_is)
    (case oc_Group => k_is)
    (case ob_Group => k_is)
    (case on_Group => k_is)
    (case ouNoneType_Group => k_is)
    (case oubool_Group => k_is)
    (case ouint_Group => k_is)
    (case oustr_Group => k_is)
    (case oulist_Group => k_is)
    (case outuple_Group => k_is)
    (case oudict_Group => k_is)
    (case ofback_Group => k_is)
    (case ofrules_Group => k_is)
    (case ma_Groupinit => k_is)
    (case mi_Groupinit => k_is)
    (case ml_Groupinit => k_is)
    (case mc_Groupinit => k_is)
    (case mk_Groupinit => k_is)
    (case ma_Groupeq => k_is)
    (case mi_Groupeq => k_is)
    (case ml_Groupeq => k_is)
    (case mc_Groupeq => k_is)
    (case mk_Groupeq => k_is)
