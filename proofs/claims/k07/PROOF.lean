import PyProof.Rows.All
import Wide.All
import OpenK.AllK
import Wide.FinOn
import PySem.Challenge.RW_gatewords_k07_whole_rows_and_pair_rows
import HandS.ForMost
import HandS.TupAny
import HandS.IsInst
import HandS.Conv
import PyProof.ReprReads
import HandS.Walk
import KE.GoesMore
import PyProof.EnumMake
import HandS.Style
import KE.KRevSl
import HandS.Lambda
import PyProof.ReprBulk
import PyProof.ReprRoads
import HandS.SortKw
import HandS.ExcOwn
import KE.DataMinKey
import KE.SortData
import HandS.Exc
import HandS.ExcValue
import HandS.WordsExc
import HandS.CallLocal
import HandS.ExcIs
import HandS.TupMul
import KE.KExcSuper
import KE.KExcIs
import HandS.ExcInit
import PyProof.InstEq
import HandS.EndOwn
import HandS.NestedK
import PyProof.Rows.ReprOcc
import HandS.DictComp
import PyProof.P3Eq
set_option Elab.async false
set_option linter.all false
set_option maxRecDepth 100000
set_option maxHeartbeats 4000000
namespace Gw
open PySem PySem.Spec PyProof.Rows L2

/-! ### views: G is the part of the heap that never changes -/
structure Nx (G H G' H' : Hp) : Prop where
  gg : Same G G'
  gh : Same G' H'
  hh : Same H H'
  fr : ∀ a, H a ≠ none → G' a = G a
theorem ne_none {H : Hp} {a : Addr} {o : HO} (h : H a = some o) : H a ≠ none := by rw [h]; exact fun z => nomatch z
theorem same_none {H H' : Hp} (e : Same H H') {a : Addr} (h : H a ≠ none) : H' a ≠ none := by
  cases q : H a with
  | none => exact absurd q h
  | some o => exact ne_none (e a o q)
theorem Nx.refl {G H : Hp} (h : Same G H) : Nx G H G H := ⟨Same.refl G, h, Same.refl H, fun _ _ => rfl⟩
theorem Nx.trans {G H G1 H1 G2 H2 : Hp} (a : Nx G H G1 H1) (b : Nx G1 H1 G2 H2) : Nx G H G2 H2 :=
  ⟨a.gg.trans b.gg, b.gh, a.hh.trans b.hh, fun x h => (b.fr x (same_none a.hh h)).trans (a.fr x h)⟩
theorem Nx.new {G H : Hp} {p : Addr} {o : HO} (h : Same G H) (hp : H p = none) : Nx G H (upd G p o) (upd H p o) := by
  have gp : G p = none := h.free hp
  refine ⟨fun b u e => ?_, fun b u e => ?_, fun b u e => ?_, fun b hb => ?_⟩
  · rw [upd_ne (ne_of_none e gp)]; exact e
  · by_cases hb : b = p
    · subst hb; rw [upd_same] at e ⊢; exact e
    · rw [upd_ne hb] at e ⊢; exact h b u e
  · rw [upd_ne (ne_of_none e hp)]; exact e
  · by_cases hq : b = p
    · subst hq; exact absurd hp hb
    · rw [upd_ne hq]
/-- a new object that is not told to the view -/
theorem Nx.lay {G H : Hp} {p : Addr} {o : HO} (h : Same G H) (hp : H p = none) : Nx G H G (upd H p o) :=
  ⟨Same.refl G, fun b u e => by rw [upd_ne (ne_of_none (h b u e) hp)]; exact h b u e, fun b u e => by rw [upd_ne (ne_of_none e hp)]; exact e, fun _ _ => rfl⟩
theorem same_tup {K : PySem.W.Frag} {H H' : Hp} {a : Addr} {xs : List V} (e : Same H H') (h : SqT K H a xs) : SqT K H' a xs := by
  rcases h with (h | ⟨o, h⟩) | h
  · exact .inl (.inl (e _ _ h))
  · exact .inl (.inr ⟨o, e _ _ h⟩)
  · exact .inr h

/-! ### data in a view -/
mutual
theorem dp_mono {K : PySem.W.Frag} {H H' : Hp} (e : Same H H') : ∀ (d : PyData) {v : V}, Dp K H v d → Dp K H' v d
  | .none, _, .non => .non
  | .bool b, _, .bl _ => .bl b
  | .int i, _, .int _ => .int i
  | .str x, _, .str _ => .str x
  | .list ds, _, .lst hs ha => .lst (e.seq hs) (dpa_mono e ds ha)
  | .tuple ds, _, .tup hs ha => .tup (same_tup e hs) (dpa_mono e ds ha)
theorem dpa_mono {K : PySem.W.Frag} {H H' : Hp} (e : Same H H') : ∀ (ds : List PyData) {vs : List V}, DpAll K H vs ds → DpAll K H' vs ds
  | [], _, .nil => .nil
  | d :: ds, _, .cons h t => .cons (dp_mono e d h) (dpa_mono e ds t)
end
theorem dpa_length {K : PySem.W.Frag} {H : Hp} : ∀ {vs : List V} {ds : List PyData}, DpAll K H vs ds → vs.length = ds.length
  | _, _, .nil => rfl
  | _, _, .cons _ t => by rw [List.length_cons, List.length_cons, dpa_length t]
theorem dpa_get {K : PySem.W.Frag} {H : Hp} : ∀ {vs : List V} {ds : List PyData} {i : Nat} {v : V}, DpAll K H vs ds → vs[i]? = some v → ∃ d, ds[i]? = some d ∧ Dp K H v d
  | _, _, _, _, .nil, e => by simp at e
  | _, _, 0, _, .cons r _, e => by simp at e; subst e; exact ⟨_, rfl, r⟩
  | _, _, i + 1, _, .cons _ t, e => by
    obtain ⟨u, h1, h2⟩ := dpa_get (i := i) t (by simpa using e)
    exact ⟨u, by simpa using h1, h2⟩
theorem dpa_at {K : PySem.W.Frag} {H : Hp} : ∀ {vs : List V} {ds : List PyData} {i : Nat} {d : PyData}, DpAll K H vs ds → ds[i]? = some d → ∃ v, vs[i]? = some v ∧ Dp K H v d
  | _, _, _, _, .nil, e => by simp at e
  | _, _, 0, _, .cons r _, e => by simp at e; subst e; exact ⟨_, rfl, r⟩
  | _, _, i + 1, _, .cons _ t, e => by
    obtain ⟨u, h1, h2⟩ := dpa_at (i := i) t (by simpa using e)
    exact ⟨u, by simpa using h1, h2⟩
theorem dpa_append {K : PySem.W.Frag} {H : Hp} : ∀ {vs ws : List V} {ds es : List PyData}, DpAll K H vs ds → DpAll K H ws es → DpAll K H (vs ++ ws) (ds ++ es)
  | _, _, _, _, .nil, h => h
  | _, _, _, _, .cons r t, h => .cons r (dpa_append t h)
theorem dpa_take {K : PySem.W.Frag} {H : Hp} : ∀ {vs : List V} {ds : List PyData} (n : Nat), DpAll K H vs ds → DpAll K H (vs.take n) (ds.take n)
  | _, _, 0, _ => .nil
  | _, _, _ + 1, .nil => .nil
  | _, _, n + 1, .cons r t => .cons r (dpa_take n t)
theorem dpa_drop {K : PySem.W.Frag} {H : Hp} : ∀ {vs : List V} {ds : List PyData} (n : Nat), DpAll K H vs ds → DpAll K H (vs.drop n) (ds.drop n)
  | _, _, 0, r => r
  | _, _, _ + 1, .nil => .nil
  | _, _, n + 1, .cons _ t => dpa_drop n t
theorem dpa_reverse {K : PySem.W.Frag} {H : Hp} : ∀ {vs : List V} {ds : List PyData}, DpAll K H vs ds → DpAll K H vs.reverse ds.reverse
  | _, _, .nil => .nil
  | _, _, .cons r t => by rw [List.reverse_cons, List.reverse_cons]; exact dpa_append (dpa_reverse t) (.cons r .nil)
theorem dpa_ints {K : PySem.W.Frag} {H : Hp} : ∀ ns : List Int, DpAll K H (ns.map V.int) (ns.map PyData.int)
  | [] => .nil
  | n :: ns => .cons (.int n) (dpa_ints ns)
theorem dp_int {K : PySem.W.Frag} {H : Hp} {v : V} {i : Int} (h : Dp K H v (.int i)) : v = .int i := by cases h; rfl
theorem dp_bl {K : PySem.W.Frag} {H : Hp} {v : V} {i : Bool} (h : Dp K H v (.bool i)) : v = .bl i := by cases h; rfl
theorem dp_non {K : PySem.W.Frag} {H : Hp} {v : V} (h : Dp K H v .none) : v = .non := by cases h; rfl
theorem dp_str {K : PySem.W.Frag} {H : Hp} {v : V} {i : Str} (h : Dp K H v (.str i)) : v = .str i := by cases h; rfl
theorem dpa_ints_inv {K : PySem.W.Frag} {H : Hp} : ∀ {vs : List V} {ns : List Int}, DpAll K H vs (ns.map PyData.int) → vs = ns.map V.int
  | [], [], _ => rfl
  | [], _ :: _, h => nomatch h
  | _ :: _, [], h => nomatch h
  | v :: vs, n :: ns, .cons h t => by rw [dp_int h, dpa_ints_inv t]; rfl
theorem dp_ints_l {K : PySem.W.Frag} {H : Hp} {v : V} {ns : List Int} (h : Dp K H v (.list (ns.map .int))) : ∃ a, v = .ref a ∧ SqL K H a (ns.map V.int) := by
  cases h with
  | lst hs ha => rw [dpa_ints_inv ha] at hs; exact ⟨_, rfl, hs⟩
theorem dp_ints_t {K : PySem.W.Frag} {H : Hp} {v : V} {ns : List Int} (h : Dp K H v (.tuple (ns.map .int))) : ∃ a, v = .ref a ∧ SqT K H a (ns.map V.int) := by
  cases h with
  | tup hs ha => rw [dpa_ints_inv ha] at hs; exact ⟨_, rfl, hs⟩

/-! ### what an expression evaluates to, whatever else stands in the heap -/
def EvD (K : PySem.W.Frag) (te : TE) (σ : L2.St) (G : Hp) (d : PyData) : Prop := ∀ H, Same G H → ∀ Q : VK, (∀ v G' H', Nx G H G' H' → Dp K G' v d → Q v H') → te σ H Q
def EvA (K : PySem.W.Frag) (ta : TA) (σ : L2.St) (G : Hp) (ds : List PyData) : Prop := ∀ H, Same G H → ∀ Q : List V → Hp → Prop, (∀ vs G' H', Nx G H G' H' → DpAll K G' vs ds → Q vs H') → ta σ H Q
def EvB (K : PySem.W.Frag) (tt : TT) (σ : L2.St) (G : Hp) (b : Bool) : Prop := ∀ H, Same G H → ∀ Q : Bool → Hp → Prop, (∀ G' H', Nx G H G' H' → Q b H') → tt σ H Q
def RtD (K : PySem.W.Frag) (ts : TS) (σ : L2.St) (G : Hp) (d : PyData) : Prop := ∀ H, Same G H → ∀ D : Ends, (∀ v G' H', Nx G H G' H' → Dp K G' v d → D.rt v H') → ts D σ H
/-- a greater view over the same heap -/
theorem Nx.over {G G1 H G' H' : Hp} (g : Same G G1) (h : Same G1 H) (n : Nx G H G' H') : ∃ G2, Nx G1 H G2 H' ∧ Same G' G2 := by
  refine ⟨fun a => match H a with | none => G' a | some _ => G1 a, ⟨fun a o e => ?_, fun a o e => ?_, n.hh, fun a e => ?_⟩, fun a o e => ?_⟩
  · have : H a = some o := h a o e
    simp only [this]; exact e
  · cases q : H a with
    | none => simp only [q] at e; exact n.gh a o e
    | some u =>
      simp only [q] at e
      exact n.hh a o (h a o e)
  · cases q : H a with
    | none => exact absurd q e
    | some u => rfl
  · cases q : H a with
    | none => simp only [q]; exact e
    | some u =>
      simp only [q]
      rw [n.fr a (ne_none q)] at e
      exact g a o e
section
variable {K : PySem.W.Frag} {σ : L2.St} {G G1 : Hp} {te ta tb : TE} {tt tu : TT} {tA tR : TA} {d e x y z : PyData} {ds es : List PyData} {t u : TS}
theorem EvD.mono (h : EvD K te σ G d) (g : Same G G1) : EvD K te σ G1 d := fun H s Q q => h H (g.trans s) Q fun v G' H' n hd => by
  obtain ⟨G2, n2, s2⟩ := n.over g s
  exact q v G2 H' n2 (dp_mono s2 d hd)
theorem EvA.mono (h : EvA K tA σ G ds) (g : Same G G1) : EvA K tA σ G1 ds := fun H s Q q => h H (g.trans s) Q fun v G' H' n hd => by
  obtain ⟨G2, n2, s2⟩ := n.over g s
  exact q v G2 H' n2 (dpa_mono s2 ds hd)
theorem EvB.mono {b : Bool} (h : EvB K tt σ G b) (g : Same G G1) : EvB K tt σ G1 b := fun H s Q q => h H (g.trans s) Q fun G' H' n => by
  obtain ⟨G2, n2, s2⟩ := n.over g s
  exact q G2 H' n2
theorem RtD.mono (h : RtD K t σ G d) (g : Same G G1) : RtD K t σ G1 d := fun H s D q => h H (g.trans s) D fun v G' H' n hd => by
  obtain ⟨G2, n2, s2⟩ := n.over g s
  exact q v G2 H' n2 (dp_mono s2 d hd)
theorem EvD.cast (h : EvD K te σ G d) (e : d = z) : EvD K te σ G z := e ▸ h
theorem EvB.cast {b c : Bool} (h : EvB K tt σ G b) (e : b = c) : EvB K tt σ G c := e ▸ h
theorem RtD.cast (h : RtD K t σ G d) (e : d = z) : RtD K t σ G z := e ▸ h

theorem ed_var {i : Nat} {v : V} (h : σ[i]? = some (some v)) (hd : Dp K G v d) : EvD K (tVar i) σ G d := fun H s _ q => ⟨v, h, q v G H (Nx.refl s) hd⟩
theorem ed_c {v : V} (hd : Dp K G v d) : EvD K (tC v) σ G d := fun H s _ q => q v G H (Nx.refl s) hd
theorem ed_int {i : Int} : EvD K (tC (.int i)) σ G (.int i) := ed_c (.int i)
theorem ed_bl {i : Bool} : EvD K (tC (.bl i)) σ G (.bool i) := ed_c (.bl i)
theorem ed_str {i : Str} : EvD K (tC (.str i)) σ G (.str i) := ed_c (.str i)
theorem ed_non : EvD K (tC .non) σ G .none := ed_c .non

/-- an operation on two data -/
def ROp (K : PySem.W.Frag) (r : R2) (x y z : PyData) : Prop := ∀ G H, Same G H → ∀ vx vy, Dp K G vx x → Dp K G vy y → ∀ Q : VK, (∀ v G' H', Nx G H G' H' → Dp K G' v z → Q v H') → r vx vy H Q
theorem ed_op {r : R2} (ha : EvD K ta σ G x) (hb : EvD K tb σ G y) (hr : ROp K r x y z) : EvD K (tOp r ta tb) σ G z := fun H s Q q =>
  ha H s _ fun vx G1 H1 n1 hx => (hb.mono n1.gg) H1 n1.gh _ fun vy G2 H2 n2 hy => hr G2 H2 n2.gh vx vy (dp_mono n2.gg x hx) hy Q fun v G3 H3 n3 hd => q v G3 H3 ((n1.trans n2).trans n3) hd
theorem ro_I0 {g : Int → Int → V} {i j : Int} (hz : ∀ G, Dp K G (g i j) z) : ROp K (rI0 g) (.int i) (.int j) z := fun G H s vx vy hx hy Q q => by
  rw [dp_int hx, dp_int hy]
  exact ⟨i, j, rfl, rfl, q _ G H (Nx.refl s) (hz G)⟩
theorem ro_I {C : Int → Int → Prop} {g : Int → Int → V} {i j : Int} (hc : C i j) (hz : ∀ G, Dp K G (g i j) z) : ROp K (rI C g) (.int i) (.int j) z := fun G H s vx vy hx hy Q q => by
  rw [dp_int hx, dp_int hy]
  exact ⟨i, j, rfl, rfl, hc, q _ G H (Nx.refl s) (hz G)⟩
theorem ro_i {f : Int → Int → Int} {i j : Int} : ROp K (rI0 fun i j => .int (f i j)) (.int i) (.int j) (.int (f i j)) := ro_I0 fun _ => .int _
theorem ro_b {f : Int → Int → Bool} {i j : Int} : ROp K (rI0 fun i j => .bl (f i j)) (.int i) (.int j) (.bool (f i j)) := ro_I0 fun _ => .bl _
theorem ro_ic {C : Int → Int → Prop} {f : Int → Int → Int} {i j : Int} (hc : C i j) : ROp K (rI C fun i j => .int (f i j)) (.int i) (.int j) (.int (f i j)) := ro_I hc fun _ => .int _
theorem ro_eqI {i j : Int} : ROp K rEq (.int i) (.int j) (.bool (decide (i = j))) := fun G H s vx vy hx hy Q q => by
  rw [dp_int hx, dp_int hy]
  refine ⟨rfl, ?_⟩
  have e : decide (V.int i = V.int j) = decide (i = j) := by simp
  rw [e]
  exact q _ G H (Nx.refl s) (.bl _)
theorem ro_neI {i j : Int} : ROp K rNe (.int i) (.int j) (.bool (!decide (i = j))) := fun G H s vx vy hx hy Q q => by
  rw [dp_int hx, dp_int hy]
  refine ⟨rfl, ?_⟩
  have e : decide (V.int i = V.int j) = decide (i = j) := by simp
  rw [e]
  exact q _ G H (Nx.refl s) (.bl _)
theorem ro_eqD (hx : SeqAt.shaped x = true) (hy : SeqAt.shaped y = true) : ROp K (rEqD K) x y (.bool (PyData.eqv x y)) := fun G H s vx vy dx dy Q q =>
  ⟨x, y, dp_mono s x dx, dp_mono s y dy, hx, hy, q _ G H (Nx.refl s) (.bl _)⟩
theorem ro_neD (hx : SeqAt.shaped x = true) (hy : SeqAt.shaped y = true) : ROp K (rNeD K) x y (.bool (!PyData.eqv x y)) := fun G H s vx vy dx dy Q q =>
  ⟨x, y, dp_mono s x dx, dp_mono s y dy, hx, hy, q _ G H (Nx.refl s) (.bl _)⟩
/-- s[i] -/
theorem ro_ixL {i : Int} {k : Nat} (hi : i = (k : Int)) (hk : ds[k]? = some z) : ROp K (rIxL K) (.list ds) (.int i) z := fun G H s vx vy dx dy Q q => by
  cases dx with
  | lst hs ha =>
    obtain ⟨v, h1, h2⟩ := dpa_at ha hk
    rw [dp_int dy]
    exact ⟨_, _, i, v, rfl, rfl, s.seq hs, by rw [hi]; exact atI_nat h1, q v G H (Nx.refl s) h2⟩
theorem ro_ixT {i : Int} {k : Nat} (hi : i = (k : Int)) (hk : ds[k]? = some z) : ROp K (rIxT K) (.tuple ds) (.int i) z := fun G H s vx vy dx dy Q q => by
  cases dx with
  | tup hs ha =>
    obtain ⟨v, h1, h2⟩ := dpa_at ha hk
    rw [dp_int dy]
    exact ⟨_, _, i, v, rfl, rfl, same_tup s hs, by rw [hi]; exact atI_nat h1, q v G H (Nx.refl s) h2⟩
/-- t + u -/
theorem ro_cat (hz : ds.length + es.length ≤ sizeLine) : ROp K (rCatA K) (.tuple ds) (.tuple es) (.tuple (ds ++ es)) := fun G H s vx vy dx dy Q q => by
  cases dx with
  | @tup a xs _ hs ha =>
    cases dy with
    | @tup b ys _ hs' hb =>
      have l1 := dpa_length ha
      have l2 := dpa_length hb
      refine ⟨a, b, xs, ys, rfl, rfl, same_tup s hs, same_tup s hs', by omega, fun e => ?_, fun _ e => ?_, fun _ _ p hp => ?_⟩
      · subst e; cases ha; exact q _ G H (Nx.refl s) (.tup hs' hb)
      · subst e; cases hb; rw [List.append_nil] at q; exact q _ G H (Nx.refl s) (.tup hs ha)
      · have n := Nx.new (o := .tup (xs ++ ys)) s hp
        exact q _ _ _ n (.tup (SqT.of upd_same) (dpa_append (dpa_mono n.gg _ ha) (dpa_mono n.gg _ hb)))

/-! ### arguments, displays -/
theorem ea_nil : EvA K tNil σ G [] := fun H s _ q => q [] G H (Nx.refl s) .nil
theorem ea_cons (h : EvD K te σ G d) (hr : EvA K tR σ G ds) : EvA K (tCons te tR) σ G (d :: ds) := fun H s Q q =>
  h H s _ fun v G1 H1 n1 hv => (hr.mono n1.gg) H1 n1.gh _ fun vs G2 H2 n2 hvs => q (v :: vs) G2 H2 (n1.trans n2) (.cons (dp_mono n2.gg d hv) hvs)
theorem ed_tup (h : EvA K tA σ G ds) (hz : ds.length ≤ sizeLine) : EvD K (tTup tA) σ G (.tuple ds) := fun H s Q q =>
  h H s _ fun vs G1 H1 n1 hv => ⟨by rw [dpa_length hv]; exact hz, fun p hp => by
    have n := Nx.new (o := .tup vs) n1.gh hp
    exact q _ _ _ (n1.trans n) (.tup (SqT.of upd_same) (dpa_mono n.gg _ hv))⟩
theorem ed_lst (h : EvA K tA σ G ds) (hz : ds.length ≤ sizeLine) : EvD K (tLst tA) σ G (.list ds) := fun H s Q q =>
  h H s _ fun vs G1 H1 n1 hv => ⟨by rw [dpa_length hv]; exact hz, fun p hp => by
    have n := Nx.new (o := .lst vs) n1.gh hp
    exact q _ _ _ (n1.trans n) (.lst (SqL.of upd_same) (dpa_mono n.gg _ hv))⟩

/-! ### calls of built-ins and of defs -/
def RCl (K : PySem.W.Frag) (r : List V → Hp → VK → Prop) (ds : List PyData) (z : PyData) : Prop := ∀ G H, Same G H → ∀ vs, DpAll K G vs ds → ∀ Q : VK, (∀ v G' H', Nx G H G' H' → Dp K G' v z → Q v H') → r vs H Q
theorem ed_cb {r : List V → Hp → VK → Prop} (ha : EvA K tA σ G ds) (hr : RCl K r ds z) : EvD K (tCB r tA) σ G z := fun H s Q q =>
  ha H s _ fun vs G1 H1 n1 hv => hr G1 H1 n1.gh vs hv Q fun v G2 H2 n2 hd => q v G2 H2 (n1.trans n2) hd
/-- a def's promise by data: R says of which arguments it hands back what -/
def SpD (K : PySem.W.Frag) (R : List PyData → PyData → Prop) : Sp := fun vs H Q _ => ∃ G ds d, Same G H ∧ DpAll K G vs ds ∧ R ds d ∧ ∀ v G' H', Nx G H G' H' → Dp K G' v d → Q v H'
theorem ed_call {R : List PyData → PyData → Prop} {E : XK} (ha : EvA K tA σ G ds) (hr : R ds z) : EvD K (tCall (SpD K R) [] E tA) σ G z := fun H s Q q =>
  ha H s _ fun vs G1 H1 n1 hv => ⟨G1, ds, z, n1.gh, by rw [List.append_nil]; exact hv, hr, fun v G2 H2 n2 hd => q v G2 H2 (n1.trans n2) hd⟩
/-- by keywords: the values in the order of the call, put in that of the parameters -/
theorem ed_callK {R : List PyData → PyData → Prop} {E : XK} {tk : TA} {gV : List V → List V → List V} {gd : List PyData} (ha : EvA K tA σ G ds) (hk : EvA K tk σ G es)
    (hg : ∀ G' vs zs, DpAll K G' vs ds → DpAll K G' zs es → DpAll K G' (gV vs zs) gd) (hr : R gd z) : EvD K (tCallK (SpD K R) gV E tA tk) σ G z := fun H s Q q =>
  ha H s _ fun vs G1 H1 n1 hv => (hk.mono n1.gg) H1 n1.gh _ fun zs G2 H2 n2 hz => ⟨G2, gd, z, n2.gh, hg G2 vs zs (dpa_mono n2.gg _ hv) hz, hr, fun v G3 H3 n3 hd => q v G3 H3 ((n1.trans n2).trans n3) hd⟩

/-! ### tests -/
theorem eb_test {b : Bool} (h : EvD K te σ G (.bool b)) : EvB K (tTest te) σ G b := fun H s Q q => h H s _ fun v G1 H1 n1 hv => ⟨b, dp_bl hv, q G1 H1 n1⟩
theorem eb_B {b : Bool} (h : EvD K te σ G (.bool b)) : EvB K (tB te) σ G b := fun H s Q q => h H s _ fun v G1 H1 n1 hv => ⟨b, dp_bl hv, q G1 H1 n1⟩
theorem eb_not {b : Bool} (h : EvB K tt σ G b) : EvB K (tNot tt) σ G (!b) := fun H s Q q => h H s _ fun G1 H1 n1 => q G1 H1 n1
theorem eb_and {a b : Bool} (h1 : EvB K tt σ G a) (h2 : a = true → EvB K tu σ G b) : EvB K (tAnd tt tu) σ G (a && b) := fun H s Q q => h1 H s _ fun G1 H1 n1 => by
  cases a with
  | true => exact (show tu σ H1 Q from ((h2 rfl).mono n1.gg) H1 n1.gh Q fun G2 H2 n2 => q G2 H2 (n1.trans n2))
  | false => exact (show Q false H1 from q G1 H1 n1)
theorem eb_or {a b : Bool} (h1 : EvB K tt σ G a) (h2 : a = false → EvB K tu σ G b) : EvB K (tOr tt tu) σ G (a || b) := fun H s Q q => h1 H s _ fun G1 H1 n1 => by
  cases a with
  | true => exact (show Q true H1 from q G1 H1 n1)
  | false => exact (show tu σ H1 Q from ((h2 rfl).mono n1.gg) H1 n1.gh Q fun G2 H2 n2 => q G2 H2 (n1.trans n2))
theorem ed_and {a b : Bool} (h1 : EvD K ta σ G (.bool a)) (h2 : a = true → EvD K tb σ G (.bool b)) : EvD K (tAndV ta tb) σ G (.bool (a && b)) := fun H s Q q => h1 H s _ fun v G1 H1 n1 hv => ⟨a, dp_bl hv, by
  cases a with
  | true => exact (show tb σ H1 Q from ((h2 rfl).mono n1.gg) H1 n1.gh Q fun v2 G2 H2 n2 hd => q v2 G2 H2 (n1.trans n2) hd)
  | false => exact (show Q (.bl false) H1 from q _ G1 H1 n1 (.bl _))⟩
theorem ed_or {a b : Bool} (h1 : EvD K ta σ G (.bool a)) (h2 : a = false → EvD K tb σ G (.bool b)) : EvD K (tOrV ta tb) σ G (.bool (a || b)) := fun H s Q q => h1 H s _ fun v G1 H1 n1 hv => ⟨a, dp_bl hv, by
  cases a with
  | true => exact (show Q (.bl true) H1 from q _ G1 H1 n1 (.bl _))
  | false => exact (show tb σ H1 Q from ((h2 rfl).mono n1.gg) H1 n1.gh Q fun v2 G2 H2 n2 hd => q v2 G2 H2 (n1.trans n2) hd)⟩
theorem ed_not {a : Bool} (h1 : EvD K ta σ G (.bool a)) : EvD K (tNotV ta) σ G (.bool (!a)) := fun H s Q q => h1 H s _ fun v G1 H1 n1 hv => ⟨a, dp_bl hv, q _ G1 H1 n1 (.bl _)⟩
theorem ed_if {b : Bool} (h : EvB K tt σ G b) (h1 : b = true → EvD K ta σ G d) (h2 : b = false → EvD K tb σ G d) : EvD K (tIf tt ta tb) σ G d := fun H s Q q => h H s _ fun G1 H1 n1 => by
  cases b with
  | true => exact (show ta σ H1 Q from ((h1 rfl).mono n1.gg) H1 n1.gh Q fun v2 G2 H2 n2 hd => q v2 G2 H2 (n1.trans n2) hd)
  | false => exact (show tb σ H1 Q from ((h2 rfl).mono n1.gg) H1 n1.gh Q fun v2 G2 H2 n2 hd => q v2 G2 H2 (n1.trans n2) hd)
/-- a < b < c, of ints -/
theorem ed_chain {r r' : R2} {tc : TE} {b c : Bool} (ha : EvD K ta σ G x) (hb : EvD K tb σ G y) (hr : ROp K r x y (.bool b)) (hc : b = true → EvD K tc σ G z) (hr' : b = true → ROp K r' y z (.bool c)) : EvD K (tChain r r' ta tb tc) σ G (.bool (b && c)) := fun H s Q q =>
  ha H s _ fun vx G1 H1 n1 hx => (hb.mono n1.gg) H1 n1.gh _ fun vy G2 H2 n2 hy => hr G2 H2 n2.gh vx vy (dp_mono n2.gg x hx) hy _ fun v G3 H3 n3 hd => ⟨b, dp_bl hd, by
    have n13 := (n1.trans n2).trans n3
    cases b with
    | true => exact (show tc σ H3 _ from ((hc rfl).mono n13.gg) H3 n13.gh _ fun vz G4 H4 n4 hz => (hr' rfl) G4 H4 n4.gh vy vz (dp_mono (n3.gg.trans n4.gg) y hy) hz Q fun v5 G5 H5 n5 hd5 => q v5 G5 H5 ((n13.trans n4).trans n5) hd5)
    | false => exact (show Q (.bl false) H3 from q _ G3 H3 n13 (.bl _))⟩

/-! ### statements that hand back -/
theorem rd_ret (h : EvD K te σ G d) : RtD K (tRet te) σ G d := fun H s D q => h H s _ fun v G1 H1 n hd => q v G1 H1 n hd
theorem rd_if {b : Bool} (h : EvB K tt σ G b) (h1 : b = true → RtD K t σ G d) (h2 : b = false → RtD K u σ G d) : RtD K (tIfS tt t u) σ G d := fun H s D q => h H s _ fun G1 H1 n1 => by
  cases b with
  | true => exact (show t D σ H1 from ((h1 rfl).mono n1.gg) H1 n1.gh D fun v2 G2 H2 n2 hd => q v2 G2 H2 (n1.trans n2) hd)
  | false => exact (show u D σ H1 from ((h2 rfl).mono n1.gg) H1 n1.gh D fun v2 G2 H2 n2 hd => q v2 G2 H2 (n1.trans n2) hd)
theorem rd_seqIf {b : Bool} (h : EvB K tt σ G b) (h1 : b = true → RtD K t σ G d) (h2 : b = false → RtD K u σ G d) : RtD K (tSeq (tIfS tt t tNext) u) σ G d := fun H s D q => h H s _ fun G1 H1 n1 => by
  cases b with
  | true => exact (show t { D with nx := u D } σ H1 from ((h1 rfl).mono n1.gg) H1 n1.gh { D with nx := u D } fun v2 G2 H2 n2 hd => q v2 G2 H2 (n1.trans n2) hd)
  | false => exact (show u D σ H1 from ((h2 rfl).mono n1.gg) H1 n1.gh D fun v2 G2 H2 n2 hd => q v2 G2 H2 (n1.trans n2) hd)
theorem rd_set {i : Nat} (h : EvD K te σ G e) (h1 : ∀ v G', Same G G' → Dp K G' v e → RtD K u (σ.set i (some v)) G' d) : RtD K (tSeq (tAsg te (gName i)) u) σ G d := fun H s D q => h H s _ fun v G1 H1 n1 hv =>
  h1 v G1 n1.gg hv H1 n1.gh D fun v2 G2 H2 n2 hd => q v2 G2 H2 (n1.trans n2) hd
theorem rd_drop (h : EvD K te σ G e) (h1 : RtD K u σ G d) : RtD K (tSeq (tDrop te) u) σ G d := fun H s D q => h H s _ fun v G1 H1 n1 hv =>
  (h1.mono n1.gg) H1 n1.gh D fun v2 G2 H2 n2 hd => q v2 G2 H2 (n1.trans n2) hd
/-- nothing behind the last statement: None -/
theorem rd_never (h : False) : RtD K t σ G d := h.elim
end
/-- a def whose body hands back by data -/
theorem okD {P : Program} {w : World} {K : PySem.W.Frag} {mg : Str → Option Value} {base : Heap} {x qual : Str} {st : Stmt} {f : Addr} {fd : FuncData} {N ps : List Str} {k : Nat} {R : List PyData → PyData → Prop}
    (F : Fun K x qual st f fd) (S : FnScope N ps (defScope st)) (len : ∀ ds d, R ds d → ds.length = ps.length)
    (hbody : ∀ (cdv : Value) (A : Around) (outer : List Env) (s : Shared) (H : Hp), Room k (A.deeper (envOfC qual (defScope st) s.heap.objs.size f cdv)) →
      ∃ t, PSs (cxOf CX0 P w K mg base N qual (defScope st) f cdv A outer s H E0).nox (defBody st) t ∧ ∀ G ds d vs, R ds d → DpAll K G vs ds → ∀ H, Same G H → ∀ D : Ends, (∀ v G' H', Nx G H G' H' → Dp K G' v d → D.rt v H') → (∀ σ G' H', Nx G H G' H' → d = .none → D.nx σ H') → t D (start N vs) H) : FnOk P w K mg base CX0 (k + 1) f fd ps (SpD K R) := by
  refine F.ok S (fun vs H Q E h => ?_) (fun cdv A outer s H vs Q E hr h => ?_)
  · obtain ⟨G, ds, d, _, ha, hr, _⟩ := h
    rw [dpa_length ha]; exact len ds d hr
  · obtain ⟨G, ds, d, hs, ha, hR, q⟩ := h
    obtain ⟨t, ht, hq⟩ := hbody cdv A outer s H hr
    exact ⟨t, ht, hq G ds d vs hR ha H hs _ (fun v G' H' n hd => q v G' H' n hd) (fun _ G' H' n e => q .non G' H' n (by rw [e]; exact .non))⟩
end Gw
namespace Gw
open PySem PySem.Spec PyProof.Rows L2

/-! ### kinds -/
def tyOf : PyData → String
  | .none => "NoneType" | .bool _ => "bool" | .int _ => "int" | .str _ => "str" | .list _ => "list" | .tuple _ => "tuple" | .dict _ => "dict"
theorem dp_ty {K : PySem.W.Frag} {G H : Hp} (s : Same G H) : ∀ {d : PyData} {v : V}, Dp K G v d → TyX K H v (.type (tyOf d))
  | _, _, .non => .base .non
  | _, _, .bl b => .base (.bl b)
  | _, _, .int i => .base (.int i)
  | _, _, .str x => .base (.str x)
  | _, _, .lst hs _ => by
    rcases hs with (h | ⟨o, h⟩) | ⟨o, its, n, h, c, _⟩
    · exact .base (.lst (s _ _ h))
    · exact .base (.frz (s _ _ h))
    · exact .kList h c
  | _, _, .tup hs _ => by
    rcases hs with (h | ⟨o, h⟩) | ⟨o, its, n, h, c, _⟩
    · exact .base (.tup (s _ _ h))
    · exact .fTuple (s _ _ h)
    · exact .kTuple h c
section
variable {K : PySem.W.Frag} {σ : L2.St} {G G1 : Hp} {te ta tb tl : TE} {tt tu : TT} {tA tR : TA} {d e x y z : PyData} {ds es : List PyData} {t u : TS}
theorem ed_isi {n : String} {b : Bool} (h : EvD K te σ G d) (hk : kitB (tyOf d) n = some b) : EvD K (tCB (rIsi K) (tCons te (tCons (tC (.ty n)) tNil))) σ G (.bool b) := fun H s Q q =>
  h H s _ fun v G1 H1 n1 hv => ⟨v, .ty n, .type (tyOf d), .type n, b, rfl, .ty n, dp_ty n1.gh hv, kit_ty hk, q _ G1 H1 n1 (.bl b)⟩
theorem rcl_len {K : PySem.W.Frag} {ds : List PyData} : RCl K (fun xs H Q => ∃ p ys, xs = [.ref p] ∧ (SqL K H p ys ∨ SqT K H p ys) ∧ Q (.int ys.length) H) [.tuple ds] (.int ds.length) := fun G H s vs hv Q q => by
  cases hv with
  | cons h t =>
    cases t
    cases h with
    | tup hs ha =>
      refine ⟨_, _, rfl, .inr (same_tup s hs), ?_⟩
      rw [dpa_length ha]
      exact q _ G H (Nx.refl s) (.int _)
theorem rcl_lenL {K : PySem.W.Frag} {ds : List PyData} : RCl K (fun xs H Q => ∃ p ys, xs = [.ref p] ∧ (SqL K H p ys ∨ SqT K H p ys) ∧ Q (.int ys.length) H) [.list ds] (.int ds.length) := fun G H s vs hv Q q => by
  cases hv with
  | cons h t =>
    cases t
    cases h with
    | lst hs ha =>
      refine ⟨_, _, rfl, .inl (s.seq hs), ?_⟩
      rw [dpa_length ha]
      exact q _ G H (Nx.refl s) (.int _)
theorem dpa_bools {K : PySem.W.Frag} {H : Hp} : ∀ {vs : List V} {bs : List Bool}, DpAll K H vs (bs.map PyData.bool) → vs = bs.map V.bl
  | [], [], _ => rfl
  | [], _ :: _, h => nomatch h
  | _ :: _, [], h => nomatch h
  | v :: vs, n :: ns, .cons h t => by rw [dp_bl h, dpa_bools t]; rfl
theorem rcl_all {bs : List Bool} : RCl K (rAll K) [.list (bs.map .bool)] (.bool (bs.all id)) := fun G H s vs hv Q q => by
  cases hv with
  | cons h t =>
    cases t
    cases h with
    | lst hs ha =>
      rw [dpa_bools ha] at hs
      exact ⟨_, bs, rfl, s.seq hs, q _ G H (Nx.refl s) (.bl _)⟩
theorem rcl_tupleL : RCl K (fun xs H Q => ∃ p ys, xs = [.ref p] ∧ ((SqL K H p ys ∧ ∀ l, H l = none → Q (.ref l) (upd H l (.tup ys))) ∨ (SqT K H p ys ∧ Q (.ref p) H))) [.list ds] (.tuple ds) := fun G H s vs hv Q q => by
  cases hv with
  | cons h t =>
    cases t
    cases h with
    | @lst a xs _ hs ha =>
      refine ⟨_, _, rfl, .inl ⟨s.seq hs, fun l hl => ?_⟩⟩
      have n := Nx.new (o := .tup xs) s hl
      exact q _ _ _ n (.tup (SqT.of upd_same) (dpa_mono n.gg _ ha))
theorem rcl_listL : RCl K (fun xs H Q => ∃ p ys, xs = [.ref p] ∧ (SqL K H p ys ∨ SqT K H p ys) ∧ ∀ l, H l = none → Q (.ref l) (upd H l (.lst ys))) [.list ds] (.list ds) := fun G H s vs hv Q q => by
  cases hv with
  | cons h t =>
    cases t
    cases h with
    | @lst a xs _ hs ha =>
      refine ⟨_, _, rfl, .inl (s.seq hs), fun l hl => ?_⟩
      have n := Nx.new (o := .lst xs) s hl
      exact q _ _ _ n (.lst (SqL.of upd_same) (dpa_mono n.gg _ ha))

/-! ### slices -/
def EvO (K : PySem.W.Frag) (to : TO) (σ : L2.St) (G : Hp) (o : Option Int) : Prop := ∀ H, Same G H → ∀ Q : Option Int → Hp → Prop, (∀ G' H', Nx G H G' H' → Q o H') → to σ H Q
theorem eo_none : EvO K tNoPart σ G none := fun H s _ q => q G H (Nx.refl s)
theorem eo_some {i : Int} (h : EvD K te σ G (.int i)) : EvO K (tPart te) σ G (some i) := fun H s _ q => h H s _ fun v G1 H1 n hv => ⟨i, dp_int hv, q G1 H1 n⟩
theorem EvO.mono {to : TO} {o : Option Int} (h : EvO K to σ G o) (g : Same G G1) : EvO K to σ G1 o := fun H s Q q => h H (g.trans s) Q fun G' H' n => by
  obtain ⟨G2, n2, s2⟩ := n.over g s
  exact q G2 H' n2
def cutD (xs : List PyData) (lo hi : Option Int) : List PyData := (xs.drop (HT.sIx xs.length 0 lo)).take (HT.sIx xs.length xs.length hi - HT.sIx xs.length 0 lo)
theorem dpa_cut {H : Hp} {vs : List V} (lo hi : Option Int) (h : DpAll K H vs ds) : DpAll K H (cutV vs lo hi) (cutD ds lo hi) := by
  unfold cutV cutD
  rw [dpa_length h]
  exact dpa_take _ (dpa_drop _ h)
theorem cutD_whole {lo hi : Option Int} (h : HT.sIx ds.length 0 lo = 0 ∧ HT.sIx ds.length ds.length hi = ds.length) : cutD ds lo hi = ds := by
  unfold cutD
  rw [h.1, h.2, List.drop_zero, Nat.sub_zero, List.take_length]
theorem cutD_to {k : Nat} : cutD ds none (some (k : Int)) = ds.take k := by
  unfold cutD
  rw [HT.sIx_none, HT.sIx_nat, List.drop_zero, Nat.sub_zero]
  by_cases h : k ≤ ds.length
  · rw [Nat.min_eq_left h]
  · rw [Nat.min_eq_right (by omega), List.take_length, List.take_of_length_le (by omega)]
theorem cutD_from {k : Nat} : cutD ds (some (k : Int)) none = ds.drop k := by
  unfold cutD
  rw [HT.sIx_none, HT.sIx_nat]
  by_cases h : k ≤ ds.length
  · rw [Nat.min_eq_left h, List.take_of_length_le (by rw [List.length_drop]; omega)]
  · rw [Nat.min_eq_right (by omega), Nat.sub_self, List.take_zero, List.drop_eq_nil_of_le (by omega)]
theorem cutD_mid {k j : Nat} (hkj : k ≤ j) (hj : j ≤ ds.length) : cutD ds (some (k : Int)) (some (j : Int)) = (ds.take j).drop k := by
  unfold cutD
  have hk : min k ds.length = k := Nat.min_eq_left (by omega)
  have hj' : min j ds.length = j := Nat.min_eq_left hj
  rw [HT.sIx_nat, HT.sIx_nat, hk, hj', List.drop_take]
theorem ed_slT {tl th : TO} {lo hi : Option Int} (h : EvD K te σ G (.tuple ds)) (h1 : EvO K tl σ G lo) (h2 : EvO K th σ G hi) : EvD K (tSl (rSlA K) te tl th) σ G (.tuple (cutD ds lo hi)) := fun H s Q q =>
  h H s _ fun v G1 H1 n1 hv => (h1.mono n1.gg) H1 n1.gh _ fun G2 H2 n2 => (h2.mono (n1.gg.trans n2.gg)) H2 n2.gh _ fun G3 H3 n3 => by
    have n := (n1.trans n2).trans n3
    cases hv with
    | @tup a xs _ hs ha =>
      have g3 := n2.gg.trans n3.gg
      refine ⟨_, _, rfl, same_tup (g3.trans n3.gh) hs, fun hw => ?_, fun _ p hp => ?_⟩
      · rw [dpa_length ha] at hw
        rw [cutD_whole hw] at q
        exact q _ G3 H3 n (.tup (same_tup g3 hs) (dpa_mono g3 _ ha))
      · have m := Nx.new (o := .tup (cutV xs lo hi)) n3.gh hp
        exact q _ _ _ (n.trans m) (.tup (SqT.of upd_same) (dpa_mono (g3.trans m.gg) _ (dpa_cut lo hi ha)))
theorem ed_slL {tl th : TO} {lo hi : Option Int} (h : EvD K te σ G (.list ds)) (h1 : EvO K tl σ G lo) (h2 : EvO K th σ G hi) : EvD K (tSl (rSlL K) te tl th) σ G (.list (cutD ds lo hi)) := fun H s Q q =>
  h H s _ fun v G1 H1 n1 hv => (h1.mono n1.gg) H1 n1.gh _ fun G2 H2 n2 => (h2.mono (n1.gg.trans n2.gg)) H2 n2.gh _ fun G3 H3 n3 => by
    have n := (n1.trans n2).trans n3
    cases hv with
    | @lst a xs _ hs ha =>
      have g3 := n2.gg.trans n3.gg
      refine ⟨_, _, rfl, (g3.trans n3.gh).seq hs, fun p hp => ?_⟩
      have m := Nx.new (o := .lst (cutV xs lo hi)) n3.gh hp
      exact q _ _ _ (n.trans m) (.lst (SqL.of upd_same) (dpa_mono (g3.trans m.gg) _ (dpa_cut lo hi ha)))

/-! ### comprehensions: the list stands at D, apart from the view -/
structure LcI (K : PySem.W.Frag) (G1 H1 : Hp) (D : Addr) (ds : List PyData) (Hc : Hp) : Prop where
  ex : ∃ Gi acc, Nx G1 H1 Gi Hc ∧ Gi D = none ∧ Hc D = some (.lst acc) ∧ DpAll K Gi acc ds
theorem LcI.start {H1 : Hp} {D : Addr} (s : Same G1 H1) (hD : H1 D = none) : LcI K G1 H1 D [] (upd H1 D (.lst [])) :=
  ⟨G1, [], Nx.lay s hD, s.free hD, upd_same, .nil⟩
theorem LcI.fin {H1 Hc : Hp} {D : Addr} (hD : H1 D = none) (h : LcI K G1 H1 D ds Hc) : ∃ G', Nx G1 H1 G' Hc ∧ Dp K G' (.ref D) (.list ds) := by
  obtain ⟨Gi, acc, n, g, e, ha⟩ := h.ex
  have gi : Same Gi (upd Gi D (.lst acc)) := fun b u q => by rw [upd_ne (ne_of_none q g)]; exact q
  refine ⟨upd Gi D (.lst acc), ⟨n.gg.trans gi, fun b u q => ?_, n.hh, fun b hb => ?_⟩, .lst (SqL.of upd_same) (dpa_mono gi _ ha)⟩
  · by_cases hq : b = D
    · subst hq; rw [upd_same] at q; rw [e]; exact q
    · rw [upd_ne hq] at q; exact n.gh b u q
  · by_cases hq : b = D
    · subst hq; exact absurd hD hb
    · rw [upd_ne hq]; exact n.fr b hb
/-- a new list, apart from the view -/
def EvN (K : PySem.W.Frag) (te : TE) (σ : L2.St) (G : Hp) (ds : List PyData) : Prop := ∀ H, Same G H → ∀ Q : VK, (∀ p vs G' H', Nx G H G' H' → H p = none → G' p = none → H' p = some (.lst vs) → DpAll K G' vs ds → Q (.ref p) H') → te σ H Q
theorem Nx.tell {H G' H' : Hp} {p : Addr} {o : HO} (n : Nx G H G' H') (hp : H p = none) (gp : G' p = none) (e : H' p = some o) : Nx G H (upd G' p o) H' ∧ Same G' (upd G' p o) := by
  have gi : Same G' (upd G' p o) := fun b u q => by rw [upd_ne (ne_of_none q gp)]; exact q
  refine ⟨⟨n.gg.trans gi, fun b u q => ?_, n.hh, fun b hb => ?_⟩, gi⟩
  · by_cases hq : b = p
    · subst hq; rw [upd_same] at q; rw [e]; exact q
    · rw [upd_ne hq] at q; exact n.gh b u q
  · by_cases hq : b = p
    · subst hq; exact absurd hp hb
    · rw [upd_ne hq]; exact n.fr b hb
theorem EvN.toD (h : EvN K te σ G ds) : EvD K te σ G (.list ds) := fun H s Q q => h H s Q fun p vs G' H' n hp gp e ha => by
  obtain ⟨m, gi⟩ := n.tell hp gp e
  exact q _ _ _ m (.lst (SqL.of upd_same) (dpa_mono gi _ ha))
theorem EvN.mono (h : EvN K te σ G ds) (g : Same G G1) : EvN K te σ G1 ds := fun H s Q q => h H (g.trans s) Q fun p vs G' H' n hp gp e ha => by
  have hG1 : G1 p = none := s.free hp
  refine q p vs (fun a => match H a with | none => G' a | some _ => G1 a) H' ⟨fun a o ea => ?_, fun a o ea => ?_, n.hh, fun a ea => ?_⟩ hp (by simp only [hp]; exact gp) e (dpa_mono (fun a o ea => ?_) _ ha)
  · have := s a o ea
    simp only [this]; exact ea
  · cases q2 : H a with
    | none => simp only [q2] at ea; exact n.gh a o ea
    | some u =>
      simp only [q2] at ea
      exact n.hh a o (s a o ea)
  · cases q2 : H a with
    | none => exact absurd q2 ea
    | some u => rfl
  · cases q2 : H a with
    | none => simp only [q2]; exact ea
    | some u =>
      simp only [q2]
      rw [n.fr a (ne_none q2)] at ea
      exact g a o ea
theorem EvN.cast (h : EvN K te σ G ds) (e : ds = es) : EvN K te σ G es := e ▸ h
theorem en_lst (h : EvA K tA σ G ds) (hz : ds.length ≤ sizeLine) : EvN K (tLst tA) σ G ds := fun H s Q q =>
  h H s _ fun vs G1 H1 n1 hv => ⟨by rw [dpa_length hv]; exact hz, fun p hp => by
    have hp0 : H p = none := n1.hh.free hp
    refine q p vs G1 _ (n1.trans (Nx.lay n1.gh hp)) hp0 (n1.gh.free hp) upd_same hv⟩
theorem LcI.finN {H H1 Hc : Hp} {D : Addr} {Q : VK} (n1 : Nx G H G1 H1) (hD : H1 D = none) (h : LcI K G1 H1 D ds Hc) (q : ∀ p vs G' H', Nx G H G' H' → H p = none → G' p = none → H' p = some (.lst vs) → DpAll K G' vs ds → Q (.ref p) H') : Q (.ref D) Hc := by
  obtain ⟨Gi, acc, n, g, e, ha⟩ := h.ex
  exact q D acc Gi Hc (n1.trans n) (n1.hh.free hD) g e ha
/-- one turn: b the test's answer, then the element -/
theorem LcI.turn {H1 Hc : Hp} {D : Addr} {σ2 : L2.St} {b : Bool} {e : PyData} {Nxt : Hp → Prop} (hD : H1 D = none) (h : LcI K G1 H1 D ds Hc) (hz : ds.length < sizeLine)
    (ht : ∀ Gi, Same G1 Gi → EvB K tt σ2 Gi b) (he : b = true → ∀ Gi, Same G1 Gi → EvD K te σ2 Gi e)
    (hn : ∀ H', LcI K G1 H1 D (if b = true then ds ++ [e] else ds) H' → Nxt H') :
    tt σ2 Hc fun b H3 => if b = true then te σ2 H3 fun y H4 => ∃ acc, H4 D = some (.lst acc) ∧ acc.length < sizeLine ∧ Nxt (upd H4 D (.lst (acc ++ [y]))) else Nxt H3 := by
  obtain ⟨Gi, acc, n, g, e0, ha⟩ := h.ex
  refine ht Gi n.gg Hc n.gh _ fun G3 H3 n3 => ?_
  have hDc : Hc D ≠ none := ne_none e0
  have g3 : G3 D = none := (n3.fr D hDc).trans g
  have e3 : H3 D = some (.lst acc) := n3.hh D _ e0
  cases b with
  | false =>
    refine (show Nxt H3 from hn H3 ?_)
    exact ⟨G3, acc, n.trans n3, g3, e3, dpa_mono n3.gg _ ha⟩
  | true =>
    refine (show te σ2 H3 _ from he rfl G3 (n.gg.trans n3.gg) H3 n3.gh _ fun y G4 H4 n4 hy => ?_)
    have g4 : G4 D = none := (n4.fr D (ne_none e3)).trans g3
    refine ⟨acc, n4.hh D _ e3, by rw [dpa_length ha]; exact hz, hn _ ?_⟩
    have n14 := (n.trans n3).trans n4
    refine ⟨G4, acc ++ [y], ⟨n14.gg, fun b u q => ?_, fun b u q => ?_, n14.fr⟩, g4, upd_same, dpa_append (dpa_mono (n3.gg.trans n4.gg) _ ha) (.cons hy .nil)⟩
    · rw [upd_ne (ne_of_none q g4)]; exact n4.gh b u q
    · rw [upd_ne (ne_of_none q hD)]; exact n14.hh b u q
theorem fm_take {α β : Type} (f : α → Option β) (l : List α) (i : Nat) (a : α) (h : l[i]? = some a) : (l.take (i + 1)).filterMap f = (l.take i).filterMap f ++ (f a).toList := by
  have hi := (List.getElem?_eq_some_iff.mp h)
  obtain ⟨h1, h2⟩ := hi
  rw [List.take_succ, h, List.filterMap_append]
  cases hf : f a <;> simp [List.filterMap_cons, hf]
theorem en_lcT {i : Nat} {vs : List Nat} (f : PyData → Option PyData) (h : EvD K tl σ G (.tuple ds)) (hw : ∀ v, wipe ((wipe σ vs).set i (some v)) vs = wipe σ vs) (hz : ds.length ≤ sizeLine)
    (ht : ∀ d v Gi, d ∈ ds → Same G Gi → Dp K Gi v d → EvB K tt ((wipe σ vs).set i (some v)) Gi (f d).isSome)
    (he : ∀ d v e Gi, d ∈ ds → f d = some e → Same G Gi → Dp K Gi v d → EvD K te ((wipe σ vs).set i (some v)) Gi e) : EvN K (tLc (iTup K tl) (gName i) tt te vs) σ G (ds.filterMap f) := fun H s Q q =>
  h H s _ fun v G1 H1 n1 hv => by
    cases hv with
    | @tup a xs _ hs ha =>
      refine ⟨a, rfl, ⟨xs, same_tup n1.gh hs⟩, fun D hD => ?_⟩
      refine lc_tup (K := K) (a := a) (xs := xs) (fun k Hc => LcI K G1 H1 D ((ds.take k).filterMap f) Hc) (LcI.start n1.gh hD) (fun k Hc _ p => ?_) (fun k x Hc hk p => ?_) fun Hc p => ?_
      · obtain ⟨Gi, acc, n, _⟩ := p.ex
        exact same_tup (n1.gh.trans n.hh) hs
      · obtain ⟨dk, hdk, hdx⟩ := dpa_get ha hk
        have hm : dk ∈ ds := List.mem_of_getElem? hdk
        refine ⟨hw x, ?_⟩
        refine LcI.turn (b := (f dk).isSome) (e := (f dk).getD .none) hD p (Nat.lt_of_le_of_lt (List.length_filterMap_le _ _) ?_) (fun Gi g => ht dk x Gi hm (n1.gg.trans g) (dp_mono g _ hdx)) (fun hb Gi g => ?_) fun H' p' => ?_
        · have := (List.getElem?_eq_some_iff.mp hdk).1
          rw [List.length_take]; omega
        · obtain ⟨e, hee⟩ := Option.isSome_iff_exists.mp hb
          rw [hee]
          exact he dk x e Gi hm hee (n1.gg.trans g) (dp_mono g _ hdx)
        · rw [fm_take f ds k dk hdk]
          cases hf : f dk with
          | none => rw [hf] at p'; simpa using p'
          | some e => rw [hf] at p'; simpa using p'
      · rw [dpa_length ha, List.take_length] at p
        exact p.finN n1 hD q
theorem en_lcL {i : Nat} {vs : List Nat} (f : PyData → Option PyData) (h : EvD K tl σ G (.list ds)) (hw : ∀ v, wipe ((wipe σ vs).set i (some v)) vs = wipe σ vs) (hz : ds.length ≤ sizeLine)
    (ht : ∀ d v Gi, d ∈ ds → Same G Gi → Dp K Gi v d → EvB K tt ((wipe σ vs).set i (some v)) Gi (f d).isSome)
    (he : ∀ d v e Gi, d ∈ ds → f d = some e → Same G Gi → Dp K Gi v d → EvD K te ((wipe σ vs).set i (some v)) Gi e) : EvN K (tLc (iList K tl) (gName i) tt te vs) σ G (ds.filterMap f) := fun H s Q q =>
  h H s _ fun v G1 H1 n1 hv => by
    cases hv with
    | @lst a xs _ hs ha =>
      refine ⟨a, rfl, ⟨xs, n1.gh.seq hs⟩, fun D hD => ?_⟩
      refine lc_list (K := K) (a := a) (xs := xs) (fun k Hc => LcI K G1 H1 D ((ds.take k).filterMap f) Hc) (LcI.start n1.gh hD) (fun k Hc _ p => ?_) (fun k x Hc hk p => ?_) fun Hc p => ?_
      · obtain ⟨Gi, acc, n, _⟩ := p.ex
        exact (n1.gh.trans n.hh).seq hs
      · obtain ⟨dk, hdk, hdx⟩ := dpa_get ha hk
        have hm : dk ∈ ds := List.mem_of_getElem? hdk
        refine ⟨hw x, ?_⟩
        refine LcI.turn (b := (f dk).isSome) (e := (f dk).getD .none) hD p (Nat.lt_of_le_of_lt (List.length_filterMap_le _ _) ?_) (fun Gi g => ht dk x Gi hm (n1.gg.trans g) (dp_mono g _ hdx)) (fun hb Gi g => ?_) fun H' p' => ?_
        · have := (List.getElem?_eq_some_iff.mp hdk).1
          rw [List.length_take]; omega
        · obtain ⟨e, hee⟩ := Option.isSome_iff_exists.mp hb
          rw [hee]
          exact he dk x e Gi hm hee (n1.gg.trans g) (dp_mono g _ hdx)
        · rw [fm_take f ds k dk hdk]
          cases hf : f dk with
          | none => rw [hf] at p'; simpa using p'
          | some e => rw [hf] at p'; simpa using p'
      · rw [dpa_length ha, List.take_length] at p
        exact p.finN n1 hD q
theorem en_lcR {i : Nat} {vs : List Nat} {m : Int} (f : Nat → Option PyData) (h : EvD K tl σ G (.int m)) (hw : ∀ v, wipe ((wipe σ vs).set i (some v)) vs = wipe σ vs) (hm0 : -(2 ^ 62) ≤ m) (hz : m.toNat ≤ sizeLine)
    (ht : ∀ k Gi, k < m.toNat → Same G Gi → EvB K tt ((wipe σ vs).set i (some (.int k))) Gi (f k).isSome)
    (he : ∀ k e Gi, k < m.toNat → f k = some e → Same G Gi → EvD K te ((wipe σ vs).set i (some (.int k))) Gi e) : EvN K (tLc (iRng1 (tCons tl tNil)) (gName i) tt te vs) σ G ((List.range m.toNat).filterMap f) := fun H s Q q =>
  h H s _ fun v G1 H1 n1 hv => by
    rw [dp_int hv]
    refine ⟨m, rfl, hm0, ?_, fun D hD => ?_⟩
    · have : sizeLine ≤ 2 ^ 61 := by decide
      omega
    refine lc_range (lo := 0) (n := m.toNat) (fun k Hc => LcI K G1 H1 D ((List.range k).filterMap f) Hc) (LcI.start n1.gh hD) (fun k Hc hk p => ?_) fun Hc p => ?_
    · have e0 : (0 : Int) + (k : Int) = (k : Int) := by omega
      rw [e0]
      refine ⟨hw _, ?_⟩
      refine LcI.turn (b := (f k).isSome) (e := (f k).getD .none) hD p (Nat.lt_of_le_of_lt (List.length_filterMap_le _ _) (by rw [List.length_range]; omega)) (fun Gi g => ht k Gi hk (n1.gg.trans g)) (fun hb Gi g => ?_) fun H' p' => ?_
      · obtain ⟨e, hee⟩ := Option.isSome_iff_exists.mp hb
        rw [hee]
        exact he k e Gi hk hee (n1.gg.trans g)
      · rw [List.range_succ, List.filterMap_append]
        cases hf : f k with
        | none => rw [hf] at p'; simpa [List.filterMap_cons, hf] using p'
        | some e => rw [hf] at p'; simpa [List.filterMap_cons, hf] using p'
    · exact p.finN n1 hD q
theorem eb_yes : EvB K tYes σ G true := fun H s _ q => q G H (Nx.refl s)
/-- no test -/
theorem en_lcT1 {i : Nat} {vs : List Nat} (f : PyData → PyData) (h : EvD K tl σ G (.tuple ds)) (hw : ∀ v, wipe ((wipe σ vs).set i (some v)) vs = wipe σ vs) (hz : ds.length ≤ sizeLine)
    (he : ∀ d v Gi, d ∈ ds → Same G Gi → Dp K Gi v d → EvD K te ((wipe σ vs).set i (some v)) Gi (f d)) : EvN K (tLc (iTup K tl) (gName i) tYes te vs) σ G (ds.map f) :=
  (en_lcT (fun d => some (f d)) h hw hz (fun d v Gi _ _ _ => eb_yes) (fun d v e Gi hm e1 g hd => by cases e1; exact he d v Gi hm g hd)).cast (by rw [List.filterMap_eq_map'])
theorem en_lcL1 {i : Nat} {vs : List Nat} (f : PyData → PyData) (h : EvD K tl σ G (.list ds)) (hw : ∀ v, wipe ((wipe σ vs).set i (some v)) vs = wipe σ vs) (hz : ds.length ≤ sizeLine)
    (he : ∀ d v Gi, d ∈ ds → Same G Gi → Dp K Gi v d → EvD K te ((wipe σ vs).set i (some v)) Gi (f d)) : EvN K (tLc (iList K tl) (gName i) tYes te vs) σ G (ds.map f) :=
  (en_lcL (fun d => some (f d)) h hw hz (fun d v Gi _ _ _ => eb_yes) (fun d v e Gi hm e1 g hd => by cases e1; exact he d v Gi hm g hd)).cast (by rw [List.filterMap_eq_map'])
theorem en_lcR1 {i : Nat} {vs : List Nat} {m : Int} (f : Nat → PyData) (h : EvD K tl σ G (.int m)) (hw : ∀ v, wipe ((wipe σ vs).set i (some v)) vs = wipe σ vs) (hm0 : -(2 ^ 62) ≤ m) (hz : m.toNat ≤ sizeLine)
    (he : ∀ k Gi, k < m.toNat → Same G Gi → EvD K te ((wipe σ vs).set i (some (.int k))) Gi (f k)) : EvN K (tLc (iRng1 (tCons tl tNil)) (gName i) tYes te vs) σ G ((List.range m.toNat).map f) :=
  (en_lcR (fun d => some (f d)) h hw hm0 hz (fun k Gi _ _ => eb_yes) (fun k e Gi hk e1 g => by cases e1; exact he k Gi hk g)).cast (by rw [List.filterMap_eq_map'])
end
end Gw
namespace Gw
open PySem PySem.Spec PyProof.Rows L2

/-! ### a def as it stands, and its promise -/
structure DefAt (K : PySem.W.Frag) (mg : Str → Option Value) (x : Str) (st : Stmt) (ps : List Str) (f : Addr) (fd : FuncData) : Prop where
  F : Fun K x x st f fd
  m : mg x = some (.ref f)
  b : Binds K fd ps []
def Ok (P : Program) (w : World) (K : PySem.W.Frag) (mg : Str → Option Value) (base : Heap) (x : Str) (ps : List Str) (k : Nat) (sp : Sp) : Prop :=
  ∃ (f : Addr) (fd : FuncData), mg x = some (.ref f) ∧ PySem.W.keepIn K (.ref f) = true ∧ Binds K fd ps [] ∧ FnOk P w K mg base CX0 k f fd ps sp
theorem DefAt.ok {P : Program} {w : World} {K : PySem.W.Frag} {mg : Str → Option Value} {base : Heap} {x : Str} {st : Stmt} {ps : List Str} {f : Addr} {fd : FuncData} {k : Nat} {sp : Sp}
    (D : DefAt K mg x st ps f fd) (h : FnOk P w K mg base CX0 k f fd ps sp) : Ok P w K mg base x ps k sp := ⟨f, fd, D.m, D.F.kp, D.b, h⟩
theorem Ok.imp {P : Program} {w : World} {K : PySem.W.Frag} {mg : Str → Option Value} {base : Heap} {x : Str} {ps : List Str} {k : Nat} {sp sp' : Sp} (h : Ok P w K mg base x ps k sp)
    (i : ∀ vs H Q E, sp' vs H Q E → sp vs H Q E) : Ok P w K mg base x ps k sp' := by
  obtain ⟨f, fd, a, b, c, d⟩ := h
  exact ⟨f, fd, a, b, c, d.imp i⟩
/-- names of built-ins that the text leaves alone -/
structure Bt (mg : Str → Option Value) : Prop where
  len : mg "len" = none
  int : mg "int" = none
  bool : mg "bool" = none
  str : mg "str" = none
  list : mg "list" = none
  tuple : mg "tuple" = none
  dict : mg "dict" = none
  isinstance : mg "isinstance" = none
  all : mg "all" = none
  any : mg "any" = none
  abs : mg "abs" = none
  min : mg "min" = none
  max : mg "max" = none
  range : mg "range" = none
  enumerate : mg "enumerate" = none
  repr : mg "repr" = none
  sorted : mg "sorted" = none
section
variable {X : Cx} {x : Str} {ps ks : List Str} {k : Nat} {sp : Sp} {p pos : Pos} {e : Expr} {es : List Expr} {kws : List Keyword} {t tk : TA}
theorem pe_ok (h : Ok X.prog X.w X.K X.mg X.base x ps k sp) (hr : Room k X.A) (hg : Gl X x) (ha : PA X (e :: es) t) (hdb : (x == ("__debug__" : Str)) = false := by decide)
    (he : starEach (e :: es) X.env = (false, eval e X.env) :: starEach es X.env := by rfl) (hpl : (backTo pos (starEach es X.env)).any (·.1) = false := by rfl) :
    PE X (.Call (.Name x p) (e :: es) [] pos) (tCall sp [] E0 t) := by
  obtain ⟨f, fd, hm, hk, hb, F⟩ := h
  exact pe_call F hr hg hm hk hb .nil pass0 ha hdb he hpl
theorem pe_ok0 (h : Ok X.prog X.w X.K X.mg X.base x ps k sp) (hr : Room k X.A) (hg : Gl X x) (hdb : (x == ("__debug__" : Str)) = false := by decide) :
    PE X (.Call (.Name x p) [] [] pos) (tCall sp [] E0 tNil) := by
  obtain ⟨f, fd, hm, hk, hb, F⟩ := h
  exact pe_call0 F hr hg hm hk hb .nil pass0 hdb
end
end Gw
namespace Gw
open PySem PySem.Spec PyProof.Rows L2
open PySem.AutoSeq1 (wpAny_loadPart')
/-! ### enumerate(a tuple) -/
abbrev tupItO (l : Addr) : Obj := { cls := .type "tuple_iterator", data := .fields #[.ref l, .int 0 0] }
abbrev enO (i : Addr) : Obj := { cls := .type "enumerate", data := .fields #[.none, .bool false, .ref i, rawInt 0, .none, .none] }
set_option maxHeartbeats 1000000 in
theorem en_meets (l : Addr) (its : Array Value) (n : Nat) (dd : Option Addr) (sl : Array (Option Value)) :
    Meets (Builtin.«enumerate.__new__» ⟨[.type "enumerate", .ref l], []⟩)
      (fun _ R s => s.heap.get? l = some { cls := .type "tuple", dict := dd, data := .seq its n, slots := sl } ∧ R (.ok (.ret (.ref (s.heap.push (tupItO l)).objs.size))) { s with heap := (s.heap.push (tupItO l)).push (enO s.heap.objs.size) }) :=
  .of_wp fun pr w A R s hyp => by
    obtain ⟨hp, g, d, tk, os⟩ := s; obtain ⟨hl, hq⟩ := hyp
    have hsub := PySem.sub_enumerate
    have hT : Heap.IsTuple (Shared.heap ⟨hp, g, d, tk, os⟩) l its := ⟨_, hl, rfl, n, rfl⟩
    wp_walk using wpAny_loadPart' hl
    refine wpAny_stack_any fun st => wpAny_pure ?_
    split
    · rename_i c _ _ _ _ _
      cases (c == Value.type "enumerate") <;> (wp_walk using wpAny_loadPart' hl, wpAny_pyIter_tuple hT; exact ⟨_, rfl, hq⟩)
    · wp_walk using wpAny_loadPart' hl, wpAny_pyIter_tuple hT
      exact ⟨_, rfl, hq⟩
theorem call_enT {prog : Program} {w : World} {A : Around} {E : Value → Shared → Prop} {s : Shared} {l : Addr} {its : Array Value} {Q : Value → Shared → Prop} (hT : s.heap.IsTuple l its)
    (h : ∀ h', IsEnum h' (s.heap.objs.size + 1) s.heap.objs.size 0 .none → h'.IsTupleIter s.heap.objs.size l 0 → (∀ b o, s.heap.get? b = some o → h'.get? b = some o) → Q (.ref (s.heap.objs.size + 1)) { s with heap := h' }) :
    wpAny (model prog w) A (call (.type "enumerate") [.ref l]) Q E s := by
  obtain ⟨⟨c, dd, dt, sl⟩, hl, hc, n, hd⟩ := hT
  have hc : c = .type "tuple" := hc
  have hd : dt = .seq its n := hd
  subst hc hd
  refine callType_new F.called_enumerate (by decide) (F.typeCall_enumerate_1 _) (F.newCall_enumerate_1 _) (fun obj => F.args_object_init_2 obj _) F.entry_enumerate_new (en_meets l its n dd sl) ⟨hl, ?_⟩
  have hz : (s.heap.push (tupItO l)).objs.size = s.heap.objs.size + 1 := Heap.size_push ..
  show _ ∧ _
  rw [hz]
  have he : IsEnum ((s.heap.push (tupItO l)).push (enO s.heap.objs.size)) (s.heap.objs.size + 1) s.heap.objs.size 0 .none := by
    have q := Heap.get?_push_size (s.heap.push (tupItO l)) (o := enO s.heap.objs.size) rfl
    rw [hz] at q
    exact q
  exact ⟨⟨_, he, rfl⟩, h _ he ⟨_, Heap.get?_push_of_some _ (Heap.get?_push_size _ rfl), rfl, rfl⟩ fun b o z => Heap.get?_push_of_some _ (Heap.get?_push_of_some _ z)⟩
def IteT (K : PySem.W.Frag) (a : Addr) : It :=
  ⟨fun i H => ∃ (xs : List V) (x : V), SqT K H a xs ∧ xs[i]? = some x,
   fun i H v H' => ∃ T x, v = .ref T ∧ H T = none ∧ H' = upd H T (.tup [.int (i : Nat), x]) ∧ ∀ xs, SqT K H a xs → xs[i]? = some x,
   fun i H => ∃ xs : List V, SqT K H a xs ∧ xs.length = i⟩
theorem turn_enT {P : Program} {w : World} {K : PySem.W.Frag} {elts : List Expr} {kk : Nat} {tpos : Pos} (a e it : Addr) :
    Turn P w K (.Tuple elts kk tpos) (IteT K a) [e, it] e (fun i h => (∃ old, IsEnum h e it ((i : Nat) : Int) old) ∧ h.IsTupleIter it a i ∧ e ≠ it) where
  mem := List.mem_cons_self
  obj := fun i h st b hb => by
    obtain ⟨⟨old, he⟩, ⟨o, ho, hc, hd⟩, _⟩ := st
    rcases List.mem_cons.mp hb with z | hb
    · rw [z]; exact ⟨_, he, fun v q => by cases q⟩
    · rw [List.mem_singleton.mp hb]
      exact ⟨o, ho, fun v q => by rw [hd] at q; cases q⟩
  keep := fun i h h' st k => let ⟨⟨old, he⟩, hi, hne⟩ := st; ⟨⟨old, k e List.mem_cons_self _ he⟩, hi.at fun o q => k it (by simp) o q, hne⟩
  item := by
    intro X hP hw hK hc i pn s τ H Ex I hf st hg
    subst hP hw hK
    obtain ⟨⟨old, he⟩, hit, hne⟩ := st
    obtain ⟨xs, x, hq, hx⟩ := hg
    obtain ⟨its, rv, p, hz⟩ := I.tuple hq
    obtain ⟨u, hu, ru⟩ := rv.get hx
    have hT : s.heap.IsTuple a its.toArray := p
    have hel : e < s.heap.objs.size := Heap.lt_size he
    have hil : it < s.heap.objs.size := by obtain ⟨_, q, _⟩ := hit; exact Heap.lt_size q
    have hta : a ≠ it := fun z => by
      obtain ⟨o1, h1, h2, _⟩ := p
      obtain ⟨o2, h3, h4, _⟩ := hit
      rw [z, h3] at h1
      cases h1
      rw [h4] at h2
      exact absurd (Value.type.inj h2) (by decide)
    have hea : e ≠ a := fun z => by
      obtain ⟨o1, h1, h2, _⟩ := p
      rw [← z, show s.heap.get? e = _ from he] at h1
      cases h1
      exact absurd (Value.type.inj h2) (by decide)
    have hlt : i < its.toArray.size := by
      have := (List.getElem?_eq_some_iff.mp hu).1
      rw [List.size_toArray]; exact this
    refine wpAny_pyNext_enum_itemD (Draws.tuple (A := X.A.in1) (I.ok.hd hc) it a hta its.toArray) he ⟨hit, hT⟩ hlt hne (by simp; exact ⟨hne, hea⟩) fun y h' tk hy ho hst' hTn hsz hk => ?_
    have ey : y = u := by
      have : its.toArray[i]? = some u := by simpa using hu
      rw [this] at hy
      exact (Option.some.inj hy).symm
    subst ey
    refine ⟨_, rfl, wpAny_letOwnedTupleGo_enum (s := { s with heap := h', toks := tk + 1 }) ho fun h'' he' sb => ?_⟩
    have hT2 : h''.get? s.heap.objs.size = some { cls := .type "tuple", data := .seq #[.int i tk, y] } := (sb.2 _ (Nat.ne_of_gt hel)).trans hTn
    have fresh : ObjOk X.prog X.w (upd H s.heap.objs.size (.tup [.int (i : Nat), x])) h'' s.heap.objs.size (.tup [.int (i : Nat), x]) :=
      ⟨by show 2 ≤ sizeLine; decide, [.int i tk, y], .cons ⟨_, rfl⟩ (.cons ru .nil), ⟨_, hT2, rfl, _, rfl⟩⟩
    have I1 : Inv X pn τ (upd H s.heap.objs.size (.tup [.int (i : Nat), x])) { s with heap := h'', toks := tk + 1 } :=
      I.turnedNew (ch := [e, it]) (fun b ob hb q => (sb.2 b (fun z => hb (z ▸ List.mem_cons_self))).trans (hk b ob (fun z => hb (z ▸ List.mem_cons_self)) (fun z => hb (by simp [z])) q)) hf (Nat.le_refl _) fresh
    refine ⟨.ref s.heap.objs.size, _, I1, rfl, ⟨_, x, rfl, I.hok.fresh (Nat.le_refl _), rfl, fun ys hy => by rw [I.tuple_inj hy hq]; exact hx⟩, ⟨⟨y, ?_⟩, hst'.1.at fun o q => (sb.2 it (Ne.symm hne)).trans q, hne⟩, fun b hb => ?_⟩
    · have e1 : ((i + 1 : Nat) : Int) = (i : Int) + 1 := by omega
      rw [e1]
      exact he'
    · have hb' : b < s.heap.objs.size := by
        rcases List.mem_cons.mp hb with z | hb
        · exact z ▸ hel
        · exact (List.mem_singleton.mp hb) ▸ hil
      rw [upd_ne (Nat.ne_of_lt hb')]
      exact (hf b hb).1
  done := by
    intro X hP hw hK hc i pn s τ H Ex I hf st hg
    subst hP hw hK
    obtain ⟨⟨old, he⟩, hit, hne⟩ := st
    obtain ⟨xs, hq, hx⟩ := hg
    obtain ⟨its, rv, p, hz⟩ := I.tuple hq
    have hl := rv.length
    have hta : a ≠ it := fun z => by
      obtain ⟨o1, h1, h2, _⟩ := p
      obtain ⟨o2, h3, h4, _⟩ := hit
      rw [z, h3] at h1
      cases h1
      rw [h4] at h2
      exact absurd (Value.type.inj h2) (by decide)
    have hn : its.toArray.size = i := by rw [List.size_toArray]; omega
    obtain ⟨f0, f1, f2, f3, f4, f5⟩ := hf it (by simp)
    exact wpAny_pyNext_enum_endD (Draws.tuple (A := X.A.in1) (I.ok.hd hc) it a hta its.toArray) he ⟨by rw [hn]; exact hit, p⟩ fun h' eb => ⟨rfl, I.turned (t' := s.toks) (fun b o hb q => eb b o hb q) f0 f1 f3 f4 f5⟩
  self := fun A i s Q E st h => let ⟨⟨_, he⟩, _⟩ := st; wpAny_pyIter_enum he h
def iEnT (K : PySem.W.Frag) (ta : TA) : TI := fun σ H R => ta σ H fun vs H1 => ∃ a xs, vs = [.ref a] ∧ SqT K H1 a xs ∧ R (IteT K a) H1
theorem pi_enumT {X : Cx} {e : Expr} {ta : TA} {p pos tpos : Pos} {elts : List Expr} {kk : Nat} (hg : Gl X "enumerate") (hm : X.mg "enumerate" = none) (ha : PA X [e] ta) (hs : starEach [e] X.env = [(false, eval e X.env)] := by rfl) :
    PI X (.Tuple elts kk tpos) (.Call (.Name "enumerate" p) [e] [] pos) (iEnT X.K ta) := by
  refine ⟨fun pn s τ H R I hyp => ?_⟩
  refine Call_ (ld_blt I hg hm boot_enumerate (PyProof.Rows.callWith_type1 (thn (ha.run pos pn s τ H _ I hyp) fun us s1 ⟨vs, H1, I1, r1, q1⟩ => ?_) hs rfl))
  obtain ⟨a, xs, ex, hq, q⟩ := q1
  subst ex
  obtain _ | ⟨r, _ | _⟩ := r1
  cases r
  obtain ⟨its, rv, p', hz⟩ := I1.tuple hq
  refine call_enT (its := its.toArray) p' fun h' he hit hk => wpAny_pyIter_enum he ?_
  have I2 : Inv X pn τ H1 { s1 with heap := h' } := I1.kept (t' := s1.toks) hk
  refine ⟨s1.heap.objs.size + 1, [s1.heap.objs.size + 1, s1.heap.objs.size], _, _, H1, rfl, I2, turn_enT a (s1.heap.objs.size + 1) s1.heap.objs.size, ⟨⟨.none, he⟩, hit, Nat.succ_ne_self _⟩, fun b hb => ?_, q⟩
  have hle : s1.heap.objs.size ≤ b := by
    rcases List.mem_cons.mp hb with z | hb
    · exact z ▸ Nat.le_add_right _ _
    · exact (List.mem_singleton.mp hb) ▸ Nat.le_refl _
  exact I1.fpOk hle (I1.hok.fresh hle)
theorem walk_enT {K : PySem.W.Frag} {a : Addr} {xs : List V} : Walk (IteT K a) xs.length (fun H => SqT K H a xs) (YPair (fun i => some (.int (i : Nat))) (fun i => xs[i]?)) := by
  refine ⟨fun i _ hi q => ⟨xs, xs[i], q, by simp [hi]⟩, fun _ q => ⟨xs, q, rfl⟩, fun i H v H' _ q y => ?_⟩
  obtain ⟨T, x, h1, h2, h3, h4⟩ := y
  exact ⟨T, .int (i : Nat), x, h1, h2, h3, rfl, h4 xs q⟩
end Gw
namespace Gw
open PySem PySem.Spec PyProof.Rows L2
/-! ### t[::-1] of a tuple -/
section
variable {prog : Program} {w : World} {A : Around} {E : Value → Shared → Prop} {s : Shared}
theorem adj_rev (n : Nat) : Builtin.Slice.sliceAdjust none none (-1) (n : Int) = ((n : Int) - 1, -1) := by
  unfold Builtin.Slice.sliceAdjust
  have h1 : ((-1 : Int) < 0) := by omega
  simp only [h1, if_true]
theorem places_rev (n : Nat) : Builtin.Slice.slicePlaces ((n : Int) - 1) (-1) (-1) = n := by
  unfold Builtin.Slice.slicePlaces
  have h1 : ¬ ((-1 : Int) > 0) := by omega
  simp only [h1, if_false]
  have h2 : ∀ z : Int, z / (- -1) = z := fun z => by rw [show (- -1 : Int) = 1 from rfl, Int.ediv_one]
  split
  · rw [h2]; omega
  · omega
theorem fm_congr {α β : Type} {f g : α → Option β} : ∀ (l : List α), (∀ a ∈ l, f a = g a) → l.filterMap f = l.filterMap g
  | [], _ => rfl
  | a :: l, h => by
    rw [List.filterMap_cons, List.filterMap_cons, h a List.mem_cons_self, fm_congr l fun b hb => h b (List.mem_cons_of_mem _ hb)]
theorem applied_rev {sl : Addr} {t : Tok} {n : Nat} {Q : Int × Int × Nat → Shared → Prop} (hs : s.heap.IsSliceOf sl .none .none (.int (-1) t)) (h : Q ((n : Int) - 1, -1, n) s) :
    wpAny (model prog w) A (Builtin.Slice.sliceApplied (.ref sl) (pure (n : Int))) Q E s := by
  obtain ⟨os, ho, hc, hd⟩ := id hs
  unfold Builtin.Slice.sliceApplied Builtin.Slice.sliceFields
  refine wpAny_bind (wpAny_bind (wpAny_field ho hd (x := .none) rfl (wpAny_bind (wpAny_field ho hd (x := .none) rfl (wpAny_bind (wpAny_field ho hd (x := .int (-1) t) rfl (wpAny_pure ?_)))))))
  refine wpAny_bind (HT.slicePart_ (.int (-1) t) ?_)
  show wpAny _ _ (if ((-1 : Int) == 0) = true then _ else _) _ _ s
  rw [if_neg (by decide)]
  refine wpAny_bind (HT.slicePart_ .none (wpAny_bind (HT.slicePart_ .none (wpAny_bind (wpAny_pure ?_)))))
  show wpAny _ _ (match Builtin.Slice.sliceAdjust none none (-1) (n : Int) with | (lo, hi) => pure (lo, (-1 : Int), Builtin.Slice.slicePlaces lo hi (-1))) _ _ s
  rw [adj_rev n]
  show wpAny _ _ (pure ((n : Int) - 1, (-1 : Int), Builtin.Slice.slicePlaces ((n : Int) - 1) (-1) (-1))) _ _ s
  rw [places_rev]
  exact wpAny_pure h
theorem pick_rev (xs : Array Value) : ((List.range xs.size).filterMap fun (k : Nat) => xs[(((xs.size : Nat) : Int) - 1 + (k : Int) * (-1)).toNat]?).toArray = xs.toList.reverse.toArray := by
  congr 1
  apply List.ext_getElem?
  intro i
  have e : (List.range xs.size).filterMap (fun (k : Nat) => xs[(((xs.size : Nat) : Int) - 1 + (k : Int) * (-1)).toNat]?) = (List.range xs.size).map (fun k => xs.getD (xs.size - 1 - k) .none) := by
    rw [← List.filterMap_eq_map']
    refine fm_congr _ fun k hk => ?_
    have hk := List.mem_range.mp hk
    have e2 : (((xs.size : Nat) : Int) - 1 + (k : Int) * (-1)).toNat = xs.size - 1 - k := by omega
    rw [e2]
    have h3 : xs.size - 1 - k < xs.size := by omega
    rw [Array.getElem?_eq_getElem h3]
    simp [Array.getD, h3]
  rw [e]
  by_cases hi : i < xs.size
  · have h3 : xs.size - 1 - i < xs.size := by omega
    rw [List.getElem?_map, List.getElem?_range hi, List.getElem?_reverse (by simpa using hi)]
    simp [Array.getD, h3]
  · rw [List.getElem?_eq_none (by simp; omega), List.getElem?_eq_none (by simp; omega)]
theorem getItem_tup_rev {t sl : Addr} {items : Array Value} {u : Tok} {Q : Value → Shared → Prop} (ht : IsTup s.heap t items) (hs : s.heap.IsSliceOf sl .none .none (.int (-1) u))
    (h : Q (.ref s.heap.objs.size) { s with heap := s.heap.push { cls := .type "tuple", data := .seq items.toList.reverse.toArray } }) (hsz : items.size ≤ sizeLine) :
    wpAny (model prog w) A (getItem (.ref t) (.ref sl)) Q E s := by
  have hz : sizeOk (.seq items.toList.reverse.toArray) := by
    show items.toList.reverse.toArray.size ≤ sizeLine
    rw [List.size_toArray, List.length_reverse, Array.length_toList]
    exact hsz
  obtain ⟨os, ho, hc, hd⟩ := id hs
  have hTs : s.TypeIs (.ref sl) "slice" := ⟨os, ho, hc⟩
  unfold getItem
  try with_reducible refine wpAny_holding ?_
  first | refine wpAny_bind (wpAny_pure ?_) | skip
  refine wpAny_bind (wpAny_sequenceKey ht.typeIs (by decide) ?_)
  refine wpAny_bind (wpAny_callSpecial?_slot (name := Str.ofString "__getitem__") ht.typeIs PyProof.Rows.slot_tuple_getitem (wpAny_call_entry PyProof.Rows.slot_tuple_getitem ht.typeIs entry_tuple_getitem ?_ (args_tuple_getitem _ _)))
  show wpAny _ _ (Builtin.Tuple.tupleItemsOf (.ref t) >>= _) _ _ s
  refine wpAny_bind (tupleItemsOf_ ht ?_)
  refine wpAny_bind (wpAny_typeOf hTs ?_)
  rw [if_pos (by decide)]
  refine wpAny_bind (applied_rev hs ?_)
  have hno : ¬ ((((items.size : Nat) : Int) - 1 == 0 && (-1 : Int) == 1 && items.size == items.size) = true) := by
    intro q
    rw [Bool.and_eq_true, Bool.and_eq_true] at q
    exact absurd q.1.2 (by decide)
  show wpAny _ _ (if (((items.size : Nat) : Int) - 1 == 0 && (-1 : Int) == 1 && items.size == items.size) = true then _ else _) _ _ s
  rw [if_neg hno, pick_rev]
  first
    | exact wpAny_bind (m := Builtin.Tuple.tupleExact _) (wpAny_newObj_type (wpAny_pure ⟨_, rfl, wpAny_pure h⟩) hz)
    | exact wpAny_bind (m := Builtin.Tuple.tupleExact _) (wpAny_newObj_type (wpAny_bind (wpAny_pure (wpAny_pure ⟨_, rfl, wpAny_pure h⟩))) hz)
    | exact wpAny_bind (wpAny_bind (m := Builtin.Tuple.tupleExact _) (wpAny_newObj_type (wpAny_pure (wpAny_pure ⟨_, rfl, wpAny_pure h⟩)) hz))
    | exact wpAny_bind (wpAny_bind (m := Builtin.Tuple.tupleExact _) (wpAny_newObj_type (wpAny_pure ⟨_, rfl, wpAny_pure h⟩) hz))
end
def tRevT (K : PySem.W.Frag) (te : TE) : TE := fun σ H Q => te σ H fun x H1 => ∃ a xs, x = .ref a ∧ SqT K H1 a xs ∧ ∀ p, H1 p = none → Q (.ref p) (upd H1 p (.tup xs.reverse))
theorem vals_rev : ∀ {xs : List V} {us : List Value}, Vals xs us → Vals xs.reverse us.reverse
  | _, _, .nil => .nil
  | _, _, .cons r t => by rw [List.reverse_cons, List.reverse_cons]; exact (vals_rev t).append (.cons r .nil)
theorem pe_revT {X : Cx} {e : Expr} {te : TE} {k : Nat} {p1 p2 p3 pos : Pos} (he : PE X e te) : PE X (.Subscript e (.Slice none none (some (.UnaryOp .USub (.Constant (.int 1) k p1) p2)) p3) pos) (tRevT X.K te) := by
  refine ⟨fun pn s τ H Q I hyp => ?_⟩
  refine Subscript_ (thn (he.run pn s τ H _ I hyp) fun v s1 ⟨x, H1, I1, r1, q1⟩ => ?_)
  obtain ⟨a, xs, ex, hx, q⟩ := q1
  subst ex
  cases r1
  have hst : PO X (some (.UnaryOp .USub (.Constant (.int 1) k p1) p2)) (tPart (tUn (rU fun i => .int (-i)) (tC (.int 1)))) := po_some (pe_un un_neg pe_int)
  refine wpAny_Slice (thn (po_none.run pn s1 τ H1 (fun o H2 => o = none ∧ H2 = H1) I1 ⟨rfl, rfl⟩) fun vl s2 ⟨l, H2, I2, pl, el, e2⟩ => ?_)
  subst el e2
  refine thn (po_none.run pn s2 τ H2 (fun o H3 => o = none ∧ H3 = H2) I2 ⟨rfl, rfl⟩) fun vu s3 ⟨u, H3, I3, pu, eu, e3⟩ => ?_
  subst eu e3
  refine thn (hst.run pn s3 τ H3 (fun o H4 => o = some (-1) ∧ H4 = H3) I3 ⟨1, rfl, -1, rfl, rfl, rfl⟩) fun vs s4 ⟨o, H4, I4, ps, eo, e4⟩ => ?_
  subst eo e4
  cases pl
  cases pu
  obtain _ | ⟨_, tk⟩ := ps
  have I5 : Inv X pn τ H4 { s4 with heap := s4.heap.push { cls := .type "slice", data := .fields #[.none, .none, .int (-1) tk] } } := I4.kept (t' := s4.toks) fun b ob z => Heap.get?_push_of_some _ z
  obtain ⟨its, r, ht, hz⟩ := I5.tuple hx
  have hlen := r.length
  show wpAny (model X.prog X.w) X.A (subscriptTail e (.Slice none none (some (.UnaryOp .USub (.Constant (.int 1) k p1) p2)) p3) (.ref a) (.ref s4.heap.objs.size)) (EP X pn τ Q) X.xe { s4 with heap := s4.heap.push { cls := .type "slice", data := .fields #[.none, .none, .int (-1) tk] } }
  refine tail_any (ops := [.ref a, .ref s4.heap.objs.size]) ht.typeIs PyProof.Rows.slot_tuple_getitem.lookup ?_ (by with_unfolding_all rfl)
  refine getItem_tup_rev ht (Heap.IsSliceOf.new _ .none .none (.int (-1) tk)) ?_ (by rw [List.size_toArray]; omega)
  have er : its.toArray.toList.reverse.toArray = its.reverse.toArray := by simp
  rw [er]
  refine ⟨.ref _, _, I5.laid (t' := s4.toks) (o := .tup xs.reverse) (fun b ob z => Heap.get?_push_of_some _ z) (Nat.le_refl _) ?_, rfl, q _ (I5.hok.fresh (Nat.le_refl _))⟩
  exact ⟨by rw [List.length_reverse]; exact hz, its.reverse, vals_rev r, ⟨_, Heap.get?_push_size _ rfl, rfl, _, rfl⟩⟩
section
variable {K : PySem.W.Frag} {σ : L2.St} {G : Hp} {te : TE} {ds : List PyData}
theorem ed_revT (h : EvD K te σ G (.tuple ds)) : EvD K (tRevT K te) σ G (.tuple ds.reverse) := fun H s Q q => h H s _ fun v G1 H1 n1 hv => by
  cases hv with
  | @tup a xs _ hs ha =>
    refine ⟨a, xs, rfl, same_tup n1.gh hs, fun p hp => ?_⟩
    have m := Nx.new (o := .tup xs.reverse) n1.gh hp
    exact q _ _ _ (n1.trans m) (.tup (SqT.of upd_same) (dpa_mono m.gg _ (dpa_reverse ha)))
end
/-! ### [.. for i, x in enumerate(t)] -/
section
variable {K : PySem.W.Frag} {σ : L2.St} {G G1 : Hp} {te tl : TE} {ds es : List PyData}
theorem LcI.lay {H1 Hc : Hp} {D T : Addr} {o : HO} (h : LcI K G1 H1 D ds Hc) (hT : Hc T = none) : LcI K G1 H1 D ds (upd Hc T o) := by
  obtain ⟨Gi, acc, n, g, e0, ha⟩ := h.ex
  have hne : D ≠ T := ne_of_none e0 hT
  exact ⟨Gi, acc, n.trans (Nx.lay n.gh hT), g, by rw [upd_ne hne]; exact e0, ha⟩
theorem en_lcEn {i j : Nat} {vs : List Nat} (f : Nat → PyData → PyData) (h : EvD K tl σ G (.tuple ds)) (hw : ∀ v u, wipe (((wipe σ vs).set i (some v)).set j (some u)) vs = wipe σ vs) (hz : ds.length ≤ sizeLine)
    (he : ∀ k d v Gi, ds[k]? = some d → Same G Gi → Dp K Gi v d → EvD K te (((wipe σ vs).set i (some (.int (k : Nat)))).set j (some v)) Gi (f k d)) :
    EvN K (tLc (iEnT K (tCons tl tNil)) (gTup K 2 (gCons (gName i) (gCons (gName j) gNil))) tYes te vs) σ G (ds.mapIdx f) := fun H s Q q =>
  h H s _ fun v G1 H1 n1 hv => by
    cases hv with
    | @tup a xs _ hs ha =>
      refine ⟨a, xs, rfl, same_tup n1.gh hs, fun D hD => ?_⟩
      refine lc_it (walk_enT (K := K) (a := a) (xs := xs)) (fun k Hc => LcI K G1 H1 D ((ds.mapIdx f).take k) Hc) (LcI.start n1.gh hD) (fun k Hc _ p => ?_) (fun k x Hc H' hk p hy => ?_) fun Hc p => ?_
      · obtain ⟨Gi, acc, n, _⟩ := p.ex
        exact same_tup (n1.gh.trans n.hh) hs
      · obtain ⟨T, x1, x2, rfl, hT, rfl, e1, e2⟩ := hy
        cases e1
        obtain ⟨dk, hdk, hdx⟩ := dpa_get ha e2
        have p' := p.lay (o := .tup [.int (k : Nat), x2]) hT
        refine ⟨T, _, rfl, SqT.of upd_same, rfl, _, _, rfl, _, _, rfl, rfl, ?_⟩
        refine ⟨hw _ _, ?_⟩
        have hlt := (List.getElem?_eq_some_iff.mp hdk).1
        refine LcI.turn (b := true) (e := f k dk) hD p' (by rw [List.length_take, List.length_mapIdx]; omega) (fun Gi g => eb_yes) (fun _ Gi g => he k dk x2 Gi hdk (n1.gg.trans g) (dp_mono g _ hdx)) fun H' pq => ?_
        have e3 : (ds.mapIdx f)[k]? = some (f k dk) := by rw [List.getElem?_mapIdx, hdk]; rfl
        rw [List.take_succ, e3]
        exact pq
      · rw [dpa_length ha, List.take_of_length_le (by rw [List.length_mapIdx]; exact Nat.le_refl _)] at p
        exact p.finN n1 hD q
end
end Gw
namespace Gw
open PySem PySem.Spec PyProof.Rows L2
/-! ### repr of data, where no repr is under way -/
def rRepr (K : PySem.W.Frag) : List V → Hp → VK → Prop := fun xs H Q => ∃ v d, xs = [v] ∧ Dp K H v d ∧ d.showable = true ∧ d.hasDict = false ∧ d.shown.length ≤ sizeLine ∧ d.depth ≤ 60 ∧ Q (.str d.shown) H
theorem cr_repr {X : Cx} (hG : X.A.guards = some []) (hu : X.A.units + 64 < cLine) : CallR X (.builtin "repr") (rRepr X.K) := by
  intro pn s τ H xs us Q I r hyp
  obtain ⟨v, d, rfl, hd, h1, h2, h3, h4, q⟩ := hyp
  obtain ⟨u, rfl, rv⟩ : ∃ u, us = [u] ∧ RelV v u := by obtain _ | ⟨r1, _ | _⟩ := r; exact ⟨_, rfl, r1⟩
  have hr := Dp.reads I d v u hd rv
  have go : ∀ (h' : Heap) (t tk : Tok), (∀ b o, s.heap.get? b = some o → h'.get? b = some o) → EP X pn τ Q (.str d.shown t) { s with heap := h', toks := tk } := fun h' t tk k => ⟨.str d.shown, H, I.kept (t' := tk) k, ⟨_, rfl⟩, q⟩
  cases hd with
  | non => cases rv; exact PySem.P.repr_of_none (go s.heap _ _ fun _ _ e => e)
  | bl b => cases rv; exact PySem.P.repr_of_bool (go s.heap _ _ fun _ _ e => e)
  | int i =>
    obtain ⟨t, rfl⟩ := rv
    exact PySem.P.repr_of_int (of_decide_eq_true h1) (go s.heap _ _ fun _ _ e => e)
  | str x =>
    obtain ⟨t, rfl⟩ := rv
    exact PySem.P.repr_of_str (go s.heap _ _ fun _ _ e => e) h3
  | lst hs ha =>
    cases rv
    obtain ⟨as, hr⟩ := hr
    exact PySem.repr_of_reads' hr h1 (fun e => by rw [h2] at e; cases e) hG (by omega) (fun _ _ e => e) (fun h' t tk k => go h' t tk k) h3
  | tup hs ha =>
    cases rv
    obtain ⟨as, hr⟩ := hr
    exact PySem.repr_of_reads' hr h1 (fun e => by rw [h2] at e; cases e) hG (by omega) (fun _ _ e => e) (fun h' t tk k => go h' t tk k) h3
/-- data that may be shown -/
structure Showy (d : PyData) : Prop where
  s : d.showable = true
  n : d.hasDict = false
  z : d.shown.length ≤ sizeLine
  p : d.depth ≤ 60
section
variable {K : PySem.W.Frag} {σ : L2.St} {G : Hp} {te : TE} {d : PyData}
theorem ed_repr (h : EvD K te σ G d) (hd : Showy d) : EvD K (tCB (rRepr K) (tCons te tNil)) σ G (.str d.shown) := fun H s Q q => h H s _ fun v G1 H1 n1 hv =>
  ⟨v, d, rfl, dp_mono n1.gh _ hv, hd.s, hd.n, hd.z, hd.p, q _ G1 H1 n1 (.str _)⟩
end
theorem ro_eqS {K : PySem.W.Frag} {i j : Str} : ROp K rEq (.str i) (.str j) (.bool (decide (i = j))) := fun G H s vx vy hx hy Q q => by
  rw [dp_str hx, dp_str hy]
  refine ⟨rfl, ?_⟩
  have e : decide (V.str i = V.str j) = decide (i = j) := by simp
  rw [e]
  exact q _ G H (Nx.refl s) (.bl _)
theorem ro_neS {K : PySem.W.Frag} {i j : Str} : ROp K rNe (.str i) (.str j) (.bool (!decide (i = j))) := fun G H s vx vy hx hy Q q => by
  rw [dp_str hx, dp_str hy]
  refine ⟨rfl, ?_⟩
  have e : decide (V.str i = V.str j) = decide (i = j) := by simp
  rw [e]
  exact q _ G H (Nx.refl s) (.bl _)

/-! ### the law's own call: told where it is made, so that what runs around is known -/
/-- the law's def, at the place where it is called: its body's reading, the script at a -/
def LawAt (P : Program) (w : World) (K : PySem.W.Frag) (mg : Str → Option Value) (x : Str) (st : Stmt) (N : List Str) (k : Nat) (f : Addr) (fd : FuncData) : Prop :=
  ∃ (S : FnScope N ["script"] (defScope st)), Fun K x x st f fd ∧ Binds K fd ["script"] [] ∧
    ∀ (base : Heap), K.In base → base.Ns mainGlobals mg → ∀ (cdv : Value) (s : Shared) (H : Hp) (a : Addr) (ns : List Int), Room k (callerA.deeper (envOfC x (defScope st) s.heap.objs.size f cdv)) → Only H → SqL K H a (ns.map V.int) → ns.length ≤ 63 →
      ∃ t, PSs (cxOf CX0 P w K mg base N x (defScope st) f cdv callerA [] s H E0).nox (defBody st) t ∧ t { nx := fun _ _ => V.non = V.bl true, rt := fun v _ => v = .bl true } (start N [.ref a]) H
/-- only the script's address may be told of in H -/
def ScriptHp (H : Hp) (a : Addr) (o : Obj) (ns : List Int) : Prop := ∀ b u, H b = some u → b = a ∧ u = .frz o (.lst (ns.map V.int))
theorem law_at {P : Program} {w : World} {K : PySem.W.Frag} {mg mb : Str → Option Value} {x : Str} {st : Stmt} {N : List Str} {k : Nat} {f a : Addr} {fd : FuncData} {s1 : Shared} {vs : List Value} {ns : List Int}
    (KX : K.In s1.heap) (hns : s1.heap.Ns mainGlobals mg) (hb : s1.heap.Ns builtinsNs mb) (hbb : ∀ y : Str, y ≠ "__name__" → mb y = bootBuiltins y) (hlim : s1.heap.NoLimit) (hgen : s1.gens = #[])
    (ha : s1.heap.get? a = some { cls := .type "list", data := .seq vs.toArray }) (hi : IntsAre vs ns) (h63 : ns.length ≤ 63) (hr : Room (k + 1) callerA) (L : LawAt P w K mg x st N k f fd) :
    codeAny (model P w) callerA (.call (.ref f) ⟨[.ref a], []⟩) (fun r s' => r = .ok (.ret (.bool true)) ∧ OldK s1.heap s'.heap ∧ s'.os = s1.os ∧ AllBare s'.gens) s1 := by
  obtain ⟨S, F, B, body⟩ := L
  have rv := vals_ints hi
  have lv := hi.length
  have hz : (ns.map V.int).length ≤ sizeLine := by rw [List.length_map]; exact Nat.le_trans h63 (by decide)
  have main : ∀ H : Hp, ScriptHp H a { cls := .type "list", data := .seq vs.toArray } ns → SqL K H a (ns.map V.int) → (H a ≠ none → K.lookup a = none) →
      codeAny (model P w) callerA (.call (.ref f) ⟨[.ref a], []⟩) (fun r s' => r = .ok (.ret (.bool true)) ∧ OldK s1.heap s'.heap ∧ s'.os = s1.os ∧ AllBare s'.gens) s1 := by
    intro H hH hS hK
    have only : Only H := fun b => by
      cases q : H b with
      | none => exact .inl rfl
      | some u => obtain ⟨_, rfl⟩ := hH b u q; exact .inr ⟨_, _, rfl⟩
    have ok : HOk P w H s1.heap := fun b u q => by
      obtain ⟨rfl, rfl⟩ := hH b u q
      exact ⟨ha, hz, vs, 0, rv, ha⟩
    have out : ∀ {b : Addr} {o : Obj}, s1.heap.get? b = some o → (b = a → H a = none) → (hidT s1.heap H).get? b = some o := fun {b o} e n => hidT_get e (by
      cases q : H b with
      | none => rfl
      | some u =>
        have e2 := (hH b u q).1
        rw [e2, n e2] at q
        cases q)
    have kin : K.In (hidT s1.heap H) := fun b o e => out (KX b o e) fun z => by
      cases q : H a with
      | none => rfl
      | some u =>
        have z2 := hK (by rw [q]; exact fun z => nomatch z)
        rw [z, z2] at e
        cases e
    have nsp : ∀ {b : Addr} {m : Str → Option Value}, s1.heap.Ns b m → (hidT s1.heap H).Ns b m := fun {b m} ⟨o, es, ep, e, d, r⟩ => ⟨o, es, ep, out e (fun z => by
      rw [z, ha] at e
      cases e
      cases d), d, r⟩
    have mod : Mod K mg (hidT s1.heap H) := ⟨kin, nsp hns, ⟨mb, nsp hb, hbb⟩, let ⟨mc, h1, h2⟩ := hlim; ⟨mc, nsp h1, h2⟩⟩
    have e0 : Env0 P w K mg (hidT s1.heap H) callerA [] s1 H := ⟨rfl, mod, fun _ _ e => of_hidT e, Nat.le_of_eq (hidT_size _ _), trivial, fun b z => absurd (show b ∈ ([] : List Addr) from z) List.not_mem_nil, ok, .of_eq hgen⟩
    obtain ⟨oc, od, kV, doc, pm, an, cdv, ct, osl, rfl, lk, hcd⟩ := F.ex
    have bt := B s1 [.ref a] KX rfl
    refine codeAny_mono (LamX.run_ofS (CX := CX0) (Q := fun v _ => v = .bl true) (E := E0) lk hcd S hr e0 bt (.cons rfl .nil : Vals [.ref a] [.ref a]) rfl fun hr2 => ?_) fun r s' hq => ?_
    · obtain ⟨t, h1, h2⟩ := body _ kin (nsp hns) cdv s1 H a ns hr2 only hS h63
      exact ⟨t, h1.nox, h2⟩
    · cases r with
      | error e => exact (show False from hq).elim
      | ok fl =>
        cases fl with
        | next => exact (show False from hq).elim
        | brk => exact (show False from hq).elim
        | cont => exact (show False from hq).elim
        | ret u =>
          obtain ⟨v, H2, hos, bare, un, ok2, ru, e⟩ := hq
          have e : v = .bl true := e
          subst e
          cases ru
          refine ⟨rfl, OldK.of_keep fun b o eb => ?_, hos, bare⟩
          cases q : H b with
          | none => exact un.keep b o eb q (fun z => nomatch z) (fun z => nomatch z)
          | some u =>
            obtain ⟨rfl, rfl⟩ := hH b u q
            obtain ⟨g1, _⟩ := ok _ _ q
            obtain ⟨g2, _⟩ := ok2 _ _ (un.frzs _ _ _ q)
            rw [eb] at g1
            cases g1
            exact g2
  cases hk : K.lookup a with
  | some o =>
    have e := KX a o hk
    rw [ha] at e
    cases e
    exact main (fun _ => none) (fun _ _ z => nomatch z) (.inr ⟨_, vs.toArray, _, hk, rfl, rfl, rfl, by rw [List.size_toArray, lv]; exact Nat.le_trans h63 (by decide), by simpa using rv⟩) (fun z => absurd rfl z)
  | none =>
    refine main (fun b => if b = a then some (.frz { cls := .type "list", data := .seq vs.toArray } (.lst (ns.map V.int))) else none) (fun b u q => ?_) (.inl (.inr ⟨_, if_pos rfl⟩)) fun _ => hk
    have q : (if b = a then some (HO.frz { cls := .type "list", data := .seq vs.toArray } (.lst (ns.map V.int))) else none) = some u := q
    by_cases hba : b = a
    · rw [if_pos hba] at q
      cases q
      exact ⟨hba, rfl⟩
    · rw [if_neg hba] at q
      cases q
end Gw
namespace Gw
open PySem PySem.Spec PyProof.Rows L2
/-- the goal that the head leaves -/
theorem walk_at {l : PySem.W.OpenLaw} {k : Nat} {q : Program} {loose : List Str} {XP : (Str → Option Value) → Heap → Prop} {YP : World → Heap → Prop} {d : DefRec} {K : Params → PySem.W.Frag} {st : Stmt} {N : List Str} (hn : l.most = some 63) (hdf : d.params.defaults = []) (hr : Room (k + 1) callerA)
    (hY : ∀ (w : World) (h : Heap), YP w h → (K w.params).In h)
    (F : ∀ (w : World) (mg : Str → Option Value) (fa : Addr) (h : Heap), (K w.params).In h → h.Ns mainGlobals mg → mg d.name = some (.ref fa) → ∃ fd : FuncData, LawAt l.prog w (K w.params) mg d.name st N k fa fd) :
    PySem.W.WalkO q loose XP YP l.row.toRowW d [] (fun f vs => PySem.call f vs) := by
  refine Att.attach_call hn hdf fun w s0 s1 mg mb fa o pm cd doc a vs ns G Y ho hd hcd hmg hobj hints hlen hg => ?_
  have KX := hY w _ Y
  obtain ⟨fd, L⟩ := F w mg fa _ KX G.T.g hmg
  exact law_at KX G.T.g G.T.b G.T.builtins G.T.nolimit hg hobj hints hlen hr L
end Gw
namespace Gw
open PySem PySem.Spec PyProof.Rows L2
/-! ### the rules with the written part named, so that they stand within a comprehension -/
def rLenQ (K : PySem.W.Frag) : List V → Hp → VK → Prop := fun xs H Q => ∃ p ys, xs = [.ref p] ∧ (SqL K H p ys ∨ SqT K H p ys) ∧ Q (.int ys.length) H
def rListQ (K : PySem.W.Frag) : List V → Hp → VK → Prop := fun xs H Q => ∃ p ys, xs = [.ref p] ∧ (SqL K H p ys ∨ SqT K H p ys) ∧ ∀ l, H l = none → Q (.ref l) (upd H l (.lst ys))
def rTupQ (K : PySem.W.Frag) : List V → Hp → VK → Prop := fun xs H Q => ∃ p ys, xs = [.ref p] ∧ ((SqL K H p ys ∧ ∀ l, H l = none → Q (.ref l) (upd H l (.tup ys))) ∨ (SqT K H p ys ∧ Q (.ref p) H))
section
variable (K : PySem.W.Frag) {X : Cx}
theorem q_len (e : X.K = K) : CallR X (.builtin "len") (rLenQ K) := by subst e; exact call_len_seq
theorem q_list (e : X.K = K) : CallR X (.type "list") (rListQ K) := by subst e; exact call_list_of
theorem q_tuple (e : X.K = K) : CallR X (.type "tuple") (rTupQ K) := by subst e; exact call_tuple_of
theorem q_isi (e : X.K = K) : CallR X (.builtin "isinstance") (rIsi K) := by subst e; exact call_isi
theorem q_all (e : X.K = K) (hc : X.calm = true) : CallR X (.builtin "all") (rAll K) := by subst e; exact cr_all hc
theorem q_any (e : X.K = K) (hc : X.calm = true) : CallR X (.builtin "any") (rAny K) := by subst e; exact cr_any hc
theorem q_min (e : X.K = K) (hc : X.calm = true) : CallR X (.builtin "min") (rMin K) := by subst e; exact cr_min hc
theorem q_repr (e : X.K = K) (hG : X.A.guards = some []) (hu : X.A.units + 64 < cLine) : CallR X (.builtin "repr") (rRepr K) := by subst e; exact cr_repr hG hu
theorem q_ixT (e : X.K = K) : IxR X (rIxT K) := by subst e; exact ix_tup
theorem q_ixL (e : X.K = K) : IxR X (rIxL K) := by subst e; exact ix_list
theorem q_slT (e : X.K = K) : SlR X (rSlA K) := by subst e; exact sl_tupA
theorem q_slL (e : X.K = K) : SlR X (rSlL K) := by subst e; exact sl_list
theorem q_catT (e : X.K = K) : OpR X (binaryOp .Add) (rCatA K) := by subst e; exact op_catA
theorem q_eqD (e : X.K = K) (hu : X.A.units + 64 < cLine) : OpR X (compareOp .Eq) (rEqD K) := by subst e; exact op_eqD hu
theorem q_neD (e : X.K = K) (hu : X.A.units + 64 < cLine) : OpR X (compareOp .NotEq) (rNeD K) := by subst e; exact op_neD hu
theorem q_in (e : X.K = K) : OpR X (compareOp .In) (rIn K false) := by subst e; exact op_in_seq
theorem q_notin (e : X.K = K) : OpR X (compareOp .NotIn) (rIn K true) := by subst e; exact op_notIn_seq
theorem q_gT {es : List Expr} {k : Nat} {pos : Pos} {t : TGs} (n : Nat) (e : X.K = K) (hc : X.calm = true) (h : PGs X es t) (hn : (assignEach es X.env).length = n := by rfl) (hst : (assignEach es X.env).findIdx? (·.1) = none := by rfl) :
    PG X (.Tuple es k pos) (gTup K n t) := by subst e; exact pg_tup hc h hn hst
theorem q_iL {tg l : Expr} {tl : TE} (e : X.K = K) (h : PE X l tl) : PI X tg l (iList K tl) := by subst e; exact pi_list h
theorem q_iT {tg l : Expr} {tl : TE} (e : X.K = K) (h : PE X l tl) : PI X tg l (iTup K tl) := by subst e; exact pi_tup h
theorem q_revT {e : Expr} {te : TE} {k : Nat} {p1 p2 p3 pos : Pos} (ek : X.K = K) (he : PE X e te) : PE X (.Subscript e (.Slice none none (some (.UnaryOp .USub (.Constant (.int 1) k p1) p2)) p3) pos) (tRevT K te) := by subst ek; exact pe_revT he
theorem q_revL {e : Expr} {te : TE} {k : Nat} {p1 p2 p3 pos : Pos} (ek : X.K = K) (he : PE X e te) : PE X (.Subscript e (.Slice none none (some (.UnaryOp .USub (.Constant (.int 1) k p1) p2)) p3) pos) (tRevL K te) := by subst ek; exact pe_revL he
theorem q_iEnT {e : Expr} {ta : TA} {p pos tpos : Pos} {elts : List Expr} {kk : Nat} (ek : X.K = K) (hg : Gl X "enumerate") (hm : X.mg "enumerate" = none) (ha : PA X [e] ta) (hs : starEach [e] X.env = [(false, eval e X.env)] := by rfl) :
    PI X (.Tuple elts kk tpos) (.Call (.Name "enumerate" p) [e] [] pos) (iEnT K ta) := by subst ek; exact pi_enumT hg hm ha hs
theorem q_iEnL {e : Expr} {ta : TA} {p pos tpos : Pos} {elts : List Expr} {kk : Nat} (ek : X.K = K) (hg : Gl X "enumerate") (hm : X.mg "enumerate" = none) (ha : PA X [e] ta) (hs : starEach [e] X.env = [(false, eval e X.env)] := by rfl) :
    PI X (.Tuple elts kk tpos) (.Call (.Name "enumerate" p) [e] [] pos) (iEnum K ta) := by subst ek; exact pi_enum hg hm ha hs
end
end Gw
namespace Gw
open PySem PySem.Spec PyProof.Rows L2
/-! ### the law's draw: a dict of a list, a number, a list, a number -/
def kvD (l c : Addr) (r t : Int) : List (Key × V) := [(.inr "large", .ref l), (.inr "rest", .int r), (.inr "cells", .ref c), (.inr "turn", .int t)]
theorem k_lr : ¬ (Sum.inr "large" : Key) = .inr "rest" := by decide +kernel
theorem k_lc : ¬ (Sum.inr "large" : Key) = .inr "cells" := by decide +kernel
theorem k_lt : ¬ (Sum.inr "large" : Key) = .inr "turn" := by decide +kernel
theorem k_rc : ¬ (Sum.inr "rest" : Key) = .inr "cells" := by decide +kernel
theorem k_rt : ¬ (Sum.inr "rest" : Key) = .inr "turn" := by decide +kernel
theorem k_ct : ¬ (Sum.inr "cells" : Key) = .inr "turn" := by decide +kernel
section
variable {H : Hp} {d l c : Addr} {r t : Int}
theorem vD_large : valV (kvD l c r t) (.inr "large") = some (.ref l) := valV_pos rfl
theorem vD_rest : valV (kvD l c r t) (.inr "rest") = some (.int r) := (valV_neg k_lr).trans (valV_pos rfl)
theorem vD_cells : valV (kvD l c r t) (.inr "cells") = some (.ref c) := (valV_neg k_lc).trans ((valV_neg k_rc).trans (valV_pos rfl))
theorem vD_turn : valV (kvD l c r t) (.inr "turn") = some (.int t) := (valV_neg k_lt).trans ((valV_neg k_rt).trans ((valV_neg k_ct).trans (valV_pos rfl)))
theorem put_some {kvs : List (Key × V)} {k : Key} {v w : V} (h : valV kvs k = some v) : putK kvs k w = kvs.map fun kv => if kv.1 = k then (kv.1, w) else kv := by
  have e := valV_any k kvs
  rw [h] at e
  unfold putK
  rw [e]
  rfl
theorem pD_rest {r' : Int} : putK (kvD l c r t) (.inr "rest") (.int r') = kvD l c r' t := by
  rw [put_some vD_rest]
  simp only [kvD, List.map_cons, List.map_nil, if_neg k_lr, if_neg (fun e => k_rc (Eq.symm e) : ¬ (Sum.inr "cells" : Key) = .inr "rest"), if_neg (fun e => k_rt (Eq.symm e) : ¬ (Sum.inr "turn" : Key) = .inr "rest"), if_true]
theorem pD_turn {t' : Int} : putK (kvD l c r t) (.inr "turn") (.int t') = kvD l c r t' := by
  rw [put_some vD_turn]
  simp only [kvD, List.map_cons, List.map_nil, if_neg k_lt, if_neg k_rt, if_neg k_ct, if_true]
theorem gD_large (h : H d = some (.dK (kvD l c r t))) : DGet H d (.str "large") (some (.ref l)) := by have g := DGet.k (k := .inr "large") h; rw [vD_large] at g; exact g
theorem gD_rest (h : H d = some (.dK (kvD l c r t))) : DGet H d (.str "rest") (some (.int r)) := by have g := DGet.k (k := .inr "rest") h; rw [vD_rest] at g; exact g
theorem gD_cells (h : H d = some (.dK (kvD l c r t))) : DGet H d (.str "cells") (some (.ref c)) := by have g := DGet.k (k := .inr "cells") h; rw [vD_cells] at g; exact g
theorem gD_turn (h : H d = some (.dK (kvD l c r t))) : DGet H d (.str "turn") (some (.int t)) := by have g := DGet.k (k := .inr "turn") h; rw [vD_turn] at g; exact g
theorem uD_rest {r' : Int} (h : H d = some (.dK (kvD l c r t))) : DPut H d (.str "rest") (.int r') (upd H d (.dK (kvD l c r' t))) := by
  have g := DPut.k (k := .inr "rest") (v := .int r') h (by show 4 < sizeLine; decide)
  rw [pD_rest] at g
  exact g
theorem uD_turn {t' : Int} (h : H d = some (.dK (kvD l c r t))) : DPut H d (.str "turn") (.int t') (upd H d (.dK (kvD l c r t'))) := by
  have g := DPut.k (k := .inr "turn") (v := .int t') h (by show 4 < sizeLine; decide)
  rw [pD_turn] at g
  exact g
end
/-- a draw stands at d, its large numbers at l, its cells at c -/
structure Drw (H : Hp) (d l c : Addr) : Prop where
  ne : l ≠ c
  at' : ∃ (r t : Int) (ls cs : List Int), H d = some (.dK (kvD l c r t)) ∧ H l = some (.lst (ls.map V.int)) ∧ H c = some (.lst (cs.map V.int)) ∧ ls.length ≤ 63 ∧ cs.length ≤ 63
/-- what a draw's deed leaves: all but d and l stand as they stood -/
structure Nd (d l : Addr) (H H' : Hp) : Prop where
  hh : ∀ a o, a ≠ d → a ≠ l → H a = some o → H' a = some o
theorem Nd.refl {d l : Addr} {H : Hp} : Nd d l H H := ⟨fun _ _ _ _ h => h⟩
theorem Nd.trans {d l : Addr} {H H1 H2 : Hp} (a : Nd d l H H1) (b : Nd d l H1 H2) : Nd d l H H2 := ⟨fun x o h1 h2 h => b.hh x o h1 h2 (a.hh x o h1 h2 h)⟩
theorem Nd.of {d l : Addr} {H H' : Hp} (s : Same H H') : Nd d l H H' := ⟨fun a o _ _ h => s a o h⟩
theorem Nd.updD {d l : Addr} {H : Hp} {o : HO} : Nd d l H (upd H d o) := ⟨fun a u h1 _ h => by rw [upd_ne h1]; exact h⟩
theorem Nd.updL {d l : Addr} {H : Hp} {o : HO} : Nd d l H (upd H l o) := ⟨fun a u _ h2 h => by rw [upd_ne h2]; exact h⟩
theorem Drw.same {H H' : Hp} {d l c : Addr} (D : Drw H d l c) (s : Same H H') : Drw H' d l c := by
  obtain ⟨r, t, ls, cs, h1, h2, h3, h4, h5⟩ := D.at'
  exact ⟨D.ne, r, t, ls, cs, s _ _ h1, s _ _ h2, s _ _ h3, h4, h5⟩
theorem Drw.dl {H : Hp} {d l c : Addr} (D : Drw H d l c) : d ≠ l ∧ d ≠ c := by
  obtain ⟨r, t, ls, cs, h1, h2, h3, h4, h5⟩ := D.at'
  exact ⟨ne_of h1 h2 (fun z => nomatch z), ne_of h1 h3 (fun z => nomatch z)⟩
/-- the view beside a draw -/
structure Vw (G H : Hp) (d l c : Addr) : Prop where
  gh : Same G H
  gd : G d = none
  gl : G l = none
  gc : G c = none
  dr : Drw H d l c
/-- one deed or many: the view grows by what is new, the draw stands -/
structure Nw (d l c : Addr) (G H G' H' : Hp) : Prop where
  gg : Same G G'
  vw : Vw G' H' d l c
  nd : Nd d l H H'
  fr : ∀ a, H a ≠ none → G' a = G a
theorem Nw.refl {d l c : Addr} {G H : Hp} (v : Vw G H d l c) : Nw d l c G H G H := ⟨Same.refl G, v, Nd.refl, fun _ _ => rfl⟩
theorem Nw.keeps {d l c : Addr} {G H G' H' : Hp} (n : Nw d l c G H G' H') {a : Addr} (h : H a ≠ none) : H' a ≠ none := by
  cases q : H a with
  | none => exact absurd q h
  | some o =>
    by_cases h1 : a = d
    · obtain ⟨r, t, ls, cs, e, _⟩ := n.vw.dr.at'
      rw [h1, e]; exact fun z => nomatch z
    · by_cases h2 : a = l
      · obtain ⟨r, t, ls, cs, _, e, _⟩ := n.vw.dr.at'
        rw [h2, e]; exact fun z => nomatch z
      · rw [n.nd.hh a o h1 h2 q]; exact fun z => nomatch z
theorem Nw.trans {d l c : Addr} {G H G1 H1 G2 H2 : Hp} (a : Nw d l c G H G1 H1) (b : Nw d l c G1 H1 G2 H2) : Nw d l c G H G2 H2 :=
  ⟨a.gg.trans b.gg, b.vw, a.nd.trans b.nd, fun x h => (b.fr x (a.keeps h)).trans (a.fr x h)⟩
theorem Nw.of {d l c : Addr} {G H G' H' : Hp} (v : Vw G H d l c) (n : Nx G H G' H') : Nw d l c G H G' H' := by
  obtain ⟨r, t, ls, cs, h1, h2, h3, h4, h5⟩ := v.dr.at'
  exact ⟨n.gg, ⟨n.gh, (n.fr d (ne_none h1)).trans v.gd, (n.fr l (ne_none h2)).trans v.gl, (n.fr c (ne_none h3)).trans v.gc, v.dr.same n.hh⟩, Nd.of n.hh, n.fr⟩
/-- a deed upon the draw alone -/
theorem Nw.draw {d l c : Addr} {G H H' : Hp} (v : Vw G H d l c) (n : Nd d l H H') (D : Drw H' d l c) : Nw d l c G H G H' :=
  ⟨Same.refl G, ⟨fun a o e => n.hh a o (fun z => by rw [z, v.gd] at e; cases e) (fun z => by rw [z, v.gl] at e; cases e) (v.gh a o e), v.gd, v.gl, v.gc, D⟩, n, fun _ _ => rfl⟩
/-! ### the promises of the draw's defs -/
def spBegun (K : PySem.W.Frag) : Sp := fun vs H Q _ => ∃ (a : Addr) (ns : List Int), vs = [.ref a] ∧ SqL K H a (ns.map V.int) ∧ ns.length ≤ 63 ∧ ∀ d l c H', Same H H' → H d = none → H l = none → H c = none → Drw H' d l c → Q (.ref d) H'
def spMixed : Sp := fun vs H Q _ => ∃ d l c, vs = [.ref d] ∧ Drw H d l c ∧ ∀ i H', Nd d l H H' → Drw H' d l c → Q (.int i) H'
def spTake : Sp := fun vs H Q _ => ∃ d l c n, vs = [.ref d, .int n] ∧ Drw H d l c ∧ 0 < n ∧ n < 1000000000 ∧ ∀ (k : Int) H', 0 ≤ k → k < n → Nd d l H H' → Drw H' d l c → Q (.int k) H'
def spPick (K : PySem.W.Frag) : Sp := fun vs H Q _ => ∃ d l c a xs, vs = [.ref d, .ref a] ∧ Drw H d l c ∧ a ≠ l ∧ SqL K H a xs ∧ 0 < xs.length ∧ xs.length < 1000000 ∧ ∀ v H', v ∈ xs → Nd d l H H' → Drw H' d l c → Q v H'
/-- several ways that meet behind a statement -/
theorem seq_cut {t u : TS} {D : Ends} {σ : L2.St} {H : Hp} (P : L2.St → Hp → Prop) (hu : ∀ σ' H', P σ' H' → u D σ' H') (ht : (∀ σ' H', P σ' H' → u D σ' H') → t { D with nx := u D } σ H) : tSeq t u D σ H := ht hu
theorem seqIx {k n : Nat} (h : k < n) : seqIndex? (k : Int) n = some k := by
  unfold seqIndex?
  simp
  omega
theorem if_off {A B : Hp → Prop} {b : Bool} {H : Hp} (hb : b = false) (h : B H) : if b = true then A H else B H := by
  subst hb
  exact iteF h
theorem if_on {A B : Hp → Prop} {b : Bool} {H : Hp} (hb : b = true) (h : A H) : if b = true then A H else B H := by
  subst hb
  exact iteT h
theorem fmod_in {i j : Int} (h : 0 < j) : 0 ≤ i.fmod j ∧ i.fmod j < j := by
  rw [Int.fmod_eq_emod_of_nonneg _ (Int.le_of_lt h)]
  exact ⟨Int.emod_nonneg _ (by omega), Int.emod_lt_of_pos _ h⟩
theorem abs_if (i : Int) : (if i < 0 then -i else i) = ((i.natAbs : Nat) : Int) := by
  split <;> omega
end Gw
namespace Gw
open PySem PySem.Spec PyProof.Rows L2
theorem k_rl : ¬ (Sum.inr "rest" : Key) = .inr "large" := fun e => k_lr e.symm
theorem merge_kvD (l c : Addr) (r t : Int) : mergeK [] (kvD l c r t) = kvD l c r t := by
  unfold mergeK kvD
  simp only [List.foldl_cons, List.foldl_nil]
  rw [putK_new (kvs := []) _ valV_nil]
  rw [putK_new (kvs := [] ++ [_]) _ ((valV_neg (show ¬ (Sum.inr "large" : Key) = .inr "rest" from k_lr)).trans valV_nil)]
  rw [putK_new (kvs := [] ++ [_] ++ [_]) _ ((valV_neg k_lc).trans ((valV_neg k_rc).trans valV_nil))]
  rw [putK_new (kvs := [] ++ [_] ++ [_] ++ [_]) _ ((valV_neg k_lt).trans ((valV_neg k_rt).trans ((valV_neg k_ct).trans valV_nil)))]
  rfl
/-- ints told one by one -/
theorem ints_get {xs : List Int} {i : Nat} {v : V} (h : (xs.map V.int)[i]? = some v) : ∃ n, xs[i]? = some n ∧ v = .int n := by
  rw [List.getElem?_map] at h
  cases e : xs[i]? with
  | none => rw [e] at h; cases h
  | some n => rw [e] at h; exact ⟨n, rfl, (Option.some.inj h).symm⟩
theorem shaped_ints (zs : List Int) : SeqAt.shaped (.list (zs.map .int)) = true := by
  have e1 : ∀ zs : List Int, PyData.canLayAll0 (zs.map .int) = true := fun zs => by
    induction zs with
    | nil => rfl
    | cons z zs ih => rw [List.map_cons, PyData.canLayAll0, ih]; rfl
  have e2 : ∀ zs : List Int, PyData.depthAll (zs.map .int) = 0 := fun zs => by
    induction zs with
    | nil => rfl
    | cons z zs ih => rw [List.map_cons, PyData.depthAll, ih]; rfl
  unfold SeqAt.shaped
  rw [Bool.and_eq_true]
  refine ⟨?_, decide_eq_true ?_⟩
  · rw [PyData.canLay0]; exact e1 zs
  · rw [PyData.depth, e2 zs]; decide
theorem shaped_intsT (zs : List Int) : SeqAt.shaped (.tuple (zs.map .int)) = true := by
  have e1 : ∀ zs : List Int, PyData.canLayAll0 (zs.map .int) = true := fun zs => by
    induction zs with
    | nil => rfl
    | cons z zs ih => rw [List.map_cons, PyData.canLayAll0, ih]; rfl
  have e2 : ∀ zs : List Int, PyData.depthAll (zs.map .int) = 0 := fun zs => by
    induction zs with
    | nil => rfl
    | cons z zs ih => rw [List.map_cons, PyData.depthAll, ih]; rfl
  unfold SeqAt.shaped
  rw [Bool.and_eq_true]
  refine ⟨?_, decide_eq_true ?_⟩
  · rw [PyData.canLay0]; exact e1 zs
  · rw [PyData.depth, e2 zs]; decide
/-- left != [] -/
theorem ne_nil {K : PySem.W.Frag} {σ : L2.St} {H : Hp} {i : Nat} {p : Addr} {zs : List Int} {Q : V → Hp → Prop} (hσ : σ[i]? = some (some (.ref p))) (hp : H p = some (.lst (zs.map V.int)))
    (q : ∀ H', Same H H' → (∀ a, a ≠ p → H' a ≠ H a → H a = none) → Q (.bl (!zs.isEmpty)) H') : tOp (rNeD K) (tVar i) (tLst tNil) σ H Q := by
  refine ⟨_, hσ, Nat.zero_le _, fun x hx => ?_⟩
  have hpx : p ≠ x := ne_of_none hp hx
  have s : Same H (upd H x (.lst [])) := fun a o e => by rw [upd_ne (ne_of_none e hx)]; exact e
  refine ⟨.list (zs.map .int), .list [], .lst (SqL.of (s _ _ hp)) (dpa_ints zs), .lst (SqL.of upd_same) .nil, shaped_ints zs, by decide, ?_⟩
  have e : (!PyData.eqv (.list (zs.map .int)) (.list [])) = !zs.isEmpty := by
    cases zs with
    | nil => rfl
    | cons z zs => rfl
  rw [e]
  refine q _ s fun a h1 h2 => ?_
  by_cases hax : a = x
  · rw [hax]; exact hx
  · rw [upd_ne hax] at h2; exact absurd rfl h2
theorem seq_asg {te : TE} {i : Nat} {u : TS} {D : Ends} {σ : L2.St} {H : Hp} (h : te σ H fun x H1 => u D (σ.set i (some x)) H1) : tSeq (tAsg te (gName i)) u D σ H := h
theorem tp_c {k : V} {tv : TE} {trs : List (TE × TE)} {σ : L2.St} {H : Hp} {Q : List (V × V) → Hp → Prop} (h : tv σ H fun v H2 => tPairs trs σ H2 fun ps H3 => Q ((k, v) :: ps) H3) : tPairs ((tC k, tv) :: trs) σ H Q := h
theorem tp_cc {k v : V} {trs : List (TE × TE)} {σ : L2.St} {H : Hp} {Q : List (V × V) → Hp → Prop} (h : tPairs trs σ H fun ps H3 => Q ((k, v) :: ps) H3) : tPairs ((tC k, tC v) :: trs) σ H Q := h
theorem tyes {σ : L2.St} {H : Hp} {A B : Hp → Prop} (h : A H) : tYes σ H fun b H3 => if b = true then A H3 else B H3 := h
theorem map_eraseIdx {α β : Type} (f : α → β) : ∀ (l : List α) (j : Nat), (l.map f).eraseIdx j = (l.eraseIdx j).map f
  | [], _ => rfl
  | _ :: _, 0 => rfl
  | a :: l, j + 1 => by
    show f a :: (l.map f).eraseIdx j = f a :: (l.eraseIdx j).map f
    rw [map_eraseIdx f l j]
theorem erase_perm {α : Type} : ∀ (l : List α) (j : Nat) (h : j < l.length), (l[j] :: l.eraseIdx j).Perm l
  | a :: l, 0, _ => List.Perm.refl _
  | a :: l, j + 1, h => by
    have h' : j < l.length := by rw [List.length_cons] at h; omega
    show (l[j] :: a :: l.eraseIdx j).Perm (a :: l)
    exact (List.Perm.swap a l[j] _).trans ((erase_perm l j h').cons a)
/-! ### promises of the law's makers -/
def spShuf (K : PySem.W.Frag) : Sp := fun vs H Q _ => ∃ (d l c a : Addr) (ns : List Int), vs = [.ref d, .ref a] ∧ Drw H d l c ∧ SqL K H a (ns.map V.int) ∧ ns.length ≤ 63 ∧
  ∀ (p : Addr) (ms : List Int) (H' : Hp), ms.Perm ns → H p = none → H' p = some (.lst (ms.map V.int)) → Nd d l H H' → Drw H' d l c → Q (.ref p) H'
/-- letters and what undoes them -/
structure IsBk (bs : List Int) : Prop where
  two : 2 ≤ bs.length
  six : bs.length ≤ 12
  inv : ∀ k : Nat, k < bs.length → ∃ j : Nat, bs[k]? = some (j : Int) ∧ bs[j]? = some (k : Int)
def spBack : Sp := fun vs H Q _ => ∃ d l c, vs = [.ref d] ∧ Drw H d l c ∧ ∀ (p : Addr) (bs : List Int) (H' : Hp), IsBk bs → bs.length ≤ 6 → H p = none → H' p = some (.tup (bs.map V.int)) → Nd d l H H' → Drw H' d l c → Q (.ref p) H'
def Letters (n : Nat) (ws : List Int) : Prop := ∀ x ∈ ws, 0 ≤ x ∧ x < (n : Int)
def spWord (K : PySem.W.Frag) : Sp := fun vs H Q _ => ∃ (d l c b : Addr) (xs : List V) (m : Int), vs = [.ref d, .ref b, .int m] ∧ Drw H d l c ∧ SqT K H b xs ∧ 0 < xs.length ∧ xs.length < 1000 ∧ 0 ≤ m ∧ m < 100000 ∧
  ∀ (p : Addr) (ws : List Int) (H' : Hp), (ws.length : Int) ≤ m → Letters xs.length ws → H p = none → H' p = some (.tup (ws.map V.int)) → Nd d l H H' → Drw H' d l c → Q (.ref p) H'
theorem Nd.seqT {K : PySem.W.Frag} {d l c b : Addr} {H H' : Hp} {xs : List V} (n : Nd d l H H') (D : Drw H d l c) (h : SqT K H b xs) : SqT K H' b xs := by
  obtain ⟨r, t, ls, cs, h1, h2, h3, h4, h5⟩ := D.at'
  rcases h with (e | ⟨o, e⟩) | e
  · exact SqT.of (n.hh b _ (ne_of e h1 (fun z => nomatch z)) (ne_of e h2 (fun z => nomatch z)) e)
  · exact .inl (.inr ⟨o, n.hh b _ (ne_of e h1 (fun z => nomatch z)) (ne_of e h2 (fun z => nomatch z)) e⟩)
  · exact .inr e
theorem Drw.upd {d l c p : Addr} {H : Hp} {o : HO} (D : Drw H d l c) (h1 : p ≠ d) (h2 : p ≠ l) (h3 : p ≠ c) : Drw (L2.upd H p o) d l c := by
  obtain ⟨r, t, ls, cs, e1, e2, e3, h4, h5⟩ := D.at'
  exact ⟨D.ne, r, t, ls, cs, by rw [upd_ne (Ne.symm h1)]; exact e1, by rw [upd_ne (Ne.symm h2)]; exact e2, by rw [upd_ne (Ne.symm h3)]; exact e3, h4, h5⟩
/-- an address that is new is none of the draw's -/
theorem Drw.off {d l c p : Addr} {H : Hp} (D : Drw H d l c) (hp : H p = none) : p ≠ d ∧ p ≠ l ∧ p ≠ c := by
  obtain ⟨r, t, ls, cs, e1, e2, e3, h4, h5⟩ := D.at'
  exact ⟨Ne.symm (ne_of_none e1 hp), Ne.symm (ne_of_none e2 hp), Ne.symm (ne_of_none e3 hp)⟩
end Gw
namespace Gw
open PySem PySem.Spec PyProof.Rows L2
/-! ### letters that are paired off -/
abbrev vN (l : List Nat) : List V := l.map fun (k : Nat) => V.int (k : Int)
theorem vN_ints (l : List Nat) : vN l = (l.map fun (k : Nat) => (k : Int)).map V.int := by rw [List.map_map]; rfl
theorem vN_last (l : List Nat) (x : Nat) : (vN (l ++ [x]))[(vN (l ++ [x])).length - 1]? = some (V.int (x : Int)) := by
  have e : (vN (l ++ [x])).length - 1 = (vN l).length := by simp [vN]
  rw [e]
  simp [vN]
theorem vN_drop (l : List Nat) (x : Nat) : (vN (l ++ [x])).dropLast = vN l := by simp [vN]
theorem last_of {α : Type} (l : List α) (h : l ≠ []) : ∃ m x, l = m ++ [x] := ⟨l.dropLast, l.getLast h, (List.dropLast_concat_getLast h).symm⟩
structure Pr (n : Nat) (L : List Nat) (fnd : List Int) : Prop where
  nd : L.Nodup
  lt : ∀ x ∈ L, x < n
  len : fnd.length = n
  inv : ∀ k, k < n → k ∉ L → ∃ j, j < n ∧ j ∉ L ∧ fnd[k]? = some (j : Int) ∧ fnd[j]? = some (k : Int)
theorem Pr.pair {n : Nat} {L L' : List Nat} {fnd : List Int} {x y : Nat} (P : Pr n L fnd) (hx : x ∈ L) (hy : y ∈ L) (hn : L'.Nodup) (hm : ∀ z, z ∈ L' ↔ z ∈ L ∧ z ≠ x ∧ z ≠ y) : Pr n L' ((fnd.set x (y : Int)).set y (x : Int)) := by
  have xl := P.lt x hx
  have yl := P.lt y hy
  have atY : ((fnd.set x (y : Int)).set y (x : Int))[y]? = some (x : Int) := by
    rw [List.getElem?_set_self (by rw [List.length_set, P.len]; exact yl)]
  have atX : ((fnd.set x (y : Int)).set y (x : Int))[x]? = some (y : Int) := by
    by_cases e : x = y
    · subst e; exact atY
    · rw [List.getElem?_set_ne (Ne.symm e), List.getElem?_set_self (by rw [P.len]; exact xl)]
  have other : ∀ k, k ≠ x → k ≠ y → ((fnd.set x (y : Int)).set y (x : Int))[k]? = fnd[k]? := fun k h1 h2 => by
    rw [List.getElem?_set_ne (Ne.symm h2), List.getElem?_set_ne (Ne.symm h1)]
  refine ⟨hn, fun z hz => P.lt z ((hm z).mp hz).1, by rw [List.length_set, List.length_set, P.len], fun k hk hkL => ?_⟩
  have hxL : x ∉ L' := fun z => ((hm x).mp z).2.1 rfl
  have hyL : y ∉ L' := fun z => ((hm y).mp z).2.2 rfl
  by_cases h1 : k = x
  · subst h1; exact ⟨y, yl, hyL, atX, atY⟩
  by_cases h2 : k = y
  · subst h2; exact ⟨x, xl, hxL, atY, atX⟩
  have hkL2 : k ∉ L := fun z => hkL ((hm k).mpr ⟨z, h1, h2⟩)
  obtain ⟨j, j1, j2, j3, j4⟩ := P.inv k hk hkL2
  have n1 : j ≠ x := fun z => j2 (z ▸ hx)
  have n2 : j ≠ y := fun z => j2 (z ▸ hy)
  exact ⟨j, j1, fun z => j2 ((hm j).mp z).1, by rw [other k h1 h2]; exact j3, by rw [other j n1 n2]; exact j4⟩
theorem Pr.done {n : Nat} {fnd : List Int} (P : Pr n [] fnd) (h2 : 2 ≤ n) (h12 : n ≤ 12) : IsBk fnd :=
  ⟨by rw [P.len]; exact h2, by rw [P.len]; exact h12, fun k hk => by
    obtain ⟨j, _, _, j3, j4⟩ := P.inv k (by rw [← P.len]; exact hk) List.not_mem_nil
    exact ⟨j, j3, j4⟩⟩
theorem Pr.start {n : Nat} {L : List Nat} (p : L.Perm (List.range n)) : Pr n L (List.replicate n 0) :=
  ⟨p.nodup_iff.mpr List.nodup_range, fun x hx => List.mem_range.mp (p.mem_iff.mp hx), List.length_replicate, fun k hk hkL => absurd (p.mem_iff.mpr (List.mem_range.mpr hk)) hkL⟩
theorem perm_nats {n : Nat} {ms : List Int} (p : ms.Perm ((List.range n).map fun (k : Nat) => (k : Int))) : ∃ L : List Nat, ms = L.map (fun (k : Nat) => (k : Int)) ∧ L.Perm (List.range n) := by
  refine ⟨ms.map Int.toNat, ?_, ?_⟩
  · rw [List.map_map]
    refine (List.map_id ms).symm.trans (List.map_congr_left fun x hx => ?_)
    obtain ⟨k, _, e⟩ := List.mem_map.mp (p.mem_iff.mp hx)
    rw [← e]; rfl
  · refine (p.map Int.toNat).trans ?_
    rw [List.map_map]
    have : (List.range n).map (Int.toNat ∘ fun (k : Nat) => (k : Int)) = List.range n := (List.map_congr_left fun x _ => rfl).trans (List.map_id _)
    rw [this]
theorem ix_nat {n k : Nat} (h : k < n) : ixN n (k : Int) = some k := by
  unfold ixN
  rw [if_pos (by omega), if_pos (by omega), Int.toNat_natCast]
end Gw
namespace Gw
open PySem PySem.Spec PyProof.Rows L2
/-! ### letters, in plain words -/
def isIntK : PyData → Bool | .int _ => true | .bool _ => true | _ => false
def isBoolK : PyData → Bool | .bool _ => true | _ => false
def isTupK : PyData → Bool | .tuple _ => true | _ => false
def isNum : PyData → Bool | .int _ => true | _ => false
def inR (lo hi : Int) : PyData → Bool | .int i => decide (lo ≤ i) && decide (i ≤ hi) | _ => false
def isRow (n : Int) : PyData → Bool | .tuple ds => ds.all (inR 0 (n - 1)) | _ => false
def isShort (n m : Int) : PyData → Bool | .tuple ds => decide ((ds.length : Int) ≤ m) && ds.all (inR 0 (n - 1)) | _ => false
def toI : PyData → Int | .int i => i | _ => 0
theorem kit_int : ∀ x : PyData, kitB (tyOf x) "int" = some (isIntK x)
  | .none => (by decide +kernel : kitB "NoneType" "int" = some false)
  | .bool _ => (by decide +kernel : kitB "bool" "int" = some true)
  | .int _ => (by decide +kernel : kitB "int" "int" = some true)
  | .str _ => (by decide +kernel : kitB "str" "int" = some false)
  | .list _ => (by decide +kernel : kitB "list" "int" = some false)
  | .tuple _ => (by decide +kernel : kitB "tuple" "int" = some false)
  | .dict _ => (by decide +kernel : kitB "dict" "int" = some false)
theorem kit_bool : ∀ x : PyData, kitB (tyOf x) "bool" = some (isBoolK x)
  | .none => (by decide +kernel : kitB "NoneType" "bool" = some false)
  | .bool _ => (by decide +kernel : kitB "bool" "bool" = some true)
  | .int _ => (by decide +kernel : kitB "int" "bool" = some false)
  | .str _ => (by decide +kernel : kitB "str" "bool" = some false)
  | .list _ => (by decide +kernel : kitB "list" "bool" = some false)
  | .tuple _ => (by decide +kernel : kitB "tuple" "bool" = some false)
  | .dict _ => (by decide +kernel : kitB "dict" "bool" = some false)
theorem kit_tup : ∀ x : PyData, kitB (tyOf x) "tuple" = some (isTupK x)
  | .none => (by decide +kernel : kitB "NoneType" "tuple" = some false)
  | .bool _ => (by decide +kernel : kitB "bool" "tuple" = some false)
  | .int _ => (by decide +kernel : kitB "int" "tuple" = some false)
  | .str _ => (by decide +kernel : kitB "str" "tuple" = some false)
  | .list _ => (by decide +kernel : kitB "list" "tuple" = some false)
  | .tuple _ => (by decide +kernel : kitB "tuple" "tuple" = some true)
  | .dict _ => (by decide +kernel : kitB "dict" "tuple" = some false)
/-- a tuple that may stand in memory -/
def Sized : PyData → Prop | .tuple ds => ds.length ≤ sizeLine | _ => True
def bkAt (ds : List PyData) (k : Nat) (d : PyData) : Bool := PyData.eqv (ds.getD (toI d).toNat .none) (.int (k : Int))
def isBackD : PyData → Bool
  | .tuple ds => decide (2 ≤ ds.length) && decide (ds.length ≤ 12) && (ds.all (inR 0 ((ds.length : Int) - 1)) && (ds.mapIdx (bkAt ds)).all id)
  | _ => false
theorem not_t {b : Bool} (h : (!b) = true) : b = false := by cases b <;> first | rfl | cases h
theorem not_f {b : Bool} (h : (!b) = false) : b = true := by cases b <;> first | rfl | cases h
theorem shaped_int (i : Int) : SeqAt.shaped (.int i) = true := by simp [SeqAt.shaped, PyData.canLay0, PyData.depth]
theorem mapIdx_then {α β γ : Type} (f : Nat → α → β) (g : β → γ) (l : List α) : (l.mapIdx f).map g = l.mapIdx fun i a => g (f i a) := by
  refine List.ext_getElem? fun i => ?_
  rw [List.getElem?_map, List.getElem?_mapIdx, List.getElem?_mapIdx, Option.map_map]
  rfl
theorem inR_int {lo hi : Int} {d : PyData} (h : inR lo hi d = true) : ∃ i, d = .int i ∧ lo ≤ i ∧ i ≤ hi := by
  cases d with
  | int i =>
    have h : (decide (lo ≤ i) && decide (i ≤ hi)) = true := h
    rw [Bool.and_eq_true, decide_eq_true_eq, decide_eq_true_eq] at h
    exact ⟨i, rfl, h.1, h.2⟩
  | _ => cases h
theorem all_inR {n : Nat} {ws : List Int} (h : Letters n ws) : (ws.map PyData.int).all (inR 0 ((n : Int) - 1)) = true := by
  rw [List.all_eq_true]
  intro d hd
  obtain ⟨x, hx, rfl⟩ := List.mem_map.mp hd
  have := h x hx
  show (decide (0 ≤ x) && decide (x ≤ (n : Int) - 1)) = true
  rw [decide_eq_true this.1, decide_eq_true (by omega)]
  rfl
theorem IsBk.letters {bs : List Int} (B : IsBk bs) : Letters bs.length bs := by
  intro x hx
  obtain ⟨k, hk, e⟩ := List.mem_iff_getElem.mp hx
  obtain ⟨j, j1, j2⟩ := B.inv k hk
  rw [List.getElem?_eq_getElem hk, e] at j1
  have hj := (List.getElem?_eq_some_iff.mp j2).1
  have := Option.some.inj j1
  omega
theorem IsBk.is {bs : List Int} (B : IsBk bs) : isBackD (.tuple (bs.map .int)) = true := by
  show (decide (2 ≤ (bs.map PyData.int).length) && decide ((bs.map PyData.int).length ≤ 12) && ((bs.map PyData.int).all (inR 0 (((bs.map PyData.int).length : Int) - 1)) && ((bs.map PyData.int).mapIdx (bkAt (bs.map PyData.int))).all id)) = true
  rw [List.length_map, decide_eq_true B.two, decide_eq_true B.six, all_inR B.letters]
  simp only [Bool.true_and, List.all_eq_true]
  intro b hb
  obtain ⟨k, hk, e⟩ := List.mem_iff_getElem.mp hb
  rw [List.length_mapIdx, List.length_map] at hk
  rw [List.getElem_mapIdx, List.getElem_map] at e
  obtain ⟨j, j1, j2⟩ := B.inv k hk
  rw [List.getElem?_eq_getElem hk] at j1
  have e1 : bs[k] = (j : Int) := Option.some.inj j1
  rw [← e]
  show PyData.eqv ((bs.map PyData.int).getD (toI (.int bs[k])).toNat .none) (.int (k : Int)) = true
  rw [e1]
  show PyData.eqv ((bs.map PyData.int).getD j .none) (.int (k : Int)) = true
  rw [List.getD_eq_getElem?_getD, List.getElem?_map, j2]
  show ((k : Int) == (k : Int)) = true
  exact beq_self_eq_true _
/-! ### neighbours taken out -/
def frSt (bs : List Int) (left : List Int) (x : Int) : List Int := if left ≠ [] ∧ left.getLast? = bs[x.toNat]? then left.dropLast else left ++ [x]
def frI (bs ws : List Int) : List Int := ws.foldl (frSt bs) []
theorem frI_take {bs ws : List Int} {i : Nat} {x : Int} (h : ws[i]? = some x) : frI bs (ws.take (i + 1)) = frSt bs (frI bs (ws.take i)) x := by
  unfold frI
  rw [List.take_succ, h, List.foldl_append]
  rfl
theorem frSt_len {bs left : List Int} {x : Int} : (frSt bs left x).length ≤ left.length + 1 := by
  unfold frSt
  split
  · rw [List.length_dropLast]; omega
  · rw [List.length_append]; exact Nat.le_refl _
theorem frI_len (bs : List Int) : ∀ (ws left : List Int), (ws.foldl (frSt bs) left).length ≤ left.length + ws.length
  | [], _ => Nat.le_refl _
  | x :: ws, left => by
    rw [List.foldl_cons, List.length_cons]
    have h1 := frI_len bs ws (frSt bs left x)
    have h2 := frSt_len (bs := bs) (left := left) (x := x)
    omega
theorem frSt_let {bs left : List Int} {x : Int} {n : Nat} (h : Letters n left) (hx : 0 ≤ x ∧ x < (n : Int)) : Letters n (frSt bs left x) := by
  unfold frSt
  split
  · exact fun y hy => h y ((List.dropLast_sublist left).subset hy)
  · intro y hy
    rcases List.mem_append.mp hy with hy | hy
    · exact h y hy
    · rw [List.mem_singleton.mp hy]; exact hx
theorem frI_let {bs : List Int} {n : Nat} : ∀ (ws left : List Int), Letters n left → Letters n ws → Letters n (ws.foldl (frSt bs) left)
  | [], _, h, _ => h
  | x :: ws, left, h, hw => by
    rw [List.foldl_cons]
    exact frI_let ws _ (frSt_let h (hw x List.mem_cons_self)) fun y hy => hw y (List.mem_cons_of_mem _ hy)
end Gw
namespace Gw
open PySem PySem.Spec PyProof.Rows L2
/-! ### min by a key that is a def: its length and itself, of rows of ints -/
/-- the promise of the key -/
def spRank (K : PySem.W.Frag) : Sp := fun vs H Q _ => ∃ (a : Addr) (xs : List V), vs = [.ref a] ∧ SqT K H a xs ∧ ∀ p, H p = none → Q (.ref p) (upd H p (.tup [.int xs.length, .ref a]))
def keyD (r : List Int) : PyData := .tuple [.int r.length, .tuple (r.map .int)]
def btR (rows : Nat → List Int) (i j : Nat) : Bool := PySem.W.dataLt (keyD (rows i)) (keyD (rows j))
def only1 (H : Hp) (r : Addr) : Hp := fun b => if b = r then H b else none
theorem only1_ne {H : Hp} {r b : Addr} (h : b ≠ r) : only1 H r b = none := if_neg h
theorem only1_same {H : Hp} {r : Addr} : only1 H r r = H r := if_pos rfl
theorem only1_none {H : Hp} {r b : Addr} (h : H b = none) : only1 H r b = none := by
  unfold only1
  split
  · exact h
  · rfl
theorem only1_le {H : Hp} {r b : Addr} {o : HO} (h : only1 H r b = some o) : b = r ∧ H b = some o := by
  unfold only1 at h
  split at h
  · exact ⟨by assumption, h⟩
  · cases h
theorem only1_tup {K : PySem.W.Frag} {H : Hp} {r : Addr} {xs : List V} (h : SqT K H r xs) : SqT K (only1 H r) r xs := by
  unfold SqT Rd at h ⊢
  rw [only1_same]
  exact h
section
variable {X : Cx} {pins : List (Addr × Obj)} {σ : L2.St} {H : Hp} {s : Shared} {f : Addr} {fd : FuncData} {ps : List Str} {k : Nat}
theorem tup_obj (I : Inv X pins σ H s) {r : Addr} {xs : List V} {u : HO} (h : SqT X.K H r xs) (e : H r = some u) : u = .tup xs ∨ ∃ o, u = .frz o (.tup xs) := by
  rcases h with (h | ⟨o, h⟩) | ⟨o, its, n, hk, _⟩
  · rw [e] at h; exact .inl (Option.some.inj h)
  · rw [e] at h; exact .inr ⟨o, Option.some.inj h⟩
  · have := (I.bs r o (I.ok.mod.kin r o hk)).2
    rw [e] at this; cases this
theorem only1_hok (I : Inv X pins σ H s) {r : Addr} {xs : List V} (h : SqT X.K H r xs) : HOk X.prog X.w (only1 H r) s.heap := fun b u e => by
  obtain ⟨rfl, e1⟩ := only1_le e
  have ok := I.hok b u e1
  rcases tup_obj I h e1 with rfl | ⟨o, rfl⟩
  · exact ok
  · exact ok
/-- the key is asked of one item: all else stands -/
theorem key_turn (F : FnOk X.prog X.w X.K X.mg X.base CX0 k f fd ps (spRank X.K)) (hb : Binds X.K fd ps []) (hr : Room k X.A.in1) (I : Inv X pins σ H s) {r : Addr} {ns : List Int} (h : SqT X.K H r (ns.map V.int)) {Q E : Value → Shared → Prop}
    (q : ∀ (p : Addr) (t : Tok) (s' : Shared), Inv X pins σ H s' → s.heap.get? p = none → IsTup s'.heap p #[.int ns.length t, .ref r] → (∀ b o, b ≠ r → s.heap.get? b = some o → ∃ sl, s'.heap.get? b = some { o with slots := sl }) →
      (∀ b o, H b = none → s.heap.get? b = some o → ∃ sl, s'.heap.get? b = some { o with slots := sl }) → (∀ b o, H b = none → b ∉ frs X.stack → s.heap.get? b = some o → s'.heap.get? b = some o) → Q (.ref p) s') :
    wpAny (model X.prog X.w) X.A.in1 (call (.ref f) [.ref r]) Q E s := by
  have e0 := I.env0.in1
  have e1 : Env0 X.prog X.w X.K X.mg X.base X.A.in1 X.stack s (only1 H r) := ⟨e0.frames, e0.mod, fun b o e => ⟨(e0.bs b o e).1, only1_none (e0.bs b o e).2⟩, e0.bsz, e0.funs, fun b hb => only1_none (e0.frf b hb), only1_hok I h, e0.bare⟩
  let Qc : VK := fun v H' => ∃ p, v = .ref p ∧ only1 H r p = none ∧ H' = upd (only1 H r) p (.tup [.int (ns.map V.int).length, .ref r])
  have hs : spRank X.K [.ref r] (only1 H r) Qc (fun _ _ _ => False) := ⟨r, ns.map V.int, rfl, only1_tup h, fun p hp => ⟨p, rfl, hp, rfl⟩⟩
  have hl : ([Value.ref r] ++ []).length = ps.length := (F.len _ _ _ _ hs)
  have rr0 : Vals [V.ref r] ([Value.ref r] ++ []) := .cons rfl .nil
  refine wpAny_call (codeAny_mono (F.run X.A.in1 X.stack s (only1 H r) ⟨[.ref r], []⟩ ([Value.ref r] ++ []) [.ref r] Qc (fun _ _ _ => False) hr e1 (hb s [.ref r] I.kIn hl) rr0 hs) fun rr s' hq => ?_)
  cases rr with
  | error e => exact False.elim hq
  | ok fl =>
    cases fl with
    | next => exact False.elim hq
    | brk => exact False.elim hq
    | cont => exact False.elim hq
    | ret u =>
      obtain ⟨v', H', os, bare, un, hok, rv, p, rfl, hp, rfl⟩ := (show CE X.stack X.prog X.w (only1 H r) s Qc u s' from hq)
      cases rv
      have np : s.heap.get? p = none := by
        cases z : s.heap.get? p with
        | none => rfl
        | some o =>
          have := un.free p o z hp (by simp)
          rw [upd_same] at this; cases this
      have hHp : H p = none := I.hok.gone np
      have slots : ∀ b o, only1 H r b = none → s.heap.get? b = some o → ∃ sl, s'.heap.get? b = some { o with slots := sl } := fun b o n e => un.any e n (by simp)
      have keep : ∀ b o, only1 H r b = none → b ∉ frs X.stack → s.heap.get? b = some o → s'.heap.get? b = some o := fun b o n hf e => un.keep b o e n hf (by simp)
      have hok2 : HOk X.prog X.w H s'.heap := fun b u e => by
        by_cases hbr : b = r
        · subst hbr
          have e2 : only1 H b b = some u := only1_same.trans e
          have pb : b ≠ p := fun z => by rw [z] at e; rw [hHp] at e; cases e
          rcases tup_obj I h e with rfl | ⟨o, rfl⟩
          · exact hok b _ ((upd_ne pb).trans e2)
          · exact hok b _ ((upd_ne pb).trans e2)
        · refine (I.hok b u e).stay (fun c v hc z => keep c v ?_ ?_ z) (fun _ z => z) fun _ _ z => z
          · rcases hc with z | z
            · rw [z]; exact only1_ne hbr
            · refine only1_ne fun z2 => ?_
              subst z2
              rcases tup_obj I h z with z3 | ⟨o, z3⟩
              · cases z3
              · cases z3
          · intro z2
            have := I.stkFree c z2
            rcases hc with z | z
            · rw [z, e] at this; cases this
            · rw [z] at this; cases this
      have I2 : Inv X pins σ H s' := I.call' os ⟨fun b o e n hf hx => un.keep b o e (only1_none n) hf hx, fun b o e n hf hx => un.slot b o e (only1_none n) hf hx, fun b o e n _ => n, fun b o e hx => un.there b o e hx, fun _ _ z => z, fun _ _ _ z => z, fun _ ps' z => ⟨#[], by rw [z]; simp⟩⟩ hok2 bare (fun b z => absurd z (by simp))
      obtain ⟨_, its, rits, pt⟩ := hok p _ upd_same
      obtain ⟨u1, u2, rfl, ⟨t, rfl⟩, r2⟩ := vals2 rits
      cases r2
      rw [List.length_map] at pt
      exact q p t s' I2 np pt (fun b o hb e => slots b o (only1_ne hb) e) (fun b o hb e => slots b o (only1_none hb) e) fun b o hb hf e => keep b o (only1_none hb) hf e
theorem reads_row (I : Inv X pins σ H s) {r : Addr} {ns : List Int} (h : SqT X.K H r (ns.map V.int)) : ∃ as, Reads s.heap (.ref r) (.tuple (ns.map .int)) as :=
  Dp.reads I _ (.ref r) (.ref r) (.tup h (dpa_ints ns)) rfl
theorem reads_key (I : Inv X pins σ H s) {r p : Addr} {t : Tok} {ns : List Int} (h : SqT X.K H r (ns.map V.int)) (hp : IsTup s.heap p #[.int ns.length t, .ref r]) : ∃ as, Reads s.heap (.ref p) (keyD ns) as := by
  obtain ⟨as, hr⟩ := reads_row I h
  obtain ⟨o, e, c, n, d⟩ := hp
  exact ⟨_, .tuple e c d (.cons (.int _ _) (.cons hr .nil))⟩
theorem alike_ints : ∀ (a b : List Int), PySem.W.alikeAll (a.map PyData.int) (b.map PyData.int) = true
  | [], _ => by simp [PySem.W.alikeAll]
  | _ :: _, [] => by simp [PySem.W.alikeAll]
  | x :: a, y :: b => by
    show (PySem.W.alike (.int x) (.int y) && PySem.W.alikeAll (a.map PyData.int) (b.map PyData.int)) = true
    rw [alike_ints a b]
    simp [PySem.W.alike]
theorem alike_key (a b : List Int) : PySem.W.alike (keyD a) (keyD b) = true := by
  show (PySem.W.alike (.int a.length) (.int b.length) && (PySem.W.alike (.tuple (a.map .int)) (.tuple (b.map .int)) && PySem.W.alikeAll [] [])) = true
  have e : PySem.W.alike (.tuple (a.map .int)) (.tuple (b.map .int)) = PySem.W.alikeAll (a.map PyData.int) (b.map PyData.int) := by simp [PySem.W.alike]
  rw [e, alike_ints]
  simp [PySem.W.alike, PySem.W.alikeAll]
/-- what is walked: a list or a tuple of rows -/
structure Walked (X : Cx) (a it : Addr) (its : List Value) (St : Nat → Shared → Prop) : Prop where
  W : WalksS X.prog X.w X.A.in1 it [it, a] [it] (fun a b => b = a) its.toArray.size (fun i v => its.toArray[i]? = some v) St
  stay : ∀ i s s', St i s → (∀ b o, b ∈ [it, a] → s.heap.get? b = some o → ∃ sl, s'.heap.get? b = some { o with slots := sl }) → St i s'
  here : ∀ i s, St i s → ∃ o, s.heap.get? it = some o
theorem min_core (F : FnOk X.prog X.w X.K X.mg X.base CX0 k f fd ps (spRank X.K)) (hb : Binds X.K fd ps []) (hr : Room (k + 1) X.A) (I : Inv X pins σ H s) {a : Addr} {xs : List V} {its : List Value} {rows : Nat → List Int} (rv : Vals xs its)
    (hx : ∀ i x, xs[i]? = some x → ∃ r, x = .ref r ∧ SqT X.K H r ((rows i).map V.int)) (hn : 0 < xs.length) (hne : ∀ (i : Nat) (r : Addr), xs[i]? = some (V.ref r) → r ≠ a) {o : Obj} {St : Nat → Shared → Prop} (L : Walked X a s.heap.objs.size its St) {s₂ : Shared}
    (e2 : s₂ = { s with heap := s.heap.push o }) (st : St 0 s₂) (hfp : ∀ b ∈ [s.heap.objs.size, a], b < s₂.heap.objs.size) {Q : VK} (q : ∀ x, xs[argBest (btR rows) (xs.length - 1)]? = some x → Q x H) :
    ∃ I' fp wr G n P St' J V' bt, (.ref s.heap.objs.size : Value) = .ref I' ∧ WalksS X.prog X.w X.A.in1 I' fp wr G n P St' ∧ St' 0 s₂ ∧ (∀ b ∈ fp, b < s₂.heap.objs.size) ∧ 0 < n ∧
      KeyRun X.prog X.w X.A.in1 (.ref f) .Lt s₂.heap.objs.size wr G n P St' J V' bt ∧ J s₂ ∧ ∀ v s', P (argBest bt (n - 1)) v → J s' → EP X pins σ Q v s' := by
  have hsz : s₂.heap.objs.size = s.heap.objs.size + 1 := by rw [e2]; exact Heap.size_push _ _
  have I2 : Inv X pins σ H s₂ := by rw [e2]; exact I.kept (t' := s.toks) fun b u e => Heap.get?_push_of_some _ e
  have fI : FpOk X pins H s.heap.objs.size := I.fpOk (Nat.le_refl _) (I.hok.fresh (Nat.le_refl _))
  have fS : FpOk X pins H s₂.heap.objs.size := I.fpOk (by omega) (I.hok.fresh (by omega))
  have hlen : its.toArray.size = xs.length := by rw [List.size_toArray, rv.length]
  have moved : ∀ s1 s', Inv X pins σ H s1 → Moved (s₂.heap.objs.size :: [s.heap.objs.size]) (fun a b => b = a) s1 s' → Inv X pins σ H s' := fun s1 s' I1 m => by
    have z := I1.turnedL (h' := s'.heap) (t' := s'.toks) (ch := [s₂.heap.objs.size, s.heap.objs.size]) (fun b o hb e => m.heap b o hb e) (fun b hb => by
      rcases List.mem_cons.mp hb with rfl | hb
      · exact fS
      · rw [List.mem_singleton.mp hb]; exact fI)
    obtain ⟨h', g', d', t', o'⟩ := s'
    have g1 : g' = s1.gens := m.gens
    have g2 : d' = s1.drawn := m.drawn
    have g3 : o' = s1.os := m.os
    subst g1; subst g2; subst g3
    exact z
  refine ⟨_, _, _, _, _, _, St, fun s' => Inv X pins σ H s', fun i v s' => ∃ p r t, v = .ref p ∧ p ≠ s₂.heap.objs.size ∧ p ≠ s.heap.objs.size ∧ H p = none ∧ xs[i]? = some (.ref r) ∧ IsTup s'.heap p #[.int (rows i).length t, .ref r], btR rows, rfl, L.W, st, hfp, by omega, ⟨?_, ?_, ?_, ?_⟩, I2, ?_⟩
  · exact fun s1 s' J m => moved s1 s' J m
  · rintro i v s1 s' ⟨p, r, t, rfl, h1, h2, h3, h4, o, e, c, n, d⟩ m
    exact ⟨p, r, t, rfl, h1, h2, h3, h4, o, m.heap p o (by simp [h1, h2]) e, c, n, d⟩
  · intro i v s1 ob Q1 E1 hi hP J hst hS hq
    rw [hlen] at hi
    obtain ⟨x, hxi⟩ : ∃ x, xs[i]? = some x := ⟨_, List.getElem?_eq_getElem hi⟩
    obtain ⟨r, rfl, hrow⟩ := hx i x hxi
    obtain ⟨u, hu, ru⟩ := rv.get hxi
    cases ru
    have hv : v = .ref r := by
      have : its[i]? = some v := by simpa using hP
      rw [hu] at this; exact (Option.some.inj this).symm
    subst hv
    refine key_turn F hb hr.in1 J hrow fun p t s' J' np pt others slots lits => ?_
    have ra : r ≠ a := hne i r hxi
    have hit : ∃ o, s1.heap.get? s.heap.objs.size = some o := L.here _ _ hst
    refine hq _ _ J' (L.stay _ _ _ hst fun b o hb e => ?_) ?_ ⟨p, r, t, rfl, ?_, ?_, J.hok.gone np, hxi, pt⟩ ?_
    · rcases List.mem_cons.mp hb with rfl | hb
      · exact slots _ o fI.1 e
      · rw [List.mem_singleton.mp hb] at e ⊢
        exact others a o (Ne.symm ra) e
    · refine lits _ ob fS.1 (fun z => ?_) hS
      rcases List.mem_cons.mp (J.stkSub _ z) with e | e
      · exact fS.2.1 e
      · exact fS.2.2.1 e
    · rintro rfl
      rw [np] at hS; cases hS
    · rintro rfl
      obtain ⟨o, e⟩ := hit
      rw [np] at e; cases e
    · rintro j k' ⟨p', r', t', rfl, h1, h2, h3, h4, o, e, c, n, d⟩
      obtain ⟨sl, e'⟩ := slots p' o h3 e
      exact ⟨p', r', t', rfl, h1, h2, h3, h4, _, e', c, n, d⟩
  · rintro i j ki kj s1 Q1 E1 J ⟨p, r, t, rfl, _, _, _, hi, pt⟩ ⟨p', r', t', rfl, _, _, _, hj, pt'⟩ hq
    obtain ⟨r1, z1, row1⟩ := hx i _ hi
    obtain ⟨r2, z2, row2⟩ := hx j _ hj
    cases z1
    cases z2
    obtain ⟨as1, rd1⟩ := reads_key J row1 pt
    obtain ⟨as2, rd2⟩ := reads_key J row2 pt'
    refine PySem.W.rcLt_alike _ _ _ s1 _ _ _ _ rd1 rd2 (alike_key _ _) (fun z => nomatch z) ?_ X.prog X.w E1 Q1 hq
    have dp : ∀ ns : List Int, PyData.depthAll (ns.map PyData.int) = 0 := fun ns => by
      induction ns with
      | nil => rfl
      | cons n r ih => rw [List.map_cons, PyData.depthAll, ih]; rfl
    have dk : (keyD (rows i)).depth ≤ 4 := by
      unfold keyD
      simp [PyData.depth, PyData.depthAll, dp]
    have := Nat.min_le_left (keyD (rows i)).depth (keyD (rows j)).depth
    have hu := hr.in1.units
    omega
  · intro v s' hP J
    have hP' : its.toArray[argBest (btR rows) (its.toArray.size - 1)]? = some v := hP
    rw [hlen] at hP'
    have hv : its[argBest (btR rows) (xs.length - 1)]? = some v := by simpa using hP'
    obtain ⟨x, hx1, hx2⟩ : ∃ x, xs[argBest (btR rows) (xs.length - 1)]? = some x ∧ RelV x v := by
      have hl : argBest (btR rows) (xs.length - 1) < xs.length := by
        have z := (List.getElem?_eq_some_iff.mp hv).1
        have z2 := rv.length
        omega
      obtain ⟨u, hu, ru⟩ := rv.get (List.getElem?_eq_getElem hl)
      rw [hv] at hu
      cases hu
      exact ⟨_, List.getElem?_eq_getElem hl, ru⟩
    exact ⟨x, H, J, hx2, q x hx1⟩
def rMinKey (K : PySem.W.Frag) (f : Addr) : List V → List V → Hp → VK → Prop := fun vs zs H Q => ∃ (a : Addr) (xs : List V) (rows : Nat → List Int), vs = [V.ref a] ∧ zs = [V.ref f] ∧ (SqL K H a xs ∨ SqT K H a xs) ∧ 0 < xs.length ∧
  (∀ i x, xs[i]? = some x → ∃ r, x = .ref r ∧ SqT K H r ((rows i).map V.int)) ∧ ∀ x, xs[argBest (btR rows) (xs.length - 1)]? = some x → Q x H
theorem cr_minKey (F : FnOk X.prog X.w X.K X.mg X.base CX0 k f fd ps (spRank X.K)) (hb : Binds X.K fd ps []) (hr : Room (k + 1) X.A) : CallRK X (.builtin "min") [Str.ofString "key"] (rMinKey X.K f) := by
  intro pins s σ H vs zs us ws Q I rv rz h
  obtain ⟨a, xs, rows, rfl, rfl, hs, hn, hx, q⟩ := h
  obtain rfl := Vals.ref1 rv
  obtain ⟨w1, rfl, e1⟩ := vals1 rz
  obtain rfl : w1 = Value.ref f := e1
  show wpAny (model X.prog X.w) X.A (call (.builtin "min") [.ref a] [(Str.ofString "key", .ref f)]) _ _ s
  refine PySem.call_min_walkK ?_
  rcases hs with hs | hs
  · obtain ⟨its, r, pl, z⟩ := I.list hs
    have alt : a < s.heap.objs.size := by obtain ⟨o, _, e, _⟩ := pl; exact Heap.lt_size e
    refine PySem.W.iter_listW (A := X.A.in1) hr.hd pl.isList fun s₂ e W st hfp hw hk => ?_
    refine min_core F hb hr I r hx hn (fun i b hi z => ?_) ⟨W, ?_, ?_⟩ e st hfp q
    · subst z
      obtain ⟨_, h1, h2⟩ := hx i _ hi
      cases h1
      obtain ⟨_, _, ⟨o, e, c, _⟩, _⟩ := I.tuple h2
      obtain ⟨o', e', c', _⟩ := pl.isList
      rw [e] at e'
      cases e'
      rw [c] at c'
      exact absurd (Value.type.inj c') (by decide)
    · rintro i s1 s1' ⟨⟨o, e, c, d⟩, ⟨o2, e2, c2, n2, d2⟩⟩ hk
      obtain ⟨sl, e'⟩ := hk _ o (by simp) e
      obtain ⟨sl2, e2'⟩ := hk _ o2 (by simp) e2
      exact ⟨⟨_, e', c, d⟩, ⟨_, e2', c2, n2, d2⟩⟩
    · rintro i s1 ⟨⟨o, e, _⟩, _⟩
      exact ⟨o, e⟩
  · obtain ⟨its, r, pl, z⟩ := I.tuple hs
    have hl : s.heap.IsTuple a its.toArray := pl
    refine PySem.W.iter_tupleW (A := X.A.in1) hr.hd hl fun s₂ e W st hfp hw hk => ?_
    refine min_core F hb hr I r hx hn (fun i b hi z => ?_) ⟨W, ?_, ?_⟩ e st hfp q
    · subst z
      obtain ⟨_, h1, h2⟩ := hx i _ hi
      cases h1
      have := I.tuple_inj hs h2
      rw [this] at hi
      rw [List.getElem?_map] at hi
      cases z : (rows i)[i]? with
      | none => rw [z] at hi; cases hi
      | some v => rw [z] at hi; cases hi
    · rintro i s1 s1' ⟨⟨o, e, c, d⟩, ⟨o2, e2, c2, n2, d2⟩⟩ hk
      obtain ⟨sl, e'⟩ := hk _ o (by simp) e
      obtain ⟨sl2, e2'⟩ := hk _ o2 (by simp) e2
      exact ⟨⟨_, e', c, d⟩, ⟨_, e2', c2, n2, d2⟩⟩
    · rintro i s1 ⟨⟨o, e, _⟩, _⟩
      exact ⟨o, e⟩
end
end Gw
namespace PySem.W
open PySem PySem.Calls PyProof.Rows PySem.SeqAt
section
variable {prog : Program} {w : World} {A : Around} {s : Shared} {E : Value → Shared → Prop}
/-- () < () by the tuples' own comparison -/
theorem gw_lt_none {l b : Addr} (hl : s.heap.IsTuple l #[]) (hb : s.heap.IsTuple b #[]) {Q : Value → Shared → Prop} (h : Q (.bool false) s) : wpAny (model prog w) A (call (.builtin "tuple.__lt__") [.ref l, .ref b]) Q E s := by
  obtain ⟨⟨cls, dd, data, sl⟩, ho, hc, n, hd⟩ := id hl
  obtain ⟨⟨cls2, dd2, data2, sl2⟩, ho2, hc2, n2, hd2⟩ := id hb
  simp only at hc hd hc2 hd2
  subst hc hd hc2 hd2
  exact call_meets F.slot_tuple_lt ⟨_, ho, rfl⟩ F.entry_tuple_lt (F.args_tuple_lt_2 _ _) (tuple_ltAt l b #[] #[] n n2 dd dd2 sl sl2 (fun _ => true) fun _ => true) ⟨ho, ho2, fun j h1 => absurd h1 (Nat.not_lt_zero _), fun j h1 => absurd h1 (Nat.not_lt_zero _), h⟩
theorem gw_reads_none {h : Heap} {v : Value} {as : List Addr} (r : Reads h v (.tuple []) as) : ∃ a, v = .ref a ∧ h.IsTuple a #[] := by
  cases r with
  | @tuple a o xs n _ _ h1 h2 h3 h4 =>
    cases q : xs.toList with
    | nil =>
      have : xs = #[] := by
        apply Array.ext'
        simpa using q
      subst this
      exact ⟨a, rfl, o, h1, h2, n, h3⟩
    | cons f fr => rw [q] at h4; cases h4
/-- rows without items can be sorted -/
theorem gw_sorts_none {vs : List Value} {ds : List PyData} (e : EachIs (fun v d => ∃ as, Reads s.heap v d as) vs ds) (hd : ∀ d, d ∈ ds → d = .tuple []) (hu : A.units + 1 < cLine) : SortsAt prog w A s (dataKind s.heap ds) vs := by
  have hal : AllAlike ds := fun d h d' h' => by rw [hd d h, hd d' h']; simp [alike, alikeAll]
  have ht : ∀ v, v ∈ vs → ∃ a, v = .ref a ∧ s.heap.IsTuple a #[] := fun v hv => by
    obtain ⟨d, m, as, r⟩ := e.left v hv
    rw [hd d m] at r
    exact gw_reads_none r
  refine ⟨fun v hv => ?_, oneType', ?_, fun h2 E Q hq => ?_⟩
  · obtain ⟨d, m, as, r⟩ := e.left v hv
    exact ⟨_, dataKind_some hal m r⟩
  · intro E x y a b Q ha hb hq
    obtain ⟨d, as, m, ra, rfl⟩ := dataKind_inv ha
    obtain ⟨d', as', m', rb, rfl⟩ := dataKind_inv hb
    rw [hd d m] at ra hq
    rw [hd d' m'] at rb hq
    obtain ⟨p, rfl, hp⟩ := gw_reads_none ra
    obtain ⟨p', rfl, hp'⟩ := gw_reads_none rb
    have hq' : Q (dataLt (.tuple []) (.tuple [])) s := hq
    rw [show dataLt (.tuple []) (.tuple []) = false from lex_irrefl _] at hq'
    rw [keyLt'_oneType, oneLt'_eq]
    simp only [if_true]
    refine wpAny_bind (wpAny_cRoomFor (by omega) ?_)
    refine wpAny_bind (wpAny_callSpecialIfBound?_slot (T := "tuple") (by obtain ⟨o, h1, h2, _⟩ := hp; exact ⟨_, h1, h2⟩) F.slot_tuple_lt (gw_lt_none hp hp' ?_))
    exact wpAny_truthy_bool hq'
  · have hty : ∀ v ∈ vs, Looks (model prog w) s.heap (typeOf v) (Value.type "tuple") := fun v hv => by
      obtain ⟨a, rfl, o, h1, h2, _⟩ := ht v hv
      show Looks _ s.heap (typeOf (Value.ref _)) (Value.type "tuple")
      exact h2 ▸ (Looks.ld h1).andThen .now
    obtain ⟨v₁, v₂, rest, rfl⟩ : ∃ v₁ v₂ rest, vs = v₁ :: v₂ :: rest := by
      match vs, h2 with
      | [], h2 => simp at h2
      | [_], h2 => simp at h2
      | v₁ :: v₂ :: rest, _ => exact ⟨v₁, v₂, rest, rfl⟩
    rw [keyKind'_eq, List.mapM_toArray, map_eq_pure_bind]
    refine wpAny_bind (wpAny_bind (kas_mapM (r := none) _ (fun v hv Q' hq => ?_) (wpAny_pure ?_)))
    · rw [kas_first_eq]
      refine wpAny_bind ((hty v hv).here ?_)
      rw [if_neg (by decide)]
      obtain ⟨a, rfl, o, h1, h2, n, h3⟩ := ht v hv
      refine wpAny_bind (listItems_at h1 h3 (wpAny_pure ?_))
      exact hq
    · rw [if_neg (by simp), if_neg (by simp)]
      rw [oneTypeOnly'_eq, List.mapM_toArray, map_eq_pure_bind]
      refine wpAny_bind (wpAny_bind (wpAny_bind (kas_mapM (r := Value.type "tuple") _ (fun v hv Q' hq => (hty v hv).here hq) (wpAny_pure ?_))))
      have hall : ((List.map (fun _ => Value.type "tuple") (v₁ :: v₂ :: rest)).toArray.all fun x => x == Value.type "tuple") = true := by
        simp only [List.all_toArray, List.all_map, List.all_eq_true]
        intro _ _
        exact beq_self_eq_true _
      have h0 : (List.map (fun _ => Value.type "tuple") (v₁ :: v₂ :: rest)).toArray[0]? = some (Value.type "tuple") := by simp
      rw [h0]
      simp only [hall, if_true]
      exact wpAny_pure (wpAny_pure hq)
end
end PySem.W

namespace Gw
open PySem PySem.Spec PyProof.Rows L2 PySem.Calls
open PySem.W (EachIs sortingHeap sorting_copy_old copyHeap)
/-- sorted(l) of rows of ints of one length: the first one is the least -/
def rSortRows (K : PySem.W.Frag) : List V → Hp → VK → Prop := fun vs H Q => ∃ (a : Addr) (ys : List V) (rows : Nat → List Int) (L : Nat), vs = [V.ref a] ∧ SqL K H a ys ∧ (∀ i x, ys[i]? = some x → (rows i).length = L ∧ ∃ r, x = V.ref r ∧ SqT K H r ((rows i).map V.int)) ∧
  ∀ p zs, H p = none → zs.length = ys.length → (0 < ys.length → ∃ (j : Nat) (x : V), zs[0]? = some x ∧ ys[j]? = some x ∧ ∀ i, i < ys.length → ¬ rows i < rows j) → Q (.ref p) (upd H p (.lst zs))
section
variable {X : Cx} {pins : List (Addr × Obj)} {σ : L2.St} {H : Hp} {s : Shared}
theorem each_of {α β : Type} {R : α → β → Prop} : ∀ {as : List α} {bs : List β}, as.length = bs.length → (∀ (i : Nat) a b, as[i]? = some a → bs[i]? = some b → R a b) → EachIs R as bs
  | [], [], _, _ => .nil
  | a :: as, b :: bs, hl, h => .cons (h 0 a b rfl rfl) (each_of (by simpa using hl) fun i x y e1 e2 => h (i + 1) x y (by simpa using e1) (by simpa using e2))
  | [], _ :: _, hl, _ => by simp at hl
  | _ :: _, [], hl, _ => by simp at hl
theorem dataLe_rowsT (rows : Nat → List Int) : PySem.W.dataLe false (fun i => PyData.tuple ((rows i).map .int)) = fun p q => !decide (rows q < rows p) := by
  funext a b
  show (!PySem.W.dataLt (.tuple ((rows b).map .int)) (.tuple ((rows a).map .int))) = _
  rw [PySem.W.dataLt_tuple]
  exact congrArg (!·) (PySem.W.dataLt_ints (rows b) (rows a))
theorem sort_first (rows : Nat → List Int) {n : Nat} (hn : 0 < n) : ∃ j, ((List.range n).mergeSort (fun p q => !decide (rows q < rows p)))[0]? = some j ∧ j < n ∧ ∀ i, i < n → ¬ rows i < rows j := by
  have hs := List.pairwise_mergeSort (le := fun p q => !decide (rows q < rows p)) (fun a b c h1 h2 => by
      have h1 : ¬ rows b < rows a := by simpa using h1
      have h2 : ¬ rows c < rows b := by simpa using h2
      have := List.le_trans (show rows a ≤ rows b from h1) (show rows b ≤ rows c from h2)
      simpa using (show ¬ rows c < rows a from this)) (fun a b => by
      rcases List.le_total (rows a) (rows b) with h | h
      · have h : ¬ rows b < rows a := h
        simp [h]
      · have h : ¬ rows a < rows b := h
        simp [h]) (List.range n)
  have hp := List.mergeSort_perm (List.range n) (fun p q => !decide (rows q < rows p))
  generalize (List.range n).mergeSort (fun p q => !decide (rows q < rows p)) = l at hs hp
  cases l with
  | nil =>
    have := hp.length_eq
    simp at this
    omega
  | cons j l =>
    refine ⟨j, rfl, ?_, fun i hi => ?_⟩
    · have := hp.mem_iff.mp (List.mem_cons_self (a := j) (l := l))
      simpa using this
    · have hm : i ∈ j :: l := hp.mem_iff.mpr (by simpa using hi)
      rcases List.mem_cons.mp hm with rfl | hm
      · exact List.lt_irrefl _
      · have := (List.pairwise_cons.mp hs).1 i hm
        simpa using this
theorem cr_sortRows (hu : X.A.units + 64 < cLine) : CallR X (.builtin "sorted") (rSortRows X.K) := by
  intro pins s σ H vs us Q I rv h
  obtain ⟨a, ys, rows, L, rfl, hs, hx, q⟩ := h
  obtain rfl := Vals.ref1 rv
  obtain ⟨its, r, pl, z⟩ := I.list hs
  have hl : s.heap.IsList a its.toArray := pl.isList
  have n0 : its.length = ys.length := r.length.symm
  let enc : Nat → PyData := fun i => .tuple ((rows i).map .int)
  let R : Value → Nat → Prop := fun v i => ∃ x, ys[i]? = some x ∧ RelV x v
  have bl : (List.range ys.length).length = ys.length := by simp
  have item : ∀ (i : Nat) v b, its[i]? = some v → (List.range ys.length)[i]? = some b → b = i ∧ R v i ∧ ∃ as, Reads s.heap v (enc i) as := fun i v b h1 h2 => by
    have hi : i < ys.length := by rw [← n0]; exact (List.getElem?_eq_some_iff.mp h1).1
    have hb : b = i := by
      rw [List.getElem?_range hi] at h2
      exact (Option.some.inj h2).symm
    obtain ⟨u, hu, ru⟩ := r.get (List.getElem?_eq_getElem hi)
    rw [h1] at hu
    cases hu
    obtain ⟨_, p, e, hr⟩ := hx i _ (List.getElem?_eq_getElem hi)
    refine ⟨hb, ⟨_, List.getElem?_eq_getElem hi, ru⟩, ?_⟩
    rw [e] at ru
    cases ru
    exact reads_row I hr
  have e : EachIs R its (List.range ys.length) := each_of (by rw [bl, n0]) fun i v b h1 h2 => by
    obtain ⟨rfl, h3, _⟩ := item i v b h1 h2
    exact h3
  have er : EachIs (fun v b => ∃ as, Reads s.heap v (enc b) as) its (List.range ys.length) := each_of (by rw [bl, n0]) fun i v b h1 h2 => by
    obtain ⟨rfl, _, h3⟩ := item i v b h1 h2
    exact h3
  have dp : ∀ ns : List Int, PyData.depthAll (ns.map PyData.int) = 0 := fun ns => by
    induction ns with
    | nil => rfl
    | cons n r ih => rw [List.map_cons, PyData.depthAll, ih]; rfl
  have hlen : ∀ i, i < ys.length → (rows i).length = L := fun i hi => (hx i _ (List.getElem?_eq_getElem hi)).1
  have fin : ∀ out : List Value, out.length = ys.length → EachIs R out ((List.range ys.length).mergeSort (PySem.W.dataLe false enc)) → EP X pins σ Q (.ref (s.heap.objs.size + 1)) { s with heap := sortedAll s.heap its (List.toArray out) } := fun out ho he => by
    obtain ⟨zs, hz1, hz2⟩ : ∃ zs : List V, Vals zs out ∧ ∀ (i : Nat) (v : Value) (b : Nat), out[i]? = some v → ((List.range ys.length).mergeSort (PySem.W.dataLe false enc))[i]? = some b → ∃ x, zs[i]? = some x ∧ ys[b]? = some x := by
      clear ho
      generalize (List.range ys.length).mergeSort (PySem.W.dataLe false enc) = bs at he
      induction he with
      | nil => exact ⟨[], .nil, fun i v b h => by simp at h⟩
      | cons h t ih =>
        obtain ⟨zs, k1, k2⟩ := ih
        obtain ⟨x, h1, h2⟩ := h
        refine ⟨x :: zs, .cons h2 k1, fun i v b e1 e2 => ?_⟩
        cases i with
        | zero =>
          have : b = _ := (Option.some.inj e2).symm
          subst this
          exact ⟨x, rfl, h1⟩
        | succ i => exact k2 i v b (by simpa using e1) (by simpa using e2)
    obtain ⟨ep, he'⟩ := sortedAll_at s.heap its (List.toArray out)
    have zl : zs.length = ys.length := by rw [hz1.length, ho]
    refine ⟨.ref _, upd H (s.heap.objs.size + 1) (.lst zs), I.laid (t' := s.toks) (fun _ _ => sortedAll_old) (Nat.le_succ _) ⟨by omega, out, ep, hz1, he'⟩, rfl, q _ _ (I.hok.fresh (Nat.le_succ _)) zl fun hn => ?_⟩
    rw [dataLe_rowsT] at hz2
    obtain ⟨j, h1, h2, h3⟩ := sort_first rows hn
    obtain ⟨v, hv⟩ : ∃ v, out[0]? = some v := ⟨_, List.getElem?_eq_getElem (by omega)⟩
    obtain ⟨x, k1, k2⟩ := hz2 0 v j hv h1
    exact ⟨j, x, k1, k2, h3⟩
  have hal : PySem.W.AllAlike ((List.range ys.length).map enc) := fun d hd d' hd' => by
    obtain ⟨i, _, rfl⟩ := List.mem_map.mp hd
    obtain ⟨j, _, rfl⟩ := List.mem_map.mp hd'
    have e : PySem.W.alike (enc i) (enc j) = PySem.W.alikeAll ((rows i).map PyData.int) ((rows j).map PyData.int) := by simp [enc, PySem.W.alike]
    rw [e, alike_ints]
  have hdep : ∀ i, (enc i).depth ≤ 2 := fun i => by
    show (PyData.tuple ((rows i).map .int)).depth ≤ 2
    simp [PyData.depth, dp]
  rcases Nat.eq_zero_or_pos L with h0 | h0
  · subst h0
    have er' : EachIs (fun v b => ∃ as, Reads (sortingHeap (copyHeap s.heap its) (s.heap.objs.size + 1) its) v (enc b) as) its (List.range ys.length) := er.mono fun _ _ ⟨as, r⟩ => ⟨as, PyProof.Rows.Reads.keeps (fun _ _ => sorting_copy_old) r⟩
    refine PySem.W.sorted_vals (κ := PySem.W.dataKind (sortingHeap (copyHeap s.heap its) (s.heap.objs.size + 1) its) ((List.range ys.length).map enc)) hl (PySem.W.gw_sorts_none (s := { s with heap := sortingHeap (copyHeap s.heap its) (s.heap.objs.size + 1) its }) (PySem.W.each_map (R := fun v d => ∃ as, Reads (sortingHeap (copyHeap s.heap its) (s.heap.objs.size + 1) its) v d as) enc er') (fun d hd => ?_) ?_) (by omega) ?_
    · obtain ⟨i, hi, rfl⟩ := List.mem_map.mp hd
      have := hlen i (by simpa using hi)
      show PyData.tuple ((rows i).map .int) = _
      rw [List.eq_nil_of_length_eq_zero this]
      rfl
    · show X.A.units + 1 + 1 + 1 < cLine
      omega
    · exact fin _ (by rw [PySem.W.sortVals_length false rfl]; exact n0) (PySem.W.sortVals_data false e er' hal)
  · refine PySem.W.sorted_data (enc := enc) (R := R) hl e er hal (.inl fun d hd => ?_) (by rw [bl]; exact z) (fun b _ => ?_) fun out ho he => fin out (by rw [ho, bl]) he
    · obtain ⟨i, hi, rfl⟩ := List.mem_map.mp hd
      have := hlen i (by simpa using hi)
      cases hr : rows i with
      | nil => rw [hr] at this; simp at this; omega
      | cons y r => exact ⟨.int y, r.map .int, by show PyData.tuple ((rows i).map .int) = _; rw [hr]; rfl⟩
    · have := hdep b
      omega
end
end Gw
namespace Gw
open PySem PySem.Spec PyProof.Rows L2
/-! ### calls by keywords alone -/
def OkF (P : Program) (w : World) (K : PySem.W.Frag) (mg : Str → Option Value) (base : Heap) (x : Str) (st : Stmt) (ps : List Str) (k : Nat) (sp : Sp) : Prop :=
  ∃ (f : Addr) (fd : FuncData), DefAt K mg x st ps f fd ∧ FnOk P w K mg base CX0 k f fd ps sp
theorem OkF.ok {P : Program} {w : World} {K : PySem.W.Frag} {mg : Str → Option Value} {base : Heap} {x : Str} {st : Stmt} {ps : List Str} {k : Nat} {sp : Sp} (h : OkF P w K mg base x st ps k sp) : Ok P w K mg base x ps k sp := by
  obtain ⟨f, fd, D, F⟩ := h
  exact D.ok F
theorem DefAt.okF {P : Program} {w : World} {K : PySem.W.Frag} {mg : Str → Option Value} {base : Heap} {x : Str} {st : Stmt} {ps : List Str} {f : Addr} {fd : FuncData} {k : Nat} {sp : Sp}
    (D : DefAt K mg x st ps f fd) (h : FnOk P w K mg base CX0 k f fd ps sp) : OkF P w K mg base x st ps k sp := ⟨f, fd, D, h⟩
/-- how a def's parameters are bound by keywords -/
def KwOf (x : Str) (st : Stmt) (ps ks : List Str) (g : List Value → List Value → List Value) (gV : List V → List V → List V) : Prop := ∀ (K : PySem.W.Frag) (f : Addr) (fd : FuncData), Fun K x x st f fd → KBinds K fd ps ks g gV
def g21 {α : Type} : List α → List α → List α
  | [], [a, b] => [b, a]
  | _, _ => []
def g1 {α : Type} : List α → List α → List α
  | [], [a] => [a]
  | _, _ => []
theorem g21_rel {vs : List V} {us : List Value} {zs : List V} {ws : List Value} (h : Vals vs us) (h' : Vals zs ws) : Vals (g21 vs zs) (g21 us ws) := by
  cases h with
  | cons _ _ => exact .nil
  | nil =>
    cases h' with
    | nil => exact .nil
    | cons a t =>
      cases t with
      | nil => exact .nil
      | cons b t =>
        cases t with
        | nil => exact .cons b (.cons a .nil)
        | cons _ _ => exact .nil
theorem g1_rel {vs : List V} {us : List Value} {zs : List V} {ws : List Value} (h : Vals vs us) (h' : Vals zs ws) : Vals (g1 vs zs) (g1 us ws) := by
  cases h with
  | cons _ _ => exact .nil
  | nil =>
    cases h' with
    | nil => exact .nil
    | cons a t =>
      cases t with
      | nil => exact .cons a .nil
      | cons _ _ => exact .nil
theorem kw21 {x p1 p2 : Str} {st : Stmt} (h : ∀ (kV doc pm : Value) (an : Option Addr) (cdv ct a b : Value), bindArgs (PySem.W.fnOf x x (defArgs st) (defBody st) (defScope st) .none kV doc pm an cdv ct) ⟨[], [(p2, a), (p1, b)]⟩ = pure [(p1, b), (p2, a)]) :
    KwOf x st [p1, p2] [p2, p1] g21 g21 := fun K f fd F => by
  obtain ⟨oc, od, kV, doc, pm, an, cdv, ct, osl, rfl, lk, hcd⟩ := F.ex
  refine ⟨fun s us ws _ hl => ?_, fun r r' => g21_rel r r'⟩
  match us, ws, hl with
  | [], [a, b], _ => exact .of_eq (h kV doc pm an cdv ct a b)
theorem kw1 {x p1 : Str} {st : Stmt} (h : ∀ (kV doc pm : Value) (an : Option Addr) (cdv ct a : Value), bindArgs (PySem.W.fnOf x x (defArgs st) (defBody st) (defScope st) .none kV doc pm an cdv ct) ⟨[], [(p1, a)]⟩ = pure [(p1, a)]) :
    KwOf x st [p1] [p1] g1 g1 := fun K f fd F => by
  obtain ⟨oc, od, kV, doc, pm, an, cdv, ct, osl, rfl, lk, hcd⟩ := F.ex
  refine ⟨fun s us ws _ hl => ?_, fun r r' => g1_rel r r'⟩
  match us, ws, hl with
  | [], [a], _ => exact .of_eq (h kV doc pm an cdv ct a)
section
variable {X : Cx} {x : Str} {st : Stmt} {ps ks : List Str} {k : Nat} {sp : Sp} {p pos : Pos} {e : Expr} {es : List Expr} {kws : List Keyword} {t tk : TA} {g : List Value → List Value → List Value} {gV : List V → List V → List V}
theorem pe_okK0 (h : OkF X.prog X.w X.K X.mg X.base x st ps k sp) (hb : KwOf x st ps ks g gV) (hr : Room k X.A) (hg : Gl X x) (hkw : PK X kws tk) (hall : (backToKw pos (keywordEach kws X.env)).all (·.1.isSome) = true := by rfl)
    (hks : (backToKw pos (keywordEach kws X.env)).filterMap (·.1) = ks := by rfl) (hdb : (x == ("__debug__" : Str)) = false := by decide)
    (hpl : ((backTo pos (starEach [] X.env)).any (·.1) || (backToKw pos (keywordEach kws X.env)).any (·.1.isNone)) = false := by rfl) : PE X (.Call (.Name x p) [] kws pos) (tCallK sp gV E0 tNil tk) := by
  obtain ⟨f, fd, D, F⟩ := h
  refine ⟨fun pins s σ H Q I h => ?_⟩
  refine wpAny_Call_Name_kw (ld_glob I hg D.m ?_ hdb)
  refine PySem.W.callWith_KW0 (h₀ := X.base) I.ok.mod.kin D.F.kp hall (thn (hkw.run pos pins s σ H _ I h) fun ws s2 ⟨zs, H2, I2, rz, q2⟩ => ⟨I2.kIn, ?_⟩) hpl
  rw [hks]
  exact run_fnk F hr (hb _ _ _ D.F) pass0 I2 .nil rz q2
end
/-! ### a < b of data -/
def rLtD (K : PySem.W.Frag) : R2 := fun x y H Q => ∃ dx dy, Dp K H x dx ∧ Dp K H y dy ∧ PySem.W.alike dx dy = true ∧ dx ≠ .none ∧ dx.depth ≤ 16 ∧ Q (.bl (PySem.W.dataLt dx dy)) H
theorem op_ltD {X : Cx} (hu : X.A.units + 64 < cLine) : OpR X (compareOp .Lt) (rLtD X.K) := by
  intro pins s σ H x y v u Q I rx ry h
  obtain ⟨dx, dy, hx, hy, ha, hn, hd, q⟩ := h
  obtain ⟨as, ra⟩ := Dp.reads I dx x v hx rx
  obtain ⟨bs, rb⟩ := Dp.reads I dy y u hy ry
  refine PySem.W.lt_data ra rb ha hn ?_ ⟨.bl (PySem.W.dataLt dx dy), H, I, rfl, q⟩
  have := Nat.min_le_left dx.depth dy.depth
  omega
theorem q_ltD (K : PySem.W.Frag) {X : Cx} (e : X.K = K) (hu : X.A.units + 64 < cLine) : OpR X (compareOp .Lt) (rLtD K) := by subst e; exact op_ltD hu
theorem ro_ltD {K : PySem.W.Frag} {x y : PyData} (ha : PySem.W.alike x y = true) (hn : x ≠ .none) (hd : x.depth ≤ 16) : ROp K (rLtD K) x y (.bool (PySem.W.dataLt x y)) := fun G H s vx vy dx dy Q q =>
  ⟨x, y, dp_mono s x dx, dp_mono s y dy, ha, hn, hd, q _ G H (Nx.refl s) (.bl _)⟩
end Gw
namespace Gw
open PySem PySem.Spec PyProof.Rows L2
/-! ### an error that a clause catches and keeps -/
/-- an error of the class cls, with its own dict d, stands at a -/
def ErrAt (cls : Value) (d : Option Addr) (a : Addr) (h : Heap) : Prop := ∃ (oe : Obj) (vs : Array Value), h.get? a = some oe ∧ Zc cls d oe ∧ oe.data = .fields vs
def ErrO (cls : Value) (d : Option Addr) (a : Addr) : HO := .ext (ErrAt cls d a)
theorem err_new {P : Program} {w : World} {H : Hp} {h : Heap} {a : Addr} {cls : Value} {d : Option Addr} (e : ErrAt cls d a h) : ObjOk P w H h a (ErrO cls d a) := by
  obtain ⟨oe, vs, q, r⟩ := e
  exact ⟨⟨oe, vs, q, r⟩, ⟨oe, q⟩, fun h1 h2 ⟨o, v, q1, r1⟩ k => ⟨o, v, k o q1, r1⟩⟩
section
variable {X : Cx} {pins : List (Addr × Obj)} {σ : L2.St} {H : Hp} {s : Shared}
/-- what is pinned, and new since the beginning, is told of from now on -/
theorem Inv_track {a : Addr} {oe : Obj} {u : HO} (J : Inv X ((a, oe) :: pins) σ H s) (h0 : X.s_0.heap.get? a = none) (np : ∀ p ∈ X.pn ++ pins, p.1 ≠ a) (new : ObjOk X.prog X.w (upd H a u) s.heap a u) : Inv X pins σ (upd H a u) s := by
  have mine := J.pin (a, oe) (List.mem_append_right _ List.mem_cons_self)
  have hn : H a = none := mine.2.1
  have old : ∀ b o, X.s_0.heap.get? b = some o → b ≠ a := fun b o e z => by rw [z, h0] at e; cases e
  refine ⟨J.ok, J.os, J.bare, ⟨J.base.keep, J.base.slot, fun b o e n hx => ?_, J.base.there, fun b xs e => ?_, fun b o v e => ?_, fun b ps e => ?_⟩, J.loc, J.cell, ?_, fun x c e => ?_, fun p hp => ?_, J.hok.laidN (fun _ _ z => z) hn new, J.len⟩
  · exact (upd_ne (old b o e)).trans (J.base.free b o e n hx)
  · have := J.base.tups b xs e
    exact (upd_ne (ne_of_none this hn)).trans this
  · have := J.base.frzs b o v e
    exact (upd_ne (ne_of_none this hn)).trans this
  · obtain ⟨more, this⟩ := J.base.tbls b ps e
    exact ⟨more, (upd_ne (ne_of_none this hn)).trans this⟩
  · exact (upd_ne (Ne.symm mine.2.2.1)).trans J.free
  · refine (upd_ne fun z => ?_).trans (J.freeC x c e)
    obtain ⟨v, o, ho, hd⟩ := J.cell x c e
    rw [z, mine.1] at ho
    cases ho
    exact mine.2.2.2.2 _ hd
  · have hp' : p ∈ X.pn ++ ((a, oe) :: pins) := by
      rcases List.mem_append.mp hp with z | z
      · exact List.mem_append_left _ z
      · exact List.mem_append_right _ (List.mem_cons_of_mem _ z)
    obtain ⟨q1, q2, q3⟩ := J.pin p hp'
    exact ⟨q1, (upd_ne (np p hp)).trans q2, q3⟩
end
/-- what «except x as n: y = n» wishes of an error of the body; slots i of n, j of y -/
def wKeep (K : PySem.W.Frag) (c : Value) (i j : Nat) (Wout : WX) (D : Ends) : WX := fun cls d σ H =>
  ∃ b, PySem.W.exmOne K cls c = some b ∧ (b = true → ∀ a, H a = none → D.nx (((σ.set i (some (.ref a))).set j (some (.ref a))).set i none) (upd H a (ErrO cls d a))) ∧ (b = false → Wout cls d σ H)
section
variable {X : Cx} {x n y : Str} {c : Value} {i j : Nat} {body : List Stmt} {np yp ep ap pos pos' : Pos} {tb : WX → TS} {Wout : WX}
theorem ps_keep (hs : X.stack = X.env :: X.outer) (hf : X.env.frame = some X.env.locals) (hex : X.ex = []) (hN : X.N.Nodup) (hi : X.N[i]? = some n) (hln : X.env.kindOf n = some .local) (hj : X.N[j]? = some y) (hjl : X.env.scope.names.lookup y = some .local)
    (hvn : Vis X.env.scope n) (hdn : (n == ("__debug__" : Str)) = false) (hcn : (n == ("__classdict__" : Str)) = false) (hsw : ∀ Y : Cx, Y.env = X.env → swapsWith (.Name n ep) (some (.Name y yp)) ap.line Y.env = pure false) (hlen : i < X.N.length) (hc : Names X x c) (tk : Takes X Wout)
    (hb : ∀ (W : WX) (pn : List (Addr × Obj)) (xe : Value → Shared → Prop), Takes (X.tr pn xe) W → PassesOwn (model X.prog X.w) X.A X.env xe → PSs (X.tr pn xe) body (tb W)) :
    PS X (.Try body [.ExceptHandler (some (.Name x np)) (some n) [.Assign [.Name y yp] (.Name n ep) ap] pos'] [] [] pos) (fun D σ H => tb (wKeep X.K c i j Wout D) D σ H) := by
  refine ⟨fun pins s σ H D I h => ?_⟩
  have okX := I.ok
  have frames : X.A.frames = some (X.env :: X.outer) := okX.frames.trans (congrArg some hs)
  refine wpAny_Try_except ?_
  have run := (hb (wKeep X.K c i j Wout D) (X.pn ++ pins) (fun e s₁ => wpAny (model X.prog X.w) X.A (noteFrame e X.env) (fun _ s₂ => wpAny (model X.prog X.w) X.A (setFlight e none) (fun _ s₃ =>
    wpAny (model X.prog X.w) X.A (handleBy e X.env [.ExceptHandler (some (.Name x np)) (some n) [.Assign [.Name y yp] (.Name n ep) ap] pos']) (SP X pins D) X.xe s₃) X.xe s₂) X.xe s₁) ?caught PassesOwn.looking).run [] s σ H D (I.toTry _) h
  case caught =>
    rintro u s' ⟨a, B, sI, pins', σ', H', cls, d, rfl, Jt, ground, up, sky, na, os, ag, b, hmatch, hyes, hno⟩
    have J : Inv X pins σ' H' sI := Jt.ofTry okX
    rw [show X.tr (X.pn ++ pins) _ = X.tr (X.pn ++ pins) _ from rfl] at sky
    have sky1 : Sky B (X.env :: X.outer) a (Zc cls d) X.env.locals s'.heap := by rw [← hs]; exact sky
    show wpAny (model X.prog X.w) X.A (noteFrame (.ref a) X.env) _ _ _
    refine Sky.land Zc.steady frames hf sky1 fun g fly upg => ?_
    have Jg : Inv X pins σ' H' { s' with heap := g } := J.landed ground fly.1 (up.trans upg) os ag
    obtain ⟨oe, vs, at1, z1, dat⟩ := fly.there
    have aFr : a ∉ frs (X.env :: X.outer) := fun hm => by
      obtain ⟨_, o1, q1, notF⟩ := fly.2.2.1.mem hm
      rw [at1] at q1
      cases q1
      exact notF _ dat
    have aL : a ≠ X.env.locals := fun z => aFr (List.mem_filterMap.mpr ⟨X.env, List.mem_cons_self, hf.trans (congrArg some z.symm)⟩)
    have aF : a ∉ X.fs := fun hm => by
      obtain ⟨e, he, q⟩ := List.mem_filterMap.mp hm
      exact aFr (List.mem_filterMap.mpr ⟨e, List.mem_cons_of_mem _ he, q⟩)
    have none_I : sI.heap.get? a = none := by
      cases q : sI.heap.get? a with
      | none => rfl
      | some o =>
        have := ground a o q (by rw [hs]; exact aFr)
        rw [fly.2.1] at this
        cases this
    have none_0 : X.s_0.heap.get? a = none := by
      cases q : X.s_0.heap.get? a with
      | none => rfl
      | some o =>
        obtain ⟨o', q'⟩ := J.base.there a o q (by rw [hex]; exact List.not_mem_nil)
        rw [none_I] at q'
        cases q'
    have pinsOff : ∀ p ∈ X.pn ++ pins, p.1 ≠ a := fun p hp z => by
      have := (J.pin p hp).1
      rw [z, none_I] at this
      cases this
    have Sg := Jg.suite at1 dat na aL aF
    refine wpAny_handleBy_cons (codeAny_handlers_test ?_) (fun q => nomatch q)
    have clsOf : PySem.W.Looks (model X.prog X.w) g (typeOf (.ref a)) cls := fun A Q E s k q => wpAny_typeOf_ref (k _ _ at1) (by rw [z1.1]; exact q)
    have asks := PySem.W.exm_one (M := model X.prog X.w) Jg.kIn clsOf hmatch
    have name : ∀ {Q : Value → Shared → Prop} {E : Value → Shared → Prop}, Q c { s' with heap := g } → wpAny (model X.prog X.w) (X.A.mark (some (.ref a))) (eval (.Name x np) X.env) Q E { s' with heap := g } := fun {Q E} q => by
      rcases hc with ⟨hg, hdbg, hm | ⟨hm, hv, hnn⟩⟩
      · exact ld_glob (X := X.suite a ((a, oe) :: (X.pn ++ pins))) Sg hg hm q hdbg
      · exact ld_blt (X := X.suite a ((a, oe) :: (X.pn ++ pins))) Sg hg hm hv q hnn hdbg
    refine name (asks.here ?_)
    cases b with
    | true =>
      refine codeAny_handlers_suite_as ?_
      refine HandSPX.lands_againZ fly fun g2 fly2 up2 => ?_
      have J2 : Inv X pins σ' H' { s' with heap := g2 } := J.landed ground fly2.1 ((up.trans upg).trans up2) os ag
      obtain ⟨oe2, vs2, at2, z2, dat2⟩ := fly2.there
      refine store_ok (X := X.suite a ((a, oe2) :: (X.pn ++ pins))) (v := .ref a) (J2.suite at2 dat2 na aL aF) hN hi (.inl hln) rfl (fun s5 S5 => ?_) (.inr hln)
      have one := (pss_one (ps_set (X := X.suite a ((a, oe2) :: (X.pn ++ pins))) (pos := ap) (pos' := yp) (i := j) hN hj (.inl hjl) (pe_var (pos := ep) (i := i) hi hvn hdn hcn) (hsw _ rfl) (.inr hjl))).run [] s5 _ H' { nx := fun σ6 H6 => σ6 = (σ'.set i (some (.ref a))).set j (some (.ref a)) ∧ H6 = H', rt := fun _ _ => False } S5
        ⟨.ref a, by rw [List.getElem?_set_self (by rw [J.len]; exact hlen)], rfl, rfl⟩
      refine wpAny_mono one (fun f s6 sp => ?_) (fun _ _ z => False.elim z)
      cases f with
      | next =>
        obtain ⟨σ6, H6, S6, rfl, rfl⟩ := sp
        have pinned := S6.pin (a, oe2) (List.mem_append_left _ List.mem_cons_self)
        have Jp : Inv X ((a, oe2) :: pins) ((σ'.set i (some (.ref a))).set j (some (.ref a))) H6 s6 := (S6.unsuite okX).pins_of fun p hp => by
          rcases List.mem_cons.mp hp with e | hp
          · rw [e]; exact pinned
          · exact (S6.unsuite okX).pin p (List.mem_append_right _ hp)
        exact gone_ok Jp hN hi hln fun s7 J7 => ⟨_, _, Inv_track J7 none_0 pinsOff (err_new ⟨oe2, vs2, (J7.pin (a, oe2) (List.mem_append_right _ List.mem_cons_self)).1, z2, dat2⟩), hyes rfl a na⟩
      | brk => obtain ⟨_, _, _, z⟩ := sp; exact False.elim z
      | cont => obtain ⟨_, _, _, z⟩ := sp; exact False.elim z
      | ret u => obtain ⟨_, _, _, _, _, z⟩ := sp; exact False.elim z
    | false =>
      show wpAny _ X.A (handleBy (.ref a) X.env []) _ _ _
      refine wpAny_handleBy_nil ?_
      have fly0 := fly
      obtain ⟨_, _, _, oe', vs', T, oT, ts', at', zz, dat', f1, _⟩ := fly
      unfold PySem.passOn
      refine wpAny_bind (wpAny_field at' dat' f1 ?_)
      rw [if_neg (by simp : ¬ ((Value.ref T == Value.none) = true))]
      have out : wpAny (model X.prog X.w) X.A (setFlight (.ref a) X.env.frame) (fun _ s4 => wpAny (model X.prog X.w) X.A (throw (.ref a) : Sem Flow) (SP X pins D) X.xe s4) X.xe { s' with heap := g } := by
        rw [hf]
        refine HandSPX.setFlight_upZ fly0 fun g2 held up2 => wpAny_throw (tk _ _ ?_)
        exact ⟨a, B, sI, pins, σ', H', cls, d, rfl, J, ground, (up.trans upg).trans up2, .inr (.inr (by rw [hs]; exact held)), na, os, ag, hno rfl⟩
      first
        | exact wpAny_bind (wpAny_pure (wpAny_bind out))
        | exact wpAny_bind out
  refine wpAny_mono run (fun f s1 sp => ?_) fun _ _ z => z
  cases f with
  | next => obtain ⟨σ', H', J', q⟩ := sp; exact wpAny_execs_nil ⟨σ', H', J'.ofTry okX, q⟩
  | brk => obtain ⟨σ', H', J', q⟩ := sp; exact ⟨σ', H', J'.ofTry okX, q⟩
  | cont => obtain ⟨σ', H', J', q⟩ := sp; exact ⟨σ', H', J'.ofTry okX, q⟩
  | ret u => obtain ⟨v, σ', H', J', r, q⟩ := sp; exact ⟨v, σ', H', J'.ofTry okX, r, q⟩
end
end Gw
namespace Gw
open PySem PySem.Spec PyProof.Rows L2
/-! ### defs that may raise, error classes -/
structure Err (K : PySem.W.Frag) (mg : Str → Option Value) (x : Str) (C : Addr) : Prop where
  g : mg x = some (.ref C)
  x : PySem.W.excIn K C [.type "ValueError", .type "Exception", .type "BaseException", .type "object"] "ValueError.__new__" = true
  k : PySem.W.keepIn K (.ref C) = true
  b : PySem.W.subIn K (.ref C) (.type "BaseException") = some true
  t : PySem.W.typeIn K (.ref C) = some (.type "type")
def OkX (P : Program) (w : World) (K : PySem.W.Frag) (mg : Str → Option Value) (base : Heap) (x : Str) (st : Stmt) (ps : List Str) (k : Nat) (sp : Sp) : Prop :=
  ∃ (f : Addr) (fd : FuncData), DefAt K mg x st ps f fd ∧ FnOk P w K mg base (L2.CX P w) k f fd ps sp
theorem DefAt.okX {P : Program} {w : World} {K : PySem.W.Frag} {mg : Str → Option Value} {base : Heap} {x : Str} {st : Stmt} {ps : List Str} {f : Addr} {fd : FuncData} {k : Nat} {sp : Sp}
    (D : DefAt K mg x st ps f fd) (h : FnOk P w K mg base (L2.CX P w) k f fd ps sp) : OkX P w K mg base x st ps k sp := ⟨f, fd, D, h⟩
section
variable {X : Cx} {x : Str} {st : Stmt} {ps ks : List Str} {k : Nat} {sp : Sp} {p pos : Pos} {e : Expr} {es : List Expr} {kws : List Keyword} {t tk : TA} {g : List Value → List Value → List Value} {gV : List V → List V → List V} {E : XK}
theorem pe_okX (h : OkX X.prog X.w X.K X.mg X.base x st ps k sp) (hx : Passes (L2.CX X.prog X.w) X E) (hr : Room k X.A) (hg : Gl X x) (ha : PA X (e :: es) t) (hdb : (x == ("__debug__" : Str)) = false := by decide)
    (he : starEach (e :: es) X.env = (false, eval e X.env) :: starEach es X.env := by rfl) (hpl : (backTo pos (starEach es X.env)).any (·.1) = false := by rfl) : PE X (.Call (.Name x p) (e :: es) [] pos) (tCall sp [] E t) := by
  obtain ⟨f, fd, D, F⟩ := h
  exact pe_call F hr hg D.m D.F.kp D.b .nil hx ha hdb he hpl
theorem pe_okXK0 (h : OkX X.prog X.w X.K X.mg X.base x st ps k sp) (hb : KwOf x st ps ks g gV) (hx : Passes (L2.CX X.prog X.w) X E) (hr : Room k X.A) (hg : Gl X x) (hkw : PK X kws tk) (hall : (backToKw pos (keywordEach kws X.env)).all (·.1.isSome) = true := by rfl)
    (hks : (backToKw pos (keywordEach kws X.env)).filterMap (·.1) = ks := by rfl) (hdb : (x == ("__debug__" : Str)) = false := by decide)
    (hpl : ((backTo pos (starEach [] X.env)).any (·.1) || (backToKw pos (keywordEach kws X.env)).any (·.1.isNone)) = false := by rfl) : PE X (.Call (.Name x p) [] kws pos) (tCallK sp gV E tNil tk) := by
  obtain ⟨f, fd, D, F⟩ := h
  refine ⟨fun pins s σ H Q I h => ?_⟩
  refine wpAny_Call_Name_kw (ld_glob I hg D.m ?_ hdb)
  refine PySem.W.callWith_KW0 (h₀ := X.base) I.ok.mod.kin D.F.kp hall (thn (hkw.run pos pins s σ H _ I h) fun ws s2 ⟨zs, H2, I2, rz, q2⟩ => ⟨I2.kIn, ?_⟩) hpl
  rw [hks]
  exact run_fnk F hr (hb _ _ _ D.F) hx I2 .nil rz q2
end
/-! ### things of any kind: data, or a new dict -/
theorem ty_mono {K : PySem.W.Frag} {H H' : Hp} (s : Same H H') {p : Addr} {kvs : List (Key × V)} (h : H p = some (.dK kvs)) : TyX K H' (.ref p) (.type "dict") := .base (.dK (s _ _ h))
def Th (K : PySem.W.Frag) (G : Hp) (v : V) (x : PyData) : Prop := Dp K G v x ∨ (x = .dict [] ∧ ∃ p, v = .ref p ∧ G p = some (.dK []))
theorem Th.mono {K : PySem.W.Frag} {G G' : Hp} (s : Same G G') {v : V} {x : PyData} (h : Th K G v x) : Th K G' v x := h.imp (dp_mono s x) fun ⟨e, p, e1, e2⟩ => ⟨e, p, e1, s _ _ e2⟩
theorem Th.ty {K : PySem.W.Frag} {G H : Hp} (s : Same G H) {v : V} {x : PyData} (h : Th K G v x) : TyX K H v (.type (tyOf x)) := by
  rcases h with h | ⟨rfl, p, rfl, e⟩
  · exact dp_ty s h
  · exact ty_mono s e
theorem Th.tup {K : PySem.W.Frag} {G : Hp} {v : V} {xs : List PyData} (h : Th K G v (.tuple xs)) : Dp K G v (.tuple xs) := h.elim id fun z => nomatch z.1
theorem ed_isiTh {K : PySem.W.Frag} {σ : L2.St} {G : Hp} {i : Nat} {v : V} {x : PyData} {n : String} {b : Bool} (h : σ[i]? = some (some v)) (hv : Th K G v x) (hk : kitB (tyOf x) n = some b) : EvD K (tCB (rIsi K) (tCons (tVar i) (tCons (tC (.ty n)) tNil))) σ G (.bool b) := fun H s Q q =>
  ⟨v, h, v, .ty n, .type (tyOf x), .type n, b, rfl, .ty n, hv.ty s, kit_ty hk, q _ G H (Nx.refl s) (.bl b)⟩
end Gw
namespace Gw
open PySem PySem.Spec PyProof.Rows L2 LamX
/-! ### a lambda as a value -/
/-- at f stands the lambda with the closure cl, its code at c' -/
def LamAt (f : Addr) (q : Str) (params : Arguments) (body : Expr) (scope : Scope) (cl : List (Str × Addr)) (c' : Addr) (h : Heap) : Prop := ∃ (pm ctv : Value), h.get? f = some (PySem.W.kla_obj "<lambda>" q params body scope cl pm c' ctv)
def LamO (f : Addr) (q : Str) (params : Arguments) (body : Expr) (scope : Scope) (cl : List (Str × Addr)) (c' : Addr) : HO := .ext (LamAt f q params body scope cl c')
theorem lam_new {P : Program} {w : World} {H : Hp} {h : Heap} {f : Addr} {q : Str} {params : Arguments} {body : Expr} {scope : Scope} {cl : List (Str × Addr)} {c' : Addr} (e : LamAt f q params body scope cl c' h) : ObjOk P w H h f (LamO f q params body scope cl c') := by
  obtain ⟨pm, ctv, e⟩ := e
  exact ⟨⟨pm, ctv, e⟩, ⟨_, e⟩, fun h1 h2 ⟨a, b, e1⟩ k => ⟨a, b, k _ e1⟩⟩
def tLamV (T : List (Addr × Str)) (q : Str) (params : Arguments) (body : Expr) (scope : Scope) (cl : List (Str × Addr)) : TE := fun σ H Q =>
  Tabs T H ∧ ∀ f c' H1, ExtN H H1 → Tabs T H1 → H f = none → H1 f = some (LamO f q params body scope cl c') → H1 c' = some (CodeO c' q) → Q (.ref f) H1
section
variable {X : Cx} {T : List (Addr × Str)} {c P : Addr} {params : Arguments} {body : Expr} {scope : Scope} {pos : Pos}
theorem pe_lamV (TB : TabB X.base X.mg c P) (hcode : X.env.code = .ref c) (hm : (P, X.env.qual ++ "<lambda>") ∈ T) (hu : ∀ p ∈ T, p.1 = P → p.2 = X.env.qual ++ "<lambda>") (L : LamS X.env.scope scope) (hdef : defaultsOf params X.env = ([], [])) :
    PE X (.Lambda params body scope pos) (tLamV T (X.env.qual ++ "<lambda>") params body scope (cloFrom X.env.cells scope.names [])) := by
  refine ⟨fun pins s σ H Q I h => ?_⟩
  obtain ⟨hT, h⟩ := h
  obtain ⟨ps, hP, okp, known⟩ := hT _ hm
  have cells := L.has I.ok
  have bmP := TB.bm.keeps I.bk
  have tabP : s.heap.get? P = some { cls := .none, data := .fields ps } := I.hok P _ hP
  refine PySem.W.kla_eval hdef ?_
  cases hit : codeAmong pos ps.toList with
  | some cv =>
    obtain ⟨c', rfl, hco⟩ := known pos cv hit
    refine PySem.W.kla_makeFunctionHit (mg := X.mg) (c := c) (P := P) (ps := ps) (closure_ok cells) I.ok.glob (I.mod.glob.keeps I.bk) hcode (TB.code.keeps I.bk) tabP okp hit bmP fun ctv h' tk keep big => ?_
    have J := I.kept (h' := h') (t' := tk) keep
    have nf : H h'.objs.size = none := I.hok.fresh big
    have J2 := J.laid (t' := tk) (h' := h'.push (PySem.W.kla_obj "<lambda>" (X.env.qual ++ "<lambda>") params body scope (cloFrom X.env.cells scope.names []) ((X.mg "__name__").getD .none) c' ctv)) (a := h'.objs.size) (o := LamO h'.objs.size (X.env.qual ++ "<lambda>") params body scope (cloFrom X.env.cells scope.names []) c')
      (fun b u e => Heap.get?_push_of_some _ e) (Nat.le_refl _) (lam_new ⟨_, ctv, Heap.get?_push_size _ rfl⟩)
    have ext : ∀ b o, H b = some o → upd H h'.objs.size (LamO h'.objs.size (X.env.qual ++ "<lambda>") params body scope (cloFrom X.env.cells scope.names []) c') b = some o := fun b o e => (upd_ne (ne_of_none e nf)).trans e
    exact ⟨.ref h'.objs.size, _, J2, rfl, h _ c' _ (ExtN.of ext) (hT.ext ext) nf upd_same (ext _ _ hco)⟩
  | none =>
    refine PySem.W.kla_makeFunction (mg := X.mg) (c := c) (P := P) (ps := ps) (closure_ok cells) I.ok.glob (I.mod.glob.keeps I.bk) hcode (TB.code.keeps I.bk) tabP okp hit TB.gP bmP fun c' ctv h' tk keep big lt rec tab => ?_
    obtain ⟨c2, oc, vs, t, e2, at2, d2, n2⟩ := rec
    cases e2
    have nc : H c' = none := I.hok.fresh big
    have nPc : P ≠ c' := ne_of_none hP nc
    have J := inv_table (t' := tk) (more := #[rawInt pos.line, rawInt pos.col, .ref c']) (h' := h') I hP (fun b o hb e => keep b o hb e) tab big ⟨oc, vs, t, at2, d2, n2⟩
    generalize hH1 : upd (upd H P (.tbl (ps ++ #[rawInt pos.line, rawInt pos.col, .ref c']))) c' (CodeO c' (X.env.qual ++ "<lambda>")) = H1 at J
    have atc : H1 c' = some (CodeO c' (X.env.qual ++ "<lambda>")) := by rw [← hH1]; exact upd_same
    have atP : H1 P = some (.tbl (ps ++ #[rawInt pos.line, rawInt pos.col, .ref c'])) := by rw [← hH1, upd_ne nPc]; exact upd_same
    have other : ∀ b o, b ≠ P → H b = some o → H1 b = some o := fun b o hb e => by rw [← hH1, upd_ne (ne_of_none e nc), upd_ne hb]; exact e
    have e1 : ExtN H H1 := fun b o e n => other b o (fun z => n ps (Option.some.inj (e.symm.trans (by rw [z]; exact hP)))) e
    have T1 : Tabs T H1 := fun p hp => by
      by_cases hb : p.1 = P
      · rw [hu p hp hb, hb]
        have eL : (ps ++ #[rawInt pos.line, rawInt pos.col, Value.ref c']).toList = ps.toList ++ [rawInt pos.line, rawInt pos.col, .ref c'] := by simp
        refine ⟨_, atP, by rw [eL]; exact PySem.TriplesOk_snoc _ _ _ _ okp, fun p' cv hcv => ?_⟩
        rw [eL] at hcv
        rcases among_app _ okp hcv with z | z
        · obtain ⟨c0, z1, z2⟩ := known p' cv z
          exact ⟨c0, z1, e1 _ _ z2 codeO_ne⟩
        · exact ⟨c', z, atc⟩
      · obtain ⟨ps', z1, z2, z3⟩ := hT p hp
        refine ⟨ps', other _ _ hb z1, z2, fun p' cv hcv => ?_⟩
        obtain ⟨c0, y1, y2⟩ := z3 p' cv hcv
        exact ⟨c0, y1, e1 _ _ y2 codeO_ne⟩
    have nf1 : H1 h'.objs.size = none := J.hok.fresh (Nat.le_refl _)
    have bigf : s.heap.objs.size ≤ h'.objs.size := Nat.le_trans big (Nat.le_of_lt lt)
    have J2 := J.laid (t' := tk) (h' := h'.push (PySem.W.kla_obj "<lambda>" (X.env.qual ++ "<lambda>") params body scope (cloFrom X.env.cells scope.names []) ((X.mg "__name__").getD .none) c' ctv)) (a := h'.objs.size) (o := LamO h'.objs.size (X.env.qual ++ "<lambda>") params body scope (cloFrom X.env.cells scope.names []) c')
      (fun b u e => Heap.get?_push_of_some _ e) (Nat.le_refl _) (lam_new ⟨_, ctv, Heap.get?_push_size _ rfl⟩)
    have ext : ∀ b o, H1 b = some o → upd H1 h'.objs.size (LamO h'.objs.size (X.env.qual ++ "<lambda>") params body scope (cloFrom X.env.cells scope.names []) c') b = some o := fun b o e => (upd_ne (ne_of_none e nf1)).trans e
    exact ⟨.ref h'.objs.size, _, J2, rfl, h _ c' _ (e1.trans (ExtN.of ext)) (T1.ext ext) (I.hok.fresh bigf) upd_same (ext _ _ atc)⟩
end
end Gw
namespace Gw
open PySem PySem.Spec PyProof.Rows L2 LamX
/-! ### a def that calls what it got, called with a lambda that is a value -/
section
variable {X : Cx} {pins : List (Addr × Obj)} {σ : L2.St} {H : Hp} {s : Shared}
/-- what was told of is told of no more -/
theorem Inv_forget {f : Addr} {φ : Heap → Prop} (I : Inv X pins σ H s) (hf : H f = some (.ext φ)) : Inv X pins σ (delH H f) s := by
  have off : ∀ b o, H b = some o → (∀ ψ, o ≠ .ext ψ) → delH H f b = some o := fun b o e n => (delH_ne fun z => n φ (Option.some.inj (e.symm.trans (by rw [z]; exact hf)))).trans e
  have nn : ∀ b, H b = none → delH H f b = none := fun b e => by
    by_cases z : b = f
    · rw [z]; exact delH_same
    · exact (delH_ne z).trans e
  refine ⟨I.ok, I.os, I.bare, ⟨I.base.keep, I.base.slot, fun b o e n hx => nn b (I.base.free b o e n hx), I.base.there, fun b xs e => off b _ (I.base.tups b xs e) (fun _ z => nomatch z), fun b o u e => off b _ (I.base.frzs b o u e) (fun _ z => nomatch z), fun b ps e => ?_⟩, I.loc, I.cell, nn _ I.free, fun x c e => nn _ (I.freeC x c e), fun p hp => ?_, fun b u e => ?_, I.len⟩
  · obtain ⟨more, z⟩ := I.base.tbls b ps e
    exact ⟨more, off b _ z fun _ z => nomatch z⟩
  · obtain ⟨q1, q2, q3⟩ := I.pin p hp
    exact ⟨q1, nn _ q2, q3⟩
  · have hb : b ≠ f := fun z => by rw [z, delH_same] at e; cases e
    rw [delH_ne hb] at e
    exact (I.hok b u e).stay (fun _ _ _ z => z) (fun c z => off c _ z fun _ z => nomatch z) fun c xs z => off c _ z fun _ z => nomatch z
/-- which lambdas may come, and how their bodies read -/
structure Lams (X : Cx) (k : Nat) (Cand : Arguments → Expr → Scope → (XK → TE) → Prop) : Prop where
  sc : ∀ params body scope t, Cand params body scope t → LamS X.env.scope scope
  bind : ∀ params body scope t, Cand params body scope t → ∀ (q : Str) (cl : List (Str × Addr)) (pm cv ctv : Value), bindArgs (PySem.W.kla_fn "<lambda>" q params body scope cl pm cv ctv) ⟨[], []⟩ = pure []
  body : ∀ params body scope t, Cand params body scope t → ∀ (A : Around) (outer : List Env) (s : Shared) (H : Hp) (E : XK) (f c' : Addr), Room k (A.deeper (lamEnv X scope s.heap.objs.size f c')) → PE (lamCx X A outer s H E scope f c') body (t E)
def tGiv (X : Cx) (Cand : Arguments → Expr → Scope → (XK → TE) → Prop) (TT : (XK → Hp → VK → Prop) → Hp → VK → Prop) (te : TE) : TE := fun σ H Q => te σ H fun v H1 => ∃ (f c' : Addr) (params : Arguments) (body : Expr) (scope : Scope) (t : XK → TE),
  Cand params body scope t ∧ v = .ref f ∧ H1 f = some (LamO f (X.env.qual ++ "<lambda>") params body scope (cloFrom X.env.cells scope.names []) c') ∧ H1 c' = some (CodeO c' (X.env.qual ++ "<lambda>")) ∧ c' ≠ f ∧ TT (fun E H' Q' => t E σ H' Q') (delH H1 f) Q
theorem pe_giv {Cand : Arguments → Expr → Scope → (XK → TE) → Prop} {TT : (XK → Hp → VK → Prop) → Hp → VK → Prop} {x a : Str} {g : Addr} {k : Nat} {pg : Arguments} {bg : List Stmt} {sg : Scope} {dV kV doc pm cdv ct oc : Value} {an od : Option Addr} {osl : Array (Option Value)} {Ng : List Str}
    {e : Expr} {te : TE} {p pos : Pos} (hg : Gl X x) (hm : X.mg x = some (.ref g)) (hk : PySem.W.keepIn X.K (.ref g) = true)
    (lk : X.K.lookup g = some ⟨oc, od, .func (PySem.W.fnOf x x pg bg sg dV kV doc pm an cdv ct), osl⟩) (hcg : PySem.W.codeIn X.K cdv x = true) (hb : L2.Binds X.K (PySem.W.fnOf x x pg bg sg dV kV doc pm an cdv ct) [a] []) (Sg : FnScope Ng [a] sg) (hNg : Ng[0]? = some a) (hva : Vis sg a)
    (hG : GivesTo X Ng x sg g cdv bg a (X.env.qual ++ "<lambda>") TT) (hr : Room (k + 2) X.A) (hex : X.ex = []) (C : Lams X k Cand) (he : PE X e te) (hst : starEach [e] X.env = [(false, eval e X.env)] := by rfl)
    (hdb : (x == ("__debug__" : Str)) = false := by decide) (hd : (a == ("__debug__" : Str)) = false := by decide) (hcd : (a == ("__classdict__" : Str)) = false := by decide) :
    PE X (.Call (.Name x p) [e] [] pos) (tGiv X Cand TT te) := by
  refine ⟨fun pins s σ H Q I h => ?_⟩
  refine wpAny_Call_Name_kw (ld_glob I hg hm ?_ hdb)
  refine PySem.W.callWith_K (h₀ := X.base) I.ok.mod.kin hk ?_ hst (by rfl)
  rw [hst]
  show wpAny _ _ (spliced ((false, eval e X.env) :: backTo pos (starEach [] X.env))) _ _ s
  refine Calls.spliced_cons (thn (he.run pins s σ H _ I h) fun u s' ⟨v, H1, I1, rv, f, c', params, body, scope, t, hC, ev, hf, hco, hne, htt⟩ => ?_)
  subst ev
  cases rv
  refine Calls.spliced_nil ⟨I1.kIn, ?_⟩
  obtain ⟨⟨pm', ctv, at1⟩, _⟩ := I1.hok f _ hf
  have I2 := Inv_forget I1 hf
  have fr : f ∉ frs X.stack := fun z => by
    have := I1.stkFree f z
    rw [hf] at this
    cases this
  have hco2 : delH H1 f c' = some (CodeO c' (X.env.qual ++ "<lambda>")) := (delH_ne hne).trans hco
  have rc : codeAny (model X.prog X.w) X.A (.call (.ref g) ⟨[.ref f], []⟩) (CR C8.CX0 X.stack X.prog X.w (delH H1 f) s' Q C8.E0) s' := by
    refine run_ofS (N := Ng) (ps := [a]) (us := [.ref f]) (vs := [.ref f]) lk hcg Sg hr I2.env0 (hb s' [.ref f] I1.kIn rfl) (.cons rfl .nil) rfl fun hr' => ?_
    obtain ⟨t', ht', hq'⟩ := hG f c' s' (delH H1 f) Q (fun E H' Q' => t E σ H' Q') (fun W pn xe E p1 p2 tk hW => pe_act (i := 0) I2 (C.sc _ _ _ _ hC) at1 delH_same fr (C.bind _ _ _ _ hC _ _ _ _ _) tk hW hr' (fun A outer s H hr2 => C.body _ _ _ _ hC A outer s H E f c' hr2) hNg hva hd hcd) hco2 htt
    exact ⟨t', ht'.nox, hq'⟩
  refine wpAny_call (codeAny_mono rc fun r s2 hq => ?_)
  cases r with
  | error e => exact (show False from hq).elim
  | ok fl =>
    cases fl with
    | ret u => exact I2.after hq
    | next => exact False.elim hq
    | brk => exact False.elim hq
    | cont => exact False.elim hq
end
end Gw
namespace Gw
open PySem PySem.Spec PyProof.Rows L2
/-! ### isinstance of None or of an error that was kept -/
def rIsC (K : PySem.W.Frag) : List V → Hp → VK → Prop := fun xs H Q => (∃ (C : Addr) (b : Bool), xs = [.non, .ref C] ∧ PySem.W.kitOne K (.type "NoneType") (.ref C) = some b ∧ Q (.bl b) H) ∨
  ∃ (a D C : Addr) (b : Bool), xs = [.ref a, .ref C] ∧ H a = some (ErrO (.ref D) none a) ∧ ExcC K D ∧ PySem.W.kitOne K (.ref D) (.ref C) = some b ∧ Q (.bl b) H
theorem cr_isC {X : Cx} : CallR X (.builtin "isinstance") (rIsC X.K) := by
  intro pins s σ H xs us Q I r h
  rcases h with ⟨C, b, rfl, e, q⟩ | ⟨a, D, C, b, rfl, ha, T, e, q⟩
  · exact call_isi pins s σ H _ us Q I r ⟨.non, .ref C, .type "NoneType", .ref C, b, rfl, .own C, .base .non, e, q⟩
  · obtain ⟨u1, u2, rfl, r1, r2⟩ := vals2 r
    cases r1
    cases r2
    obtain ⟨⟨oe, vs, at1, ⟨z1, z2⟩, d1⟩, _⟩ := I.hok a _ ha
    have J : PySem.W.InstAt s.heap a oe D none := by
      obtain ⟨oc, od, dat, osl⟩ := oe
      dsimp only at z1 z2 d1
      subst z1 z2 d1
      exact ⟨at1, rfl, rfl, trivial⟩
    exact PySem.W.kia_one (PySem.W.handS_kitx_exc T.hg T.hk T.hs T.hd T.ha T.hn T.ht T.hm) I.kIn J e (fun z => nomatch z) fun tk => ⟨.bl b, H, I.tok tk, rfl, q⟩
end Gw
namespace Gw
open PySem PySem.Spec PyProof.Rows L2 LamX
/-- every lambda whose body reads so -/
def Good (X : Cx) (k : Nat) : Arguments → Expr → Scope → (XK → TE) → Prop := fun params body scope t => LamS X.env.scope scope ∧ (∀ (q : Str) (cl : List (Str × Addr)) (pm cv ctv : Value), bindArgs (PySem.W.kla_fn "<lambda>" q params body scope cl pm cv ctv) ⟨[], []⟩ = pure []) ∧
  ∀ (A : Around) (outer : List Env) (s : Shared) (H : Hp) (E : XK) (f c' : Addr), Room k (A.deeper (lamEnv X scope s.heap.objs.size f c')) → PE (lamCx X A outer s H E scope f c') body (t E)
theorem lams_good {X : Cx} {k : Nat} : Lams X k (Good X k) := ⟨fun _ _ _ _ h => h.1, fun _ _ _ _ h => h.2.1, fun _ _ _ _ h => h.2.2⟩
end Gw
namespace Gw
open PySem PySem.Spec PyProof.Rows L2
/-- one of several defs that may raise, all of one promise, held by a name -/
structure HeldX (P : Program) (w : World) (K : PySem.W.Frag) (mg : Str → Option Value) (base : Heap) (k : Nat) (sp : Sp) (f : Addr) : Prop where
  ex : ∃ (fd : FuncData) (ps : List Str), FnOk P w K mg base (L2.CX P w) k f fd ps sp ∧ PySem.W.keepIn K (.ref f) = true ∧ Binds K fd ps []
theorem OkX.held {P : Program} {w : World} {K : PySem.W.Frag} {mg : Str → Option Value} {base : Heap} {x : Str} {st : Stmt} {ps : List Str} {k : Nat} {sp : Sp} (h : OkX P w K mg base x st ps k sp) : ∃ f, mg x = some (.ref f) ∧ HeldX P w K mg base k sp f := by
  obtain ⟨f, fd, D, F⟩ := h
  exact ⟨f, D.m, ⟨fd, ps, F, D.F.kp, D.b⟩⟩
def tHeld (i : Nat) (S : Addr → Prop) (sp : Sp) (E : XK) (t : TA) : TE := fun σ H Q => ∃ f, σ[i]? = some (some (.ref f)) ∧ S f ∧ t σ H fun vs H1 => sp (vs ++ []) H1 Q E
theorem pe_held {X : Cx} {S : Addr → Prop} {sp : Sp} {E : XK} {k i : Nat} {x : Str} {p pos : Pos} {e : Expr} {es : List Expr} {t : TA} (A : ∀ f, S f → HeldX X.prog X.w X.K X.mg X.base k sp f) (hx : Passes (L2.CX X.prog X.w) X E) (hr : Room k X.A) (hN : X.N[i]? = some x) (hv : Vis X.env.scope x) (ha : PA X (e :: es) t)
    (hdb : (x == ("__debug__" : Str)) = false := by decide) (hcd : (x == ("__classdict__" : Str)) = false := by decide)
    (he : starEach (e :: es) X.env = (false, eval e X.env) :: starEach es X.env := by rfl) (hpl : (backTo pos (starEach es X.env)).any (·.1) = false := by rfl) : PE X (.Call (.Name x p) (e :: es) [] pos) (tHeld i S sp E t) := by
  refine ⟨fun pins s σ H Q I h => ?_⟩
  obtain ⟨f, hs, hS, ht⟩ := h
  obtain ⟨fd, ps, F, hk, hb⟩ := (A f hS).ex
  exact (pe_callL (i := i) (f := f) (sp := sp) (dvs := []) (E := E) F hr hN hv hk hb .nil hx ha hdb hcd he hpl).run pins s σ H Q I ⟨hs, ht⟩
end Gw
namespace Gw
open PySem PySem.Spec PyProof.Rows L2
/-! ### statements over a view -/
section
variable {K : PySem.W.Frag} {σ : L2.St} {G H : Hp} {te ta tb : TE} {tt tu : TT} {tA tR : TA} {d e z : PyData} {ds es : List PyData} {t u : TS} {D : Ends}
theorem seq_let {i : Nat} (h : EvD K te σ G d) (s : Same G H) (k : ∀ v G1 H1, Nx G H G1 H1 → Dp K G1 v d → u D (σ.set i (some v)) H1) : tSeq (tAsg te (gName i)) u D σ H := h H s _ fun v G1 H1 n hd => k v G1 H1 n hd
theorem asg_let {i : Nat} (h : EvD K te σ G d) (s : Same G H) (k : ∀ v G1 H1, Nx G H G1 H1 → Dp K G1 v d → D.nx (σ.set i (some v)) H1) : tAsg te (gName i) D σ H := h H s _ fun v G1 H1 n hd => k v G1 H1 n hd
theorem seq_letN {i : Nat} (h : EvN K te σ G ds) (s : Same G H) (k : ∀ p vs G1 H1, Nx G H G1 H1 → H p = none → H1 p = some (.lst vs) → DpAll K G1 vs ds → u D (σ.set i (some (.ref p))) H1) : tSeq (tAsg te (gName i)) u D σ H := h H s _ fun p vs G1 H1 n hp _ e ha => k p vs G1 H1 n hp e ha
theorem seq_chk (h : EvB K tt σ G false) (s : Same G H) (k : ∀ G1 H1, Nx G H G1 H1 → u D σ H1) : tSeq (tIfS tt t tNext) u D σ H := h H s _ fun G1 H1 n => if_off rfl (k G1 H1 n)
theorem if_chk (h : EvB K tt σ G false) (s : Same G H) (k : ∀ G1 H1, Nx G H G1 H1 → D.nx σ H1) : tIfS tt t tNext D σ H := h H s _ fun G1 H1 n => if_off rfl (k G1 H1 n)
theorem eb_or0 (h1 : EvB K tt σ G false) (h2 : EvB K tu σ G false) : EvB K (tOr tt tu) σ G false := eb_or (a := false) (b := false) h1 fun _ => h2
theorem g21_dp {G' : Hp} {vs zs : List V} {x y : PyData} (h : DpAll K G' vs []) (h' : DpAll K G' zs [x, y]) : DpAll K G' (g21 vs zs) [y, x] := by
  cases h
  obtain _ | ⟨a, _ | ⟨b, _ | _⟩⟩ := h'
  exact .cons b (.cons a .nil)
end
end Gw
namespace Gw
open PySem PySem.Spec PyProof.Rows L2 LamX
/-! ### views without tables -/
def noT (G : Hp) : Hp := fun a => match G a with | some (.tbl _) => none | o => o
theorem noT_of {G : Hp} {a : Addr} {o : HO} (h : G a = some o) (n : ∀ ps, o ≠ .tbl ps) : noT G a = some o := by
  unfold noT
  rw [h]
  split
  · rename_i ps e; exact absurd (Option.some.inj e) (n ps)
  · rfl
theorem noT_inv {G : Hp} {a : Addr} {o : HO} (h : noT G a = some o) : G a = some o ∧ ∀ ps, o ≠ .tbl ps := by
  unfold noT at h
  split at h
  · cases h
  · rename_i x
    exact ⟨h, fun ps e => x ps (by rw [h, e])⟩
theorem noT_same {G : Hp} : Same (noT G) G := fun a o h => (noT_inv h).1
theorem noT_ext {G H H' : Hp} (s : Same (noT G) H) (e : ExtN H H') : Same (noT G) H' := fun a o h => e a o (s a o h) (noT_inv h).2
theorem noT_mono {G H : Hp} (s : Same G H) : Same (noT G) (noT H) := fun a o h => noT_of (s _ _ (noT_inv h).1) (noT_inv h).2
theorem noT_none {G : Hp} {a : Addr} (h : G a = none) : noT G a = none := by unfold noT; rw [h]
theorem sqT_noT {K : PySem.W.Frag} {G : Hp} {a : Addr} {xs : List V} (h : SqT K G a xs) : SqT K (noT G) a xs := by
  rcases h with (h | ⟨o, h⟩) | h
  · exact .inl (.inl (noT_of h fun _ z => nomatch z))
  · exact .inl (.inr ⟨o, noT_of h fun _ z => nomatch z⟩)
  · exact .inr h
theorem sqL_noT {K : PySem.W.Frag} {G : Hp} {a : Addr} {xs : List V} (h : SqL K G a xs) : SqL K (noT G) a xs := by
  rcases h with (h | ⟨o, h⟩) | h
  · exact .inl (.inl (noT_of h fun _ z => nomatch z))
  · exact .inl (.inr ⟨o, noT_of h fun _ z => nomatch z⟩)
  · exact .inr h
mutual
theorem dp_noT {K : PySem.W.Frag} {H : Hp} : ∀ (d : PyData) {v : V}, Dp K H v d → Dp K (noT H) v d
  | .none, _, .non => .non
  | .bool b, _, .bl _ => .bl b
  | .int i, _, .int _ => .int i
  | .str x, _, .str _ => .str x
  | .list ds, _, .lst hs ha => .lst (sqL_noT hs) (dpa_noT ds ha)
  | .tuple ds, _, .tup hs ha => .tup (sqT_noT hs) (dpa_noT ds ha)
theorem dpa_noT {K : PySem.W.Frag} {H : Hp} : ∀ (ds : List PyData) {vs : List V}, DpAll K H vs ds → DpAll K (noT H) vs ds
  | [], _, .nil => .nil
  | d :: ds, _, .cons h t => .cons (dp_noT d h) (dpa_noT ds t)
end
theorem Drw.noT {H : Hp} {d l c : Addr} (D : Drw H d l c) : Drw (noT H) d l c := by
  obtain ⟨r, t, ls, cs, h1, h2, h3, h4, h5⟩ := D.at'
  exact ⟨D.ne, r, t, ls, cs, noT_of h1 (fun _ z => nomatch z), noT_of h2 (fun _ z => nomatch z), noT_of h3 (fun _ z => nomatch z), h4, h5⟩
/-! ### what a draw's deed leaves -/
theorem Nd.off {d l c b : Addr} {H H' : Hp} {o : HO} (n : Nd d l H H') (D : Drw H d l c) (h : H b = some o) (n1 : ∀ kvs, o ≠ .dK kvs) (n2 : ∀ xs, o ≠ .lst xs) : H' b = some o := by
  obtain ⟨r, t, ls, cs, h1, h2, h3, h4, h5⟩ := D.at'
  exact n.hh b o (ne_of h h1 (n1 _)) (ne_of h h2 (n2 _)) h
theorem tabs_nd {T : List (Addr × Str)} {d l c : Addr} {H H' : Hp} (t : Tabs T H) (n : Nd d l H H') (D : Drw H d l c) : Tabs T H' := fun p hp => by
  obtain ⟨ps, h1, h2, h3⟩ := t p hp
  refine ⟨ps, n.off D h1 (fun _ z => nomatch z) (fun _ z => nomatch z), h2, fun pos cv hc => ?_⟩
  obtain ⟨c0, e1, e2⟩ := h3 pos cv hc
  exact ⟨c0, e1, n.off D e2 (fun _ z => nomatch z) (fun _ z => nomatch z)⟩
theorem tabs_same {T : List (Addr × Str)} {H H' : Hp} (t : Tabs T H) (s : Same H H') : Tabs T H' := t.ext s
theorem tabs_one {H : Hp} {P : Addr} {q : Str} (h : H P = some (.tbl #[])) : Tabs [(P, q)] H := fun p hp => by
  rw [List.mem_singleton.mp hp]
  exact TabS.nil h
/-! data without lists -/
mutual
def noL : PyData → Bool
  | .list _ => false
  | .dict _ => false
  | .tuple ds => noLA ds
  | _ => true
def noLA : List PyData → Bool
  | [] => true
  | d :: ds => noL d && noLA ds
end
mutual
theorem dp_nd {K : PySem.W.Frag} {d l c : Addr} {H H' : Hp} (n : Nd d l H H') (D : Drw H d l c) : ∀ (x : PyData) {v : V}, noL x = true → Dp K H v x → Dp K H' v x
  | .none, _, _, .non => .non
  | .bool b, _, _, .bl _ => .bl b
  | .int i, _, _, .int _ => .int i
  | .str x, _, _, .str _ => .str x
  | .tuple ds, _, z, .tup hs ha => .tup (n.seqT D hs) (dpa_nd n D ds (by rw [noL] at z; exact z) ha)
theorem dpa_nd {K : PySem.W.Frag} {d l c : Addr} {H H' : Hp} (n : Nd d l H H') (D : Drw H d l c) : ∀ (ds : List PyData) {vs : List V}, noLA ds = true → DpAll K H vs ds → DpAll K H' vs ds
  | [], _, _, .nil => .nil
  | x :: ds, _, z, .cons h t => by
    rw [noLA, Bool.and_eq_true] at z
    exact .cons (dp_nd n D x z.1 h) (dpa_nd n D ds z.2 t)
end
theorem noLA_ints : ∀ ns : List Int, noLA (ns.map .int) = true
  | [] => rfl
  | n :: ns => by rw [List.map_cons, noLA, noLA_ints ns]; rfl
/-! ### lambdas are no codes -/
theorem lam_code {f : Addr} {q q2 : Str} {params : Arguments} {body : Expr} {scope : Scope} {cl : List (Str × Addr)} {c' : Addr} : LamO f q params body scope cl c' ≠ CodeO f q2 := fun z => by
  have e := HO.ext.inj z
  let o := PySem.W.kla_obj "<lambda>" q params body scope cl .none c' .none
  let h0 : Heap := ⟨Array.replicate f default, {}⟩
  have g : (h0.push o).get? f = some o := by
    have := Heap.get?_push_size (o := o) h0 rfl
    have e2 : h0.objs.size = f := Array.size_replicate
    rw [e2] at this
    exact this
  have h1 : LamAt f q params body scope cl c' (h0.push o) := ⟨.none, .none, g⟩
  rw [e] at h1
  obtain ⟨oc, vs, t, g2, d, _⟩ := h1
  rw [g] at g2
  cases g2
  cases d
theorem tabs_del {T : List (Addr × Str)} {H : Hp} {f : Addr} {q : Str} {params : Arguments} {body : Expr} {scope : Scope} {cl : List (Str × Addr)} {c' : Addr} (t : Tabs T H) (hf : H f = some (LamO f q params body scope cl c')) : Tabs T (delH H f) := fun p hp => by
  obtain ⟨ps, h1, h2, h3⟩ := t p hp
  refine ⟨ps, (delH_ne (ne_of h1 hf fun z => nomatch z)).trans h1, h2, fun pos cv hc => ?_⟩
  obtain ⟨c0, e1, e2⟩ := h3 pos cv hc
  refine ⟨c0, e1, (delH_ne fun z => ?_).trans e2⟩
  subst z
  rw [hf] at e2
  exact lam_code (Option.some.inj e2)
theorem code_ne {H : Hp} {f c1 : Addr} {q q2 : Str} {params : Arguments} {body : Expr} {scope : Scope} {cl : List (Str × Addr)} {c' : Addr} (hf : H f = some (LamO f q params body scope cl c')) (hc : H c1 = some (CodeO c1 q2)) : c1 ≠ f := fun z => by
  subst z
  rw [hf] at hc
  exact lam_code (Option.some.inj hc)
theorem same_del {G H : Hp} {f : Addr} (s : Same G H) (g : G f = none) : Same G (delH H f) := fun a o h => (delH_ne (ne_of_none h g)).trans (s a o h)
theorem pick_go {K : PySem.W.Frag} {H : Hp} {d l c p : Addr} {xs : List V} {Q : VK} {E : XK} (D : Drw H d l c) (hp : H p = none) (h0 : 0 < xs.length) (h1 : xs.length < 100) (q : ∀ v H', v ∈ xs → Nd d l H H' → Drw H' d l c → Q v H') : spPick K [.ref d, .ref p] (upd H p (.lst xs)) Q E := by
  obtain ⟨o1, o2, o3⟩ := D.off hp
  have s : Same H (upd H p (.lst xs)) := fun b o e => by rw [upd_ne (ne_of_none e hp)]; exact e
  exact ⟨d, l, c, p, xs, rfl, D.upd o1 o2 o3, o2, SqL.of upd_same, h0, by omega, fun v H' hv n D' => q v H' hv ((Nd.of s).trans n) D'⟩
theorem same_upd {H : Hp} {p : Addr} {o : HO} (hp : H p = none) : Same H (upd H p o) := fun b u e => by rw [upd_ne (ne_of_none e hp)]; exact e
theorem rgV_ints (lo hi : Int) : rgV lo hi = ((List.range (hi - lo).toNat).map fun (i : Nat) => lo + (i : Int)).map V.int := by unfold rgV; rw [List.map_map]; rfl
theorem ro_repT {K : PySem.W.Frag} {ds : List PyData} {k : Int} (hne : ds ≠ []) (h1 : 2 ≤ k) (h2 : k ≤ 1000) (hz : ds.length ≤ 1000) : ROp K (rRepT K) (.tuple ds) (.int k) (.tuple (List.replicate k.toNat ds).flatten) := fun G H s vx vy dx dy Q q => by
  rw [dp_int dy]
  cases dx with
  | @tup a xs _ hs ha =>
    have l1 := dpa_length ha
    refine ⟨a, k, xs, rfl, rfl, same_tup s hs, fun e => hne ?_, h1, h2, by omega, fun p hp => ?_⟩
    · subst e; cases ha; rfl
    · have n := Nx.new (o := .tup (List.replicate k.toNat xs).flatten) s hp
      refine q _ _ _ n (.tup (SqT.of upd_same) ?_)
      have rep : ∀ m : Nat, DpAll K (L2.upd G p (.tup (List.replicate k.toNat xs).flatten)) (List.replicate m xs).flatten (List.replicate m ds).flatten := fun m => by
        induction m with
        | zero => exact .nil
        | succ m ih => rw [List.replicate_succ, List.replicate_succ, List.flatten_cons, List.flatten_cons]; exact dpa_append (dpa_mono n.gg _ ha) ih
      exact rep _
theorem rcl_listT {K : PySem.W.Frag} {ds : List PyData} : RCl K (rListQ K) [.tuple ds] (.list ds) := fun G H s vs hv Q q => by
  cases hv with
  | cons h t =>
    cases t
    cases h with
    | @tup a xs _ hs ha =>
      refine ⟨_, _, rfl, .inr (same_tup s hs), fun l hl => ?_⟩
      have n := Nx.new (o := .lst xs) s hl
      exact q _ _ _ n (.lst (SqL.of upd_same) (dpa_mono n.gg _ ha))
theorem seq_forN {K : PySem.W.Frag} {tl : TE} {g : TG} {tb u : TS} {D : Ends} {σ : L2.St} {G H : Hp} {ds : List PyData} (h : EvN K tl σ G ds) (s : Same G H)
    (k : ∀ p vs G1 H1, Nx G H G1 H1 → H p = none → H1 p = some (.lst vs) → DpAll K G1 vs ds → tFor (iList K (tC (.ref p))) g tb { D with nx := u D } σ H1) : tSeq (tFor (iList K tl) g tb) u D σ H := h H s _ fun p vs G' H' n hp _ e ha => k p vs G' H' n hp e ha
theorem lay_ints (zs : List Int) : ∀ d ∈ zs.map PyData.int, d.canLay0 = true ∧ d.depth ≤ 2 := fun d hd => by
  obtain ⟨z, _, rfl⟩ := List.mem_map.mp hd
  exact ⟨rfl, by simp [PyData.depth]⟩
theorem g1_dp {K : PySem.W.Frag} {G' : Hp} {vs zs : List V} {x : PyData} (h : DpAll K G' vs []) (h' : DpAll K G' zs [x]) : DpAll K G' (g1 vs zs) [x] := by
  cases h
  obtain _ | ⟨a, _ | _⟩ := h'
  exact .cons a .nil
theorem th_noT {K : PySem.W.Frag} {G : Hp} {v : V} {x : PyData} (h : Th K G v x) : Th K (noT G) v x := h.imp (dp_noT x) fun ⟨e, p, e1, e2⟩ => ⟨e, p, e1, noT_of e2 fun _ z => nomatch z⟩
/-- lists of things -/
def ThA (K : PySem.W.Frag) (G : Hp) (vs : List V) (ds : List PyData) : Prop := ∀ (i : Nat) (v : V), vs[i]? = some v → ∃ x, ds[i]? = some x ∧ Th K G v x
def EvT (K : PySem.W.Frag) (ta : TA) (σ : L2.St) (G : Hp) (n : Nat) (ds : List PyData) : Prop := ∀ H, Same G H → ∀ Q : List V → Hp → Prop, (∀ vs G' H', Nx G H G' H' → vs.length = n → ThA K G' vs ds → Q vs H') → ta σ H Q
section
variable {K : PySem.W.Frag} {σ : L2.St} {G : Hp} {te : TE} {tR : TA} {d : PyData} {ds : List PyData} {n : Nat}
theorem ThA.cons {v : V} {vs : List V} (h : Th K G v d) (t : ThA K G vs ds) : ThA K G (v :: vs) (d :: ds) := fun i u e => by
  cases i with
  | zero => cases e; exact ⟨d, rfl, h⟩
  | succ i => exact t i u e
theorem EvT.mono {G1 : Hp} (h : EvT K tR σ G n ds) (g : Same G G1) : EvT K tR σ G1 n ds := fun H s Q q => h H (g.trans s) Q fun vs G' H' m hl ht => by
  obtain ⟨G2, n2, s2⟩ := m.over g s
  exact q vs G2 H' n2 hl fun i v e => by
    obtain ⟨x, e1, e2⟩ := ht i v e
    exact ⟨x, e1, e2.mono s2⟩
theorem et_nil : EvT K tNil σ G 0 [] := fun H s _ q => q [] G H (Nx.refl s) rfl fun i v e => nomatch e
theorem et_cons (h : EvD K te σ G d) (hr : EvT K tR σ G n ds) : EvT K (tCons te tR) σ G (n + 1) (d :: ds) := fun H s Q q =>
  h H s _ fun v G1 H1 n1 hv => (hr.mono n1.gg) H1 n1.gh _ fun vs G2 H2 n2 hl ht => q (v :: vs) G2 H2 (n1.trans n2) (by rw [List.length_cons, hl]) (ThA.cons (.inl (dp_mono n2.gg d hv)) ht)
theorem et_dict (h : ∀ H, Same G H → ∀ Q : VK, (∀ p, H p = none → Q (.ref p) (upd H p (.dK []))) → te σ H Q) (hr : EvT K tR σ G n ds) : EvT K (tCons te tR) σ G (n + 1) (.dict [] :: ds) := fun H s Q q =>
  h H s _ fun p hp => by
    have n1 := Nx.new (o := .dK []) s hp
    exact (hr.mono n1.gg) _ n1.gh _ fun vs G2 H2 n2 hl ht => q (.ref p :: vs) G2 H2 (n1.trans n2) (by rw [List.length_cons, hl]) (ThA.cons (.inr ⟨rfl, p, rfl, n2.gg _ _ upd_same⟩) ht)
theorem seq_forT {tA : TA} {g : TG} {tb u : TS} {D : Ends} {H : Hp} (h : EvT K tA σ G n ds) (s : Same G H) (hz : n ≤ sizeLine)
    (k : ∀ p vs G1 H1, Nx G H G1 H1 → H1 p = some (.lst vs) → ThA K G1 vs ds → tFor (iList K (tC (.ref p))) g tb { D with nx := u D } σ H1) : tSeq (tFor (iList K (tLst tA)) g tb) u D σ H := h H s _ fun vs G' H' m hl ht => ⟨by rw [hl]; exact hz, fun p hp => by
      have n2 := Nx.new (o := .lst vs) m.gh hp
      exact k p vs _ _ (m.trans n2) upd_same fun i v e => by
        obtain ⟨x, e1, e2⟩ := ht i v e
        exact ⟨x, e1, e2.mono n2.gg⟩⟩
end
theorem for_goT {K : PySem.W.Frag} {σ : L2.St} {G : Hp} {ds : List PyData} {n : Nat} {tA : TA} {g : TG} {tb : TS} {D : Ends} {H : Hp} (h : EvT K tA σ G n ds) (s : Same G H) (hz : n ≤ sizeLine)
    (k : ∀ p vs G1 H1, Nx G H G1 H1 → H1 p = some (.lst vs) → ThA K G1 vs ds → tFor (iList K (tC (.ref p))) g tb D σ H1) : tFor (iList K (tLst tA)) g tb D σ H := h H s _ fun vs G' H' m hl ht => ⟨by rw [hl]; exact hz, fun p hp => by
      have n2 := Nx.new (o := .lst vs) m.gh hp
      exact k p vs _ _ (m.trans n2) upd_same fun i v e => by
        obtain ⟨x, e1, e2⟩ := ht i v e
        exact ⟨x, e1, e2.mono n2.gg⟩⟩
theorem nx_of {D : Ends} {σ : L2.St} {H : Hp} (h : D.nx σ H) : tNext D σ H := h
/-! ### the law's judges -/
section
variable {K : PySem.W.Frag} {σ : L2.St} {G H : Hp} {ta tb : TE}
theorem isc_yes {D a : Addr} {Q : VK} (T : ExcC K D) (hk : PySem.W.kitOne K (.ref D) (.ref D) = some true) (ha : H a = some (ErrO (.ref D) none a)) (q : Q (.bl true) H) : rIsC K [.ref a, .ref D] H Q := .inr ⟨a, D, D, true, rfl, ha, T, hk, q⟩
end
end Gw
namespace PySem
namespace SupX
open PySem.W PySem.Calls PyProof.Rows PySem.HandSPX
/-! ### own errors whose __init__ calls super().__init__(text) and keeps one thing -/
def eA (f : Str) (p1 p2 : Pos) : Arguments := { posonlyargs := [], args := [{ arg := "self", annotation := none, pos := p1 }, { arg := f, annotation := none, pos := p2 }], vararg := none, kwonlyargs := [], kw_defaults := [], kwarg := none, defaults := [] }
def eB (f txt : Str) (q1 q2 q3 q4 q5 q6 r1 r2 r3 r4 : Pos) : List Stmt :=
  [.Expr (.Call (.Attribute (.Call (.Name "super" q1) [] [] q2) "__init__" q3) [.Constant (.str txt) 0 q4] [] q5) q6, .Assign [.Attribute (.Name "self" r1) f r2] (.Name f r3) r4]
def eS (f : Str) : Scope := { kind := .function, names := [("self", .local), (f, .local), ("__class__", .free), ("super", .globalImplicit)], isGenerator := false, isCoroutine := false, more := [] }
/-- what is asked of the name of the thing that is kept -/
structure FldOk (f : Str) : Prop where
  l1 : (eS f).names.lookup ("self" : Str) = some .local
  l2 : (eS f).names.lookup f = some .local
  l3 : (eS f).names.lookup ("__class__" : Str) = some .free
  l4 : (eS f).names.lookup ("super" : Str) = some .globalImplicit
  nc : ∀ x ∈ (eS f).names, x.2 ≠ .cell
  nd : (f == ("__debug__" : Str)) = false
  ns : (f == ("self" : Str)) = false
  bd : ∀ (qn : Str) (p1 p2 : Pos) (b : List Stmt) (doc pm : Value) (an : Option Addr) (cd ct : Value) (cc : Addr) (a v : Value), bindArgs (ksFn "__init__" qn (eA f p1 p2) b (eS f) .none .none doc pm an cd ct cc) ⟨[a, v], []⟩ = pure [(("self" : Str), a), (f, v)]
theorem fld_part : FldOk "part" := ⟨rfl, rfl, rfl, rfl, by decide, rfl, rfl, fun _ _ _ _ _ _ _ _ _ _ _ _ => rfl⟩
theorem fld_most : FldOk "most" := ⟨rfl, rfl, rfl, rfl, by decide, rfl, rfl, fun _ _ _ _ _ _ _ _ _ _ _ _ => rfl⟩
structure SupTxt (prog : Program) (K : Frag) (mg : Str → Option Value) (x f : Str) (C fI : Addr) : Prop where
  gC : mg x = some (.ref C)
  cls : ∃ nm q N bs bm sn sub ab col dd k0 k1 k2 k3 k5, K.lookup C = some (excClassObj nm q C N bs bm true sn sub ab col dd k0 k1 k2 k3 k5 "ValueError.__new__") ∧ refsVE bm = true
  sa : findIn K (.ref C) "__setattr__" = some (some (.builtin "object.__setattr__"))
  ga : findIn K (.ref C) "__getattribute__" = some (some (.builtin "BaseException.__getattribute__"))
  gg : findIn K (.ref C) "__getattr__" = some none
  noN : findIn K (.ref C) f = some none
  iC : findIn K (.ref C) "__init__" = some (some (.ref fI))
  tC : typeIn K (.ref fI) = some (.type "function")
  kC : keepIn K (.ref C) = true
  exC : subIn K (.ref C) (.type "BaseException") = some true
  veC : subIn K (.ref C) (.type "ValueError") = some true
  tyC : typeIn K (.ref C) = some (.type "type")
  hdC : hasDictIn K C = true
  mC : mroIn K C (.ref C) = some true
  sup : ks_superIn K C C "__init__" = some (some (.builtin "ValueError.__init__"))
  op : nsIn K cStatics "thirdparty.any" = some none
  noS : mg "super" = none
  top : (prog.main.scope.names.lookup ("super" : Str)).isSome = false
  nf : FldOk f
  fn : ∃ (oc : Value) (od : Option Addr) (doc pm : Value) (an : Option Addr) (cda : Addr) (ct : Value) (osl : Array (Option Value)) (cc : Addr) (p1 p2 : Pos) (txt : Str) (q1 q2 q3 q4 q5 q6 r1 r2 r3 r4 : Pos) (qn : Str) (ccl cl : Value) (cdd cld : Option Addr) (vs : Array Value) (ccs csl : Array (Option Value)) (file : Str) (tf : Tok), (q3.endLine == q5.line) = true ∧
    K.lookup fI = some ⟨oc, od, .func (ksFn "__init__" qn (eA f p1 p2) (eB f txt q1 q2 q3 q4 q5 q6 r1 r2 r3 r4) (eS f) .none .none doc pm an (.ref cda) ct cc), osl⟩ ∧ codeIn K (.ref cda) qn = true ∧
    K.lookup cda = some ⟨ccl, cdd, .fields vs, ccs⟩ ∧ vs[2]? = some (.str file tf) ∧ ((prog.main.file : Str) == file) = true ∧ K.lookup cc = some ⟨cl, cld, .cell (some (.ref C)), csl⟩
theorem sup_he {env : Env} {txt : Str} {q1 q2 q3 q4 q5 : Pos} (hq : (q3.endLine == q5.line) = true) : eval (.Call (.Attribute (.Call (.Name "super" q1) [] [] q2) "__init__" q3) [.Constant (.str txt) 0 q4] [] q5) env = (do
      let ov ← attributeBase (.Call (.Name "super" q1) [] [] q2) "__init__" env (eval (.Call (.Name "super" q1) [] [] q2) env)
      standAt q3.atName
      let (f, first) ← holding [ov] (getMethod ov "__init__" (do return (← importBound (.Call (.Name "super" q1) [] [] q2) env).getD true))
      callWith q5 f first (backTo q5 (starEach [.Constant (.str txt) 0 q4] env)) []) := by
  have e : methodCallPos true (.Call (.Name "super" q1) [] [] q2) env q3 q5 = pure q5 := if_pos (by rw [hq]; rfl)
  show (do
      let ov ← attributeBase (.Call (.Name "super" q1) [] [] q2) "__init__" env (eval (.Call (.Name "super" q1) [] [] q2) env)
      standAt q3.atName
      let (f, first) ← holding [ov] (getMethod ov "__init__" (do return (← importBound (.Call (.Name "super" q1) [] [] q2) env).getD true))
      let callPos ← methodCallPos true (.Call (.Name "super" q1) [] [] q2) env q3 q5
      callWith callPos f first (backTo q5 (starEach [.Constant (.str txt) 0 q4] env)) []) = _
  rw [e]
  simp only [pure_bind]
/-! the bound __init__ of ValueError, called -/
section
variable {prog : Program} {w : World} {A : Around} {E : Value → Shared → Prop} {h : Heap} {g : Array GenState} {d : Drawn} {t : Nat} {os : OsState}
variable {nm q : Str} {C N : Addr} {bs bm : List Value} {hdct : Bool} {sn : List Str} {sub : List Value} {ab : Bool} {col : Option Bool} {dd : Option Addr} {k0 k1 k2 k3 k5 : Option Value}
theorem call_mw {u e t0 : Addr} {rest : List Value} {Q : Value → Shared → Prop}
    (hC : h.get? C = some (excClassObj nm q C N bs bm hdct sn sub ab col dd k0 k1 k2 k3 k5 "ValueError.__new__")) (he : h.get? e = some (excO C t0)) (hu : h.get? u = some (kxs_mw "ValueError.__init__" e)) (hrest : rest.length ≤ sizeLine)
    (hq : ∀ h' t1, (∀ b o, b ≠ e → h.get? b = some o → h'.get? b = some o) → h'.get? e = some (excO C t1) → Q .none ⟨h', g, d, t, os⟩) :
    wpAny (model prog w) A (call (.ref u) rest) Q E ⟨h, g, d, t, os⟩ := by
  refine wpAny_call (codeAny_of_tree ?_)
  show wpAny _ A.in1 (callAny (.ref u) ⟨rest, []⟩) _ _ _
  simp only [callAny]
  refine wpAny_bind (wpAny_load hu ?_)
  simp only [kxs_mw, show (Value.type "method-wrapper" == Value.type "method" || Value.type "method-wrapper" == Value.type "builtin_function_or_method" || Value.type "method-wrapper" == Value.type "method-wrapper") = true by decide, if_true]
  refine W.KFB.if_so (by decide) ?_
  refine wpAny_bind (check_bound_init F.excBase_ValueError.toExcCallFacts hC he rfl ?_)
  refine wpAny_bind (wpAny_pure (wpAny_pure ?_))
  refine ⟨plainId_quiet F.excBase_ValueError.init.plain _, codeAny_builtin F.excBase_ValueError.initEntry ?_⟩
  exact exc_init_tree (cls := .ref C) (t0 := t0) (dv := none) (c2 := .none) (c3 := .none) (b4 := .bool false) he hrest fun h' k e' _ => hq h' _ k e'
end
structure InitEnd (h h' : Heap) (x C dx t1 : Addr) (f : Str) (v : Value) : Prop where
  keep : ∀ b o, b ≠ x → h.get? b = some o → h'.get? b = some o
  obj : h'.get? x = some { cls := .ref C, dict := some dx, data := .fields #[.ref t1, .none, .none, .none, .bool false, .none] }
  dbig : h.objs.size ≤ dx
  dne : dx ≠ x
  ns : h'.Ns1 dx (fun y => if y = f then some v else none)
theorem one_size (v : Value) : [v].length ≤ sizeLine := by
  rw [sizeLine_eq]
  exact (by decide : 1 ≤ 16777216)
theorem kept_but {K : Frag} {h h' : Heap} {x : Addr} (X : K.In h) (hx : K.lookup x = none) (k : ∀ b o, b ≠ x → h.get? b = some o → h'.get? b = some o) : K.In h' := fun a o e =>
  k a o (fun z => by rw [z, hx] at e; cases e) (X a o e)
section
variable {prog : Program} {w : World} {A : Around} {E : Value → Shared → Prop} {R : Result → Shared → Prop} {s : Shared} {K : Frag} {mg mb : Str → Option Value} {xn f : Str} {C fI : Addr}
theorem sup_init (T : SupTxt prog K mg xn f C fI) {x t0 : Addr} {v : Value} (X : K.In s.heap) (hg : s.heap.Ns mainGlobals mg) (hb : s.heap.Ns builtinsNs mb) (hbb : ∀ y : Str, y ≠ "__name__" → mb y = bootBuiltins y) (hlim : s.heap.NoLimit) (hx : s.heap.get? x = some (excO C t0)) (hnx : K.lookup x = none) (hroom : A.depth < recursionLimit)
    (hq : ∀ h' tk dx t1, InitEnd s.heap h' x C dx t1 f v → R (.ok (.ret .none)) { s with heap := h', toks := tk }) :
    codeAny (model prog w) A (.call (.ref fI) ⟨[.ref x, v], []⟩) R s := by
  obtain ⟨oc, od, doc, pm, an, cda, ct, osl, cc, p1, p2, txt, q1, q2, q3, q4, q5, q6, r1, r2, r3, r4, qn, ccl, cl, cdd, cld, vs, ccs, csl, file, tf, hpos, ho, hcd, hcode, hvs, hfile, hcell⟩ := T.fn
  obtain ⟨nm, q, N, bs, bm, sn, sub, ab, col, dd, k0, k1, k2, k3, k5, hC, hbm⟩ := T.cls
  have hcl : clsIn K C = some { name := nm, bases := bs, mro := .ref C :: bm, ns := N, qualname := q, hasDict := true, slotNames := sn, subclasses := sub, abstract := ab, collection := col, hasDel := false } := by unfold clsIn; rw [hC] <;> rfl
  refine ks_codeAny_call_defAt (binds := [(("self" : Str), .ref x), (f, v)]) hroom (X _ _ ho) rfl hlim (codeRec_of X hcd) rfl (BindsTo.of_eq (T.nf.bd _ _ _ _ _ _ _ _ _ _ _ _)) T.nf.nc ?l (fun h₁ hns k => ?_) rfl rfl rfl
  case l =>
    intro y hy
    rcases List.mem_cons.mp hy with rfl | hy
    · exact T.nf.l1
    · rw [List.mem_singleton.mp hy]; exact T.nf.l2
  have X₁ : K.In h₁ := X.keeps k
  have hx₁ := k _ _ hx
  have hxL : s.heap.objs.size ≠ x := Nat.ne_of_gt (Heap.lt_size hx)
  obtain ⟨hp, g, d, tk0, os⟩ := s
  dsimp only at X hg hb hlim hx hns k hxL ⊢
  have m1 : [(("self" : Str), Value.ref x), (f, v)].reverse.lookup ("self" : Str) = some (.ref x) := by
    have : (("self" : Str) == f) = false := by
      have := T.nf.ns
      rw [beq_eq_false_iff_ne] at this ⊢
      exact fun z => this z.symm
    show [(f, v), (("self" : Str), Value.ref x)].lookup ("self" : Str) = _
    simp [List.lookup, this]
  have m2 : [(("self" : Str), Value.ref x), (f, v)].reverse.lookup f = some v := by
    show [(f, v), (("self" : Str), Value.ref x)].lookup f = _
    simp [List.lookup]
  show _root_.PySem.wpAt _ _ (.func (eB f txt q1 q2 q3 q4 q5 q6 r1 r2 r3 r4) (ksEnv qn (eS f) hp.objs.size fI (.ref cda) cc)) (execs (eB f txt q1 q2 q3 q4 q5 q6 r1 r2 r3 r4) (ksEnv qn (eS f) hp.objs.size fI (.ref cda) cc)) _ _ _
  refine ks_wpAt_execs_cons (ks_wpAt_Expr_any (ks_wpAt_MethodCall ?_ (sup_he hpos)))
  refine ks_wpAt_super_base (env := ksEnv qn (eS f) hp.objs.size fI (.ref cda) cc) T.nf.l4 T.nf.l3 (by decide) rfl (X₁ _ _ ho) rfl rfl rfl (X₁ _ _ hcode) rfl hvs hfile T.top ?_
  refine ks_loadName_global rfl T.nf.l4 (loadGlobal_builtin (env := ksEnv qn (eS f) hp.objs.size fI (.ref cda) cc) (hg.keeps k) T.noS (hb.keeps k) ((hbb _ (by decide +kernel)).trans (by first | boot_by_name | rfl | kernel_rfl)) ⟨rfl, ?_⟩)
  refine wpAny_loadName_free rfl T.nf.l3 rfl ⟨_, X₁ _ _ hcell, rfl⟩ ?_
  refine wpAny_loadName_local rfl T.nf.l1 hns m1 ?_
  refine ks_wpAny_isType_cls (X₁ _ _ hC) rfl ⟨rfl, ?_⟩
  refine ks_wpAny_call_super (X₁ _ _ hC) rfl hx₁ rfl (fun c e => by cases e) (looks_mroIn X₁ T.mC) (fun h₂ eso k₂ => ?_)
  have X₂ : K.In h₂ := X₁.keeps k₂
  have hx₂ := k₂ _ _ hx₁
  have I₂ : InstAt h₂ x (excO C t0) C none := ⟨hx₂, rfl, rfl, trivial⟩
  have hsup : alongIn K "__init__" (((Value.ref C :: bm).dropWhile (· != .ref C)).drop 1) = some (some (.builtin "ValueError.__init__")) := by
    have e := T.sup
    unfold ks_superIn at e
    rw [hcl] at e
    exact e
  refine kxs_getMethod kxs_ValueError eso (looks_opaque X₂ T.op) (l₀ := Value.ref C :: bm) (fun A Q E s k q => wpAny_bind ((looks_clsIn X₂ hcl) A _ E s k (wpAny_pure q))) rfl X₂ hsup (I₂.type.andThen (looks_subIn X₂ T.veC)) (ks_ne X₂ I₂ hcl) (by decide) ?_
  have k₃ : ∀ b o, h₂.get? b = some o → (h₂.push (kxs_mw "ValueError.__init__" x)).get? b = some o := fun b o e => Heap.get?_push_of_some _ e
  have hx₃ := k₃ _ _ hx₂
  have hmw : (h₂.push (kxs_mw "ValueError.__init__" x)).get? h₂.objs.size = some (kxs_mw "ValueError.__init__" x) := Heap.get?_push_at rfl rfl
  refine kxs_callWith (i := "ValueError.__init__") (x := x) (by rfl) (evalArgs_plain ?_)
  refine spliced_cons (Constant_str (pos := q4) (k := 0) (spliced_nil ⟨hmw, ?_⟩))
  refine call_mw (X₂.keeps k₃ _ _ hC) hx₃ hmw (one_size _) fun h₄ t1 k₄ hx₄ => ?_
  have X₄ : K.In h₄ := kept_but (X₂.keeps k₃) hnx k₄
  have hns₄ : h₄.Ns hp.objs.size (fun y => [(("self" : Str), Value.ref x), (f, v)].reverse.lookup y) := ((hns.keeps k₂).keeps k₃).at fun o q => k₄ _ _ hxL q
  refine ks_wpAt_execs_cons (wpAt_of_wpAny (plainObj_wpAny_Assign_Attribute ?_))
  refine wpAny_Name (wpAny_loadName_local rfl T.nf.l2 hns₄ m2 ?_) T.nf.nd
  refine wpAny_Name (wpAny_loadName_local rfl T.nf.l1 hns₄ m1 ?_) (by decide)
  refine set_plain X₄ (ox := excO C t1) (od := none) ⟨hx₄, rfl, rfl, trivial⟩ T.sa ?_
  refine exc_osa X₄ hx₄ hcl (show refsVE (.ref C :: bm) = true from hbm) rfl T.noN (fun h₅ tk₅ dx k₅ dn dne hx₅ hn₅ => ?_)
  refine wpAt_of_wpAny (wpAny_execs_nil (hq h₅ tk₅ dx t1 ⟨fun b o hb e => k₅ b o hb (k₄ b o hb (k₃ _ _ (k₂ _ _ (k b o e)))), hx₅, ?_, dne, hn₅⟩))
  exact Nat.le_of_lt (Nat.lt_of_lt_of_le hns₄.lt dn)
/-- a made error -/
structure OwnMade (h h' : Heap) (e C d : Addr) (f : Str) (v : Value) : Prop where
  keep : ∀ b o, h.get? b = some o → h'.get? b = some o
  new : h.objs.size ≤ e
  obj : ∃ oe vs, h'.get? e = some oe ∧ oe.cls = .ref C ∧ oe.dict = some d ∧ oe.data = .fields vs ∧ vs[1]? = some .none
  dbig : h.objs.size ≤ d
  dne : d ≠ e
  ns : h'.Ns1 d (fun y => if y = f then some v else none)
theorem sup_made (T : SupTxt prog K mg xn f C fI) {v : Value} (X : K.In s.heap) (hg : s.heap.Ns mainGlobals mg) (hb : s.heap.Ns builtinsNs mb) (hbb : ∀ y : Str, y ≠ "__name__" → mb y = bootBuiltins y) (hlim : s.heap.NoLimit) (hroom : A.depth + 1 < recursionLimit)
    (hq : ∀ h' tk e d, OwnMade s.heap h' e C d f v → R (.ok (.ret (.ref e))) { s with heap := h', toks := tk }) :
    codeAny (model prog w) A (.call (.ref C) ⟨[v], []⟩) R s := by
  obtain ⟨nm, q, N, bs, bm, sn, sub, ab, col, dd, k0, k1, k2, k3, k5, hC, hbm⟩ := T.cls
  obtain ⟨hp, g, dr, tk, os⟩ := s
  have k : ∀ b o, hp.get? b = some o → ((hp.push (kdv_tup [v])).push (excO C hp.objs.size)).get? b = some o := fun b o e => Heap.get?_push_of_some _ (Heap.get?_push_of_some _ e)
  have hget : ((hp.push (kdv_tup [v])).push (excO C hp.objs.size)).get? (hp.objs.size + 1) = some (excO C hp.objs.size) := by heap_get
  have hnx : K.lookup (hp.objs.size + 1) = none := by
    cases e : K.lookup (hp.objs.size + 1) with
    | none => rfl
    | some o =>
      have z : hp.get? (hp.objs.size + 1) = some o := X _ _ e
      exact absurd (Nat.lt_of_succ_lt (Heap.lt_size z)) (Nat.lt_irrefl _)
  refine call_own F.excBase_ValueError (fun X => refsVE_contains X bm hbm) (X _ _ hC) (looks_findIn X T.iC) (fun self => bind_fn X self T.tC) (one_size v) ?_
  refine sup_init (s := ⟨(hp.push (kdv_tup [v])).push (excO C hp.objs.size), g, dr, tk, os⟩) T (X.keeps k) (hg.keeps k) (hb.keeps k) hbb (hlim.keeps k) hget hnx ?_ fun h' tk' dx t1 ⟨k', hx, dn, dne, hns⟩ => ?_
  · show A.depth + 1 < recursionLimit
    exact hroom
  · have old : ∀ b o, hp.get? b = some o → h'.get? b = some o := fun b o e => k' b o (Nat.ne_of_lt (Nat.lt_succ_of_lt (Heap.lt_size e))) (k b o e)
    have z : hp.objs.size + 1 + 1 ≤ dx := by
      have q := dn; rw [Heap.size_push, Heap.size_push] at q; exact q
    exact ⟨rfl, hq h' tk' (hp.objs.size + 1) dx ⟨old, Nat.le_succ _, ⟨_, _, hx, rfl, rfl, rfl, rfl⟩, Nat.le_trans (Nat.le_trans (Nat.le_succ _) (Nat.le_succ _)) z, dne, hns⟩⟩
end
end SupX
end PySem
namespace Gw
open PySem PySem.Spec PyProof.Rows L2
theorem relO_fld {f : Str} {v : V} {v' : Value} (r : RelV v v') (y : Str) : RelO (List.lookup y [(f, v)]) (if y = f then some v' else none) := by
  by_cases hw : y = f
  · subst hw
    rw [if_pos rfl]
    have q : List.lookup y [(y, v)] = some v := by simp [List.lookup]
    rw [q]
    exact r
  · rw [if_neg hw]
    have qw : (y == f) = false := by simpa using hw
    have q2 : List.lookup y [(f, v)] = none := by simp [List.lookup, qw]
    rw [q2]
    trivial
section
variable {X : Cx} {C fI : Addr} {x f : Str}
/-- C(e): the error's own dict is new -/
def tMkSup (C : Addr) (f : Str) (ta : TA) : L2.St → Hp → XK → Prop := fun σ H Q => ta σ H fun vs H1 => ∃ v, vs = [v] ∧ ∀ d, H1 d = none → Q (.ref C) (some d) (upd H1 d (.xd [(f, v)]))
theorem pmk_sup {a : Expr} {ta : TA} {p pos : Pos} {k : Nat} (T : PySem.SupX.SupTxt X.prog X.K X.mg x f C fI) (hr : Room k X.A) (ha : PA X [a] ta) (hg : Gl X x) (hdb : (x == ("__debug__" : Str)) = false := by decide)
    (he : starEach (a :: []) X.env = (false, eval a X.env) :: starEach [] X.env := by rfl) (hpl : (backTo pos (starEach [] X.env)).any (·.1) = false := by rfl) :
    PMk X (.Call (.Name x p) [a] [] pos) (tMkSup C f ta) := by
  intro pins s σ H Q I h
  refine wpAny_Call_Name_kw (ld_glob I hg T.gC ?_ hdb)
  refine PySem.W.callWith_K (h₀ := X.base) I.ok.mod.kin T.kC (thn (ha.run pos pins s σ H _ I h) fun us s1 hh => ?_) he hpl
  obtain ⟨vs, H1, I1, r1, v, ev, q1⟩ := hh
  subst ev
  refine ⟨I1.kIn, ?_⟩
  cases r1 with
  | cons rv rn =>
    rename_i v' us'
    cases rn
    show wpAny _ _ (call (.ref C) [v']) _ _ _
    have hlim := I1.nolimit
    obtain ⟨mb, hb, hbb⟩ := I1.mod.blt
    have hgl := I1.mod.glob.keeps I1.bk
    have hbl := hb.keeps I1.bk
    obtain ⟨hp, g, dr, tk, os⟩ := s1
    refine wpAny_call (PySem.SupX.sup_made T I1.kIn hgl hbl hbb hlim (by have := hr.dp; omega) fun h' tk' e d M => ?_)
    show MkP X pins σ Q (.ref e) ⟨h', g, dr, tk', os⟩
    obtain ⟨oe, fv, hoe, hc, hd, hdat, h1⟩ := M.obj
    have hns := M.ns
    obtain ⟨G', g1, g2⟩ := restrict h' fun b => decide (b ≠ e)
    have gk : ∀ b, b ≠ e → G'.get? b = h'.get? b := fun b hb => g1 b (decide_eq_true hb)
    have ge : G'.get? e = none := g2 e (by simp)
    have old : ∀ b o, hp.get? b = some o → G'.get? b = some o := fun b o q => (gk b (Nat.ne_of_lt (Nat.lt_of_lt_of_le (Heap.lt_size q) M.new))).trans (M.keep b o q)
    have ob : ObjOk X.prog X.w (upd H1 d (.xd [(f, v)])) G' d (.xd [(f, v)]) :=
      ⟨_, hns.at (fun o q => (gk d M.dne).trans q), fun y => relO_fld rv y⟩
    have J : Inv X pins σ (upd H1 d (.xd [(f, v)])) ⟨G', g, dr, tk', os⟩ := I1.laid (t' := tk') old M.dbig ob
    refine ⟨e, oe, fv, ⟨G', g, dr, tk', os⟩, _, .ref C, some d, rfl, J, fun b o q => ?_, ge, hoe, ⟨hc, hd⟩, hdat, h1, ?_, rfl, I1.bare, raises_own T.exC T.tyC, q1 d (I1.hok.fresh M.dbig)⟩
    · by_cases hb : b = e
      · have q' : G'.get? b = some o := q
        rw [hb, ge] at q'; cases q'
      · exact (gk b hb).symm.trans q
    · rw [upd_ne (Ne.symm M.dne)]
      exact I1.hok.fresh M.new
/-- error.f, an error that was kept -/
def tErrFld (C : Addr) (f : Str) (te : TE) : TE := fun σ H Q => te σ H fun y H1 => ∃ a dd v, y = .ref a ∧ H1 a = some (ErrO (.ref C) (some dd) a) ∧ H1 dd = some (.xd [(f, v)]) ∧ Q v H1
theorem pe_errFld {e : Expr} {te : TE} {pos : Pos} (T : PySem.SupX.SupTxt X.prog X.K X.mg x f C fI) (he : PE X e te) (hb : attributeBase e f X.env (eval e X.env) = eval e X.env := by rfl) : PE X (.Attribute e f pos) (tErrFld C f te) := by
  refine ⟨fun pins s σ H Q I h => ?_⟩
  refine attr_of hb (thn (he.run pins s σ H _ I h) fun u s1 hh => ?_)
  obtain ⟨y, H1, I1, ry, a, dd, v, rfl, ha, hd, q⟩ := hh
  obtain rfl : u = Value.ref a := ry
  obtain ⟨⟨oe, vs, at1, ⟨z1, z2⟩, d1⟩, _⟩ := I1.hok a _ ha
  have hx : ObjOk X.prog X.w H1 s1.heap dd (.xd [(f, v)]) := I1.hok dd _ hd
  obtain ⟨mA, hns, hr⟩ := hx
  obtain ⟨od, ho, hl⟩ := lookIn_ns hns
  have l : List.lookup f [(f, v)] = some v := by simp [List.lookup]
  obtain ⟨u, hu, ru⟩ := RelO.some_of (v := v) (o := mA f) (by rw [← l]; exact hr f)
  have J : PySem.W.InstAt s1.heap a oe C (some od) := ⟨at1, z1, by unfold PySem.W.notCls; rw [d1] <;> rfl, by rw [z2]; exact ho⟩
  exact HandSPX.exc_get I1.kIn J T.ga T.gg T.exC (PySem.W.findObj_own T.hdC T.noN rfl (by rw [hl, hu])) (handed_of ru) ⟨v, H1, I1.tok _, ru, q⟩
end
/-! ### isinstance of None or of an error that was kept, with or without a dict -/
def rIsC2 (K : PySem.W.Frag) : List V → Hp → VK → Prop := fun xs H Q => (∃ (C : Addr) (b : Bool), xs = [.non, .ref C] ∧ PySem.W.kitOne K (.type "NoneType") (.ref C) = some b ∧ Q (.bl b) H) ∨
  ∃ (a D C : Addr) (d : Option Addr) (b : Bool), xs = [.ref a, .ref C] ∧ H a = some (ErrO (.ref D) d a) ∧ (∀ dd, d = some dd → ∃ fs, H dd = some (.xd fs)) ∧ ExcC K D ∧ PySem.W.kitOne K (.ref D) (.ref C) = some b ∧ Q (.bl b) H
theorem cr_isC2 {X : Cx} : CallR X (.builtin "isinstance") (rIsC2 X.K) := by
  intro pins s σ H xs us Q I r h
  rcases h with ⟨C, b, rfl, e, q⟩ | ⟨a, D, C, d, b, rfl, ha, hdd, T, e, q⟩
  · exact call_isi pins s σ H _ us Q I r ⟨.non, .ref C, .type "NoneType", .ref C, b, rfl, .own C, .base .non, e, q⟩
  · obtain ⟨u1, u2, rfl, r1, r2⟩ := vals2 r
    cases r1
    cases r2
    obtain ⟨⟨oe, vs, at1, ⟨z1, z2⟩, d1⟩, _⟩ := I.hok a _ ha
    have hcl : (PySem.W.clsIn X.K D).isSome = true := by
      obtain ⟨cd, hc, _⟩ := PySem.W.any_some T.hd
      rw [hc]; rfl
    obtain ⟨od, J⟩ : ∃ od, PySem.W.InstAt s.heap a oe D od := by
      cases d with
      | none => exact ⟨none, at1, z1, by unfold PySem.W.notCls; rw [d1] <;> rfl, by rw [z2]; trivial⟩
      | some dd =>
        obtain ⟨fs, hf⟩ := hdd dd rfl
        have hx : ObjOk X.prog X.w H s.heap dd (.xd fs) := I.hok dd _ hf
        obtain ⟨mA, hns, hr⟩ := hx
        obtain ⟨od, ho, hl⟩ := lookIn_ns hns
        exact ⟨some od, at1, z1, by unfold PySem.W.notCls; rw [d1] <;> rfl, by rw [z2]; exact ho⟩
    exact PySem.W.kia_one (PySem.W.kitx_exc hcl T.hg T.hk T.hs T.ha T.hn T.ht T.hm) I.kIn J e (fun z => nomatch z) fun tk => ⟨.bl b, H, I.tok tk, rfl, q⟩
end Gw
namespace Gw
open PySem PySem.Spec PyProof.Rows L2
/-! ### == and != of objects with their own __eq__ -/
section
open PySem.W
variable {prog : Program} {w : World} {A : Around} {E : Value → Shared → Prop} {s : Shared} {K : PySem.W.Frag} {x C L f : Addr} {h₀ : Heap} {m : Str → Option Value} {ox : Obj} {od : Option Obj} {b tb : Value}
theorem ne_own (hu : A.units + 1 < cLine) (X : K.In s.heap) (I : InstAt s.heap x ox C od) (hb : Looks (model prog w) s.heap (typeOf b) tb) (hn : notFirst K C tb = true)
    (hne : findIn K (.ref C) "__ne__" = some (some (.builtin "object.__ne__"))) (hob : mroIn K C (.type "object") = some true) (hs : findIn K (.ref C) "__eq__" = some (some (.ref f))) (hf : isFn K (.ref f) = true) {Q : Value → Shared → Prop}
    (h : wpAny (model prog w) A.in1 (call (.ref f) [.ref x, b]) (fun v s' => ∃ r, v = .bool r ∧ Q (.bool (!r)) s') E s) : wpAny (model prog w) A (richCompare .NotEq (.ref x) b) Q E s := by
  have FB := F.cmp_object
  have body : wpAny (model prog w) A (call (.builtin "object.__ne__") [.ref x, b]) (fun v s' => ∃ r, v = .bool r ∧ Q v s') E s := by
    refine wpAny_call (codeAny_call_builtin FB.ne.plain F.cmpEntry_ne (check_slot F.cmpKind_ne F.cmpSplit_ne (I.type.andThen (looks_mroIn X hob)) (F.cmpArgs_ne _ _) ?_))
    unfold Builtin.«object.__ne__»
    refine wpAny_bind (wpAny_of_eq (a := ((Value.ref x : Value), [b])) (by first | rfl | (simp only [slotArgs]; rfl)) ?_)
    refine wpAny_bind (wpAny_cRoomFor hu ?_)
    refine wpAny_bind (ifBound_K X I hs hf (wpAny_mono h (fun v s' hv => ?_) fun _ _ e => e))
    obtain ⟨r, rfl, q⟩ := hv
    refine wpAny_bind (wpAny_truthy_bool ?_)
    exact wpAny_pure ⟨_, rfl, q⟩
  have one : wpAny (model prog w) A (tryCompare (.ref x) "__ne__" b) (fun r s' => ∃ v, r = some v ∧ Q v s') E s := by
    unfold tryCompare
    simp only [callSpecialIfBound?, bindSpecialIfBound?]
    refine wpAny_bind (wpAny_holding (wpAny_bind (wpAny_bind (wpAny_bind (I.type.here ((looks_findIn X hne).here ?_))))))
    simp only [FB.ne.bind]
    have fin : wpAny (model prog w) A (call (.builtin "object.__ne__") ([.ref x] ++ [b]) >>= fun v => pure (some v)) (fun r s' => ∃ v u, r = some v ∧ v = .bool u ∧ Q v s') E s := wpAny_bind (wpAny_mono body (fun v s' ⟨u, e, h'⟩ => wpAny_pure ⟨v, u, rfl, e, h'⟩) fun _ _ h' => h')
    refine wpAny_bind (wpAny_askSetting (wpAny_ite ?_))
    have done : ∀ (r : Option Value) (s' : Shared), (∃ v u, r = some v ∧ v = Value.bool u ∧ Q v s') → ∃ v u, r = some v ∧ v = Value.bool u ∧ Q v s' := fun _ _ h => h
    split
    · refine wpAny_bind (wpAny_pure (wpAny_pure (wpAny_mono fin (fun r s' h' => ?_) fun _ _ h' => h')))
      obtain ⟨v, u, rfl, rfl, q⟩ := h'
      exact wpAny_pure ⟨_, rfl, q⟩
    · refine wpAny_tryCatch (wpAny_bind (wpAny_pure (wpAny_pure (wpAny_mono fin (fun r s' h' => ?_) fun _ _ h' => h'))))
      obtain ⟨v, u, rfl, rfl, q⟩ := h'
      exact wpAny_pure ⟨_, rfl, q⟩
  unfold richCompare
  simp only [oneThing_ref]
  refine wpAny_holding (wpAny_bind (wpAny_cRoomFor (Nat.lt_of_succ_lt hu) ?_))
  refine wpAny_bind (I.type.here (wpAny_bind (hb.here ?_)))
  split
  · rename_i q
    have e : subIn K tb (.ref C) = some false := by
      rcases Bool.or_eq_true_iff.mp hn with e | e
      · rw [beq_iff_eq.mp e] at q; simp at q
      · exact beq_iff_eq.mp e
    refine wpAny_bind ((looks_subIn X e).here ?_)
    simp only [Bool.false_eq_true, if_false]
    refine wpAny_bind (wpAny_mono one (fun r s' z => ?_) fun _ _ e => e)
    obtain ⟨v, rfl, hq⟩ := z
    exact wpAny_pure hq
  · refine wpAny_bind (wpAny_pure ?_)
    simp only [Bool.false_eq_true, if_false]
    refine wpAny_bind (wpAny_mono one (fun r s' z => ?_) fun _ _ e => e)
    obtain ⟨v, rfl, hq⟩ := z
    exact wpAny_pure hq
end
/-! the readings -/
/-- x == y by x's own __eq__, which keeps sp -/
def rOwnEq (K : PySem.W.Frag) (C : Addr) (sp : Sp) (E : XK) (g : Bool → Bool) : R2 := fun x y H Q => ∃ a dx fs t, x = .ref a ∧ H a = some (.ins C dx fs) ∧ TyX K H y t ∧ PySem.W.notFirst K C t = true ∧ sp [x, y] H (fun v H' => ∃ b, v = .bl b ∧ Q (.bl (g b)) H') E
structure OwnE (K : PySem.W.Frag) (C f : Addr) : Prop where
  eq : PySem.W.findIn K (.ref C) "__eq__" = some (some (.ref f))
  ne : PySem.W.findIn K (.ref C) "__ne__" = some (some (.builtin "object.__ne__"))
  ob : PySem.W.mroIn K C (.type "object") = some true
  fn : PySem.W.isFn K (.ref f) = true
section
variable {X : Cx} {CX : CXT} {C f : Addr} {fd : FuncData} {n : Nat} {sp : Sp} {E : XK} {x y : Str}
theorem run_ownEq {A : Around} (O : OwnE X.K C f) (F : FnOk X.prog X.w X.K X.mg X.base CX n f fd [x, y] sp) (hb : Binds X.K fd [x, y] []) (hx : Passes CX X E) (hr : Room n A) (hfr : A.frames = X.A.frames) {pins : List (Addr × Obj)} {s : Shared} {σ : L2.St} {H : Hp} {a : Addr} {z : V} {v : Value} {g : Bool → Bool} {Q : VK}
    (I : Inv X pins σ H s) (rz : RelV z v) (h : sp [.ref a, z] H (fun v H' => ∃ b, v = .bl b ∧ Q (.bl (g b)) H') E) :
    wpAny (model X.prog X.w) A (call (.ref f) [.ref a, v]) (fun u s' => ∃ b, u = .bool b ∧ EP X pins σ Q (.bool (g b)) s') X.xe s := by
  have e0 : Env0 X.prog X.w X.K X.mg X.base A X.stack s H := by
    have e := I.env0
    exact ⟨by rw [hfr]; exact e.frames, e.mod, e.bs, e.bsz, e.funs, e.frf, e.hok, e.bare⟩
  have r2 : Vals [V.ref a, z] [Value.ref a, v] := .cons rfl (.cons rz .nil)
  refine wpAny_call (codeAny_mono (F.run A X.stack s H ⟨[.ref a, v], []⟩ [.ref a, v] [.ref a, z] _ E hr e0 (by
    have := hb s [.ref a, v] I.kIn (by rfl)
    simpa using this) r2 h) fun r s' hq => ?_)
  cases r with
  | error e => exact hx pins σ H s e s' I hq
  | ok fl =>
    cases fl with
    | ret w =>
      obtain ⟨u, H', I', rw, b, eb, q⟩ := I.after hq
      subst eb
      cases rw
      exact ⟨b, rfl, .bl (g b), H', I', rfl, q⟩
    | next => exact False.elim hq
    | brk => exact False.elim hq
    | cont => exact False.elim hq
theorem op_ownEq (O : OwnE X.K C f) (F : FnOk X.prog X.w X.K X.mg X.base CX n f fd [x, y] sp) (hb : Binds X.K fd [x, y] []) (hx : Passes CX X E) (hr : Room n X.A) : OpR X (compareOp .Eq) (rOwnEq X.K C sp E fun b => b) := by
  intro pins s σ H p z v u Q I rp rz hq
  obtain ⟨a, dx, fs, t, rfl, ha, ty, nf, h⟩ := hq
  cases rp
  show wpAny (model X.prog X.w) X.A (richCompare .Eq (.ref a) u) (EP X pins σ Q) X.xe s
  obtain ⟨mA, J, _⟩ := ins_get I.hok ha
  obtain ⟨od, J, _⟩ := J.look
  obtain ⟨m, hF⟩ := I.fr
  obtain ⟨P, Z, p, _⟩ := kit_of I rz ty
  refine PySem.W.cmp_K (op := .Eq) (tb := t) hr.units0 hF I.ok.mod.kin J (Z.ty _ _ I.kIn p) nf O.eq O.fn ?_
  refine wpAny_mono (run_ownEq O F hb hx hr rfl I rz h) (fun v s' hv => ?_) fun _ _ e => e
  obtain ⟨b, rfl, q⟩ := hv
  exact q
theorem op_ownNe (O : OwnE X.K C f) (F : FnOk X.prog X.w X.K X.mg X.base CX n f fd [x, y] sp) (hb : Binds X.K fd [x, y] []) (hx : Passes CX X E) (hr : Room (n + 1) X.A) : OpR X (compareOp .NotEq) (rOwnEq X.K C sp E fun b => !b) := by
  intro pins s σ H p z v u Q I rp rz hq
  obtain ⟨a, dx, fs, t, rfl, ha, ty, nf, h⟩ := hq
  cases rp
  show wpAny (model X.prog X.w) X.A (richCompare .NotEq (.ref a) u) (EP X pins σ Q) X.xe s
  obtain ⟨mA, J, _⟩ := ins_get I.hok ha
  obtain ⟨od, J, _⟩ := J.look
  obtain ⟨P, Z, p, _⟩ := kit_of I rz ty
  exact ne_own (by have := hr.un; omega) I.kIn J (Z.ty _ _ I.kIn p) nf O.ne O.ob O.eq O.fn (run_ownEq O F hb hx hr.in1 rfl I rz h)
end
end Gw
namespace Gw
open PySem PySem.Spec PyProof.Rows L2
/-! ### a list or a tuple, walked -/
def iE (K : PySem.W.Frag) (tl : TE) : TI := fun σ H R => iList K tl σ H R ∨ iTup K tl σ H R
theorem q_iE (K : PySem.W.Frag) {X : Cx} {tg l : Expr} {tl : TE} (e : X.K = K) (h : PE X l tl) : PI X tg l (iE K tl) := by
  subst e
  exact ⟨fun pins s σ H R I q => q.elim (fun q => (pi_list h).run pins s σ H R I q) fun q => (pi_tup h).run pins s σ H R I q⟩
theorem q_isiT (K : PySem.W.Frag) {X : Cx} (e : X.K = K) : CallR X (.builtin "isinstance") (rIsiT K) := by subst e; exact call_isiT
/-- a block whose first statement never ends as it would -/
theorem pss_dead {X : Cx} {st : Stmt} {rest : List Stmt} {t : TS} (h : PS X st t) : PSs X (st :: rest) (fun D σ H => t { D with nx := fun _ _ => False } σ H) := by
  refine ⟨fun pins s σ H D I q => wpAny_execs_cons (wpAny_mono (h.run pins s σ H _ I q) (fun f s1 sp => ?_) fun _ _ z => z)⟩
  cases f with
  | next => obtain ⟨_, _, _, z⟩ := sp; exact False.elim z
  | brk => exact sp
  | cont => exact sp
  | ret u => exact sp
section
variable {K : PySem.W.Frag} {σ : L2.St} {G : Hp} {tl te : TE} {g : TG} {tt : TT} {vs : List Nat} {ds : List PyData}
theorem en_iL (h : EvN K (tLc (iList K tl) g tt te vs) σ G ds) : EvN K (tLc (iE K tl) g tt te vs) σ G ds := fun H s Q q => .inl (h H s Q q)
theorem en_iT (h : EvN K (tLc (iTup K tl) g tt te vs) σ G ds) : EvN K (tLc (iE K tl) g tt te vs) σ G ds := fun H s Q q => .inr (h H s Q q)
end
/-! ### kinds -/
def isLst : PyData → Bool | .list _ => true | _ => false
def isLT : PyData → Bool | .list _ => true | .tuple _ => true | _ => false
theorem kit_lst : ∀ x : PyData, kitB (tyOf x) "list" = some (isLst x)
  | .none => (by decide +kernel : kitB "NoneType" "list" = some false)
  | .bool _ => (by decide +kernel : kitB "bool" "list" = some false)
  | .int _ => (by decide +kernel : kitB "int" "list" = some false)
  | .str _ => (by decide +kernel : kitB "str" "list" = some false)
  | .list _ => (by decide +kernel : kitB "list" "list" = some true)
  | .tuple _ => (by decide +kernel : kitB "tuple" "list" = some false)
  | .dict _ => (by decide +kernel : kitB "dict" "list" = some false)
theorem kit_lt {K : PySem.W.Frag} (x : PyData) : PySem.W.kitAny K (.type (tyOf x)) [.type "list", .type "tuple"] = some (isLT x) := by
  refine kitAny_cons (b := isLst x) (kit_ty (kit_lst x)) (fun h => ?_) (fun h => ?_)
  · refine kitAny_cons (b := isTupK x) (kit_ty (kit_tup x)) (fun h2 => ?_) (fun h2 => ?_)
    · cases x <;> first | rfl | (exact absurd h2 (by decide)) | (exact absurd h (by decide)) | (cases h2; done) | (cases h; done)
    · cases x <;> first | rfl | cases h2
  · cases x <;> first | rfl | cases h
section
variable {K : PySem.W.Frag} {σ : L2.St} {G : Hp} {i : Nat} {v : V} {x : PyData}
theorem ed_isiLT (h : σ[i]? = some (some v)) (hv : Th K G v x) : EvD K (tCB (rIsiT K) (tCons (tVar i) (tCons (tTup (tCons (tC (.ty "list")) (tCons (tC (.ty "tuple")) tNil))) tNil))) σ G (.bool (isLT x)) := fun H s Q q => by
  refine ⟨v, h, by show 2 ≤ sizeLine; decide, fun tp htp => ?_⟩
  have n := Nx.lay (o := .tup [.ty "list", .ty "tuple"]) s htp
  exact ⟨v, tp, [.ty "list", .ty "tuple"], .type (tyOf x), [.type "list", .type "tuple"], _, rfl, upd_same, .cons (.ty "list") (.cons (.ty "tuple") .nil), hv.ty n.gh, kit_lt x, q _ _ _ n (.bl _)⟩
end
/-- isinstance of an own class: not for what is of a built-in kind -/
theorem kit_own {K : PySem.W.Frag} {C : Addr} {T : String} (hc : (PySem.W.clsIn K C).isSome = true) (ht : PySem.W.typeIn K (.ref C) = some (.type "type")) (hs : PySem.W.subIn K (.type T) (.ref C) = some false) : PySem.W.kitOne K (.type T) (.ref C) = some false := by
  have e1 : (Value.type T == Value.ref C) = false := by
    rw [beq_eq_false_iff_ne]; exact fun z => nomatch z
  have e2 : ((PySem.W.clsIn K C).isSome && PySem.W.typeIn K (.ref C) == some (.type "type")) = true := by rw [hc, ht] <;> rfl
  show (if (Value.type T == Value.ref C) = true then some true else if ((PySem.W.clsIn K C).isSome && PySem.W.typeIn K (.ref C) == some (.type "type")) = true then PySem.W.subIn K (.type T) (.ref C) else none) = some false
  rw [e1, if_neg Bool.false_ne_true, if_pos e2]
  exact hs
/-- what the top has written of an own class without bases -/
structure OwnC (K : PySem.W.Frag) (C : Addr) : Prop where
  cl : Cls K C
  ci : (PySem.W.clsIn K C).isSome = true
  ty : PySem.W.typeIn K (.ref C) = some (.type "type")
  ha : PySem.W.findIn K (.ref C) "__class__" = some (some (.builtin "object.__class__"))
  hn : PySem.W.specialIn K (.builtin "object.__class__") "__get__" = some (some (.builtin "getset_descriptor.__get__"))
  ht : PySem.W.takesIn K (.builtin "object.__class__") = some true
  hm : PySem.W.mroIn K C (.type "object") = some true
  no : PySem.W.subIn K (.type "NoneType") (.ref C) = some false
  bo : PySem.W.subIn K (.type "bool") (.ref C) = some false
  int : PySem.W.subIn K (.type "int") (.ref C) = some false
  st : PySem.W.subIn K (.type "str") (.ref C) = some false
  li : PySem.W.subIn K (.type "list") (.ref C) = some false
  tu : PySem.W.subIn K (.type "tuple") (.ref C) = some false
  di : PySem.W.subIn K (.type "dict") (.ref C) = some false
theorem OwnC.sub {K : PySem.W.Frag} {C : Addr} (O : OwnC K C) : ∀ x : PyData, PySem.W.subIn K (.type (tyOf x)) (.ref C) = some false
  | .none => O.no
  | .bool _ => O.bo
  | .int _ => O.int
  | .str _ => O.st
  | .list _ => O.li
  | .tuple _ => O.tu
  | .dict _ => O.di
theorem OwnC.kit {K : PySem.W.Frag} {C : Addr} (O : OwnC K C) (x : PyData) : PySem.W.kitOne K (.type (tyOf x)) (.ref C) = some false := kit_own O.ci O.ty (O.sub x)
theorem OwnC.nf {K : PySem.W.Frag} {C : Addr} (O : OwnC K C) (x : PyData) : PySem.W.notFirst K C (.type (tyOf x)) = true := by
  show (_ || PySem.W.subIn K (.type (tyOf x)) (.ref C) == some false) = true
  rw [O.sub x]; simp
theorem OwnC.me {K : PySem.W.Frag} {C : Addr} (O : OwnC K C) : PySem.W.kitOne K (.ref C) (.ref C) = some true := if_pos (beq_self_eq_true _)
theorem OwnC.tyx {K : PySem.W.Frag} {C a dx : Addr} {H : Hp} {fs : List (Str × V)} (O : OwnC K C) (h : H a = some (.ins C dx fs)) : TyX K H (.ref a) (.ref C) := .base (.ins h O.cl O.ha O.hn O.ht O.hm)
section
variable {K : PySem.W.Frag} {σ : L2.St} {G H : Hp} {tt : TT} {t u : TS} {D : Ends} {te : TE} {d : PyData}
theorem seq_ifB {b : Bool} (h : EvB K tt σ G b) (s : Same G H) (k1 : b = true → ∀ G1 H1, Nx G H G1 H1 → t { D with nx := u D } σ H1) (k0 : b = false → ∀ G1 H1, Nx G H G1 H1 → u D σ H1) : tSeq (tIfS tt t tNext) u D σ H := h H s _ fun G1 H1 n => by
  cases b with
  | true => exact if_on rfl (k1 rfl G1 H1 n)
  | false => exact if_off rfl (k0 rfl G1 H1 n)
theorem ed_isiC {i : Nat} {v : V} {ty : Value} {b : Bool} {C : Addr} (h : σ[i]? = some (some v)) (hty : ∀ H, Same G H → TyX K H v ty) (hk : PySem.W.kitOne K ty (.ref C) = some b) : EvD K (tCB (rIsi K) (tCons (tVar i) (tCons (tC (.ref C)) tNil))) σ G (.bool b) := fun H s Q q =>
  ⟨v, h, v, .ref C, ty, .ref C, b, rfl, .own C, hty H s, hk, q _ G H (Nx.refl s) (.bl b)⟩
theorem ed_fld {i : Nat} {g C dx : Addr} {fs : List (Str × V)} {f : Str} {v : V} (h : σ[i]? = some (some (.ref g))) (hg : G g = some (.ins C dx fs)) (cl : Cls K C) (na : NoAttr K C f) (hf : fs.lookup f = some v) (hd : Dp K G v d) : EvD K (tFld K (tVar i) f) σ G d := fun H s Q q =>
  ⟨_, h, g, C, dx, fs, v, rfl, s _ _ hg, cl, na, hf, q v G H (Nx.refl s) hd⟩
end
end Gw
namespace Gw
open PySem PySem.Spec PyProof.Rows L2 LamX
/-! ### the law's own call where the law holds lambdas: what runs around is known, the law's table of codes is empty -/
structure LawT (P : Program) (w : World) (K : PySem.W.Frag) (mg : Str → Option Value) (x : Str) (st : Stmt) (N : List Str) (k : Nat) (f c Pt : Addr) : Prop where
  S : FnScope N ["script"] (defScope st)
  lk : ∃ (oc kV doc pm ct : Value) (od an : Option Addr) (osl : Array (Option Value)), K.lookup f = some ⟨oc, od, .func (PySem.W.fnOf x x (defArgs st) (defBody st) (defScope st) .none kV doc pm an (.ref c) ct), osl⟩ ∧ L2.Binds K (PySem.W.fnOf x x (defArgs st) (defBody st) (defScope st) .none kV doc pm an (.ref c) ct) ["script"] []
  cd : PySem.W.codeIn K (.ref c) x = true
  ch : PySem.W.codeHdIn K c Pt = true
  np : K.lookup Pt = none
  body : ∀ (base : Heap), K.In base → base.Ns mainGlobals mg → TabB base mg c Pt → ∀ (s : Shared) (H : Hp) (a : Addr) (ns : List Int), Room k (callerA.deeper (envOfC x (defScope st) s.heap.objs.size f (.ref c))) → SqL K H a (ns.map V.int) → ns.length ≤ 63 → H Pt = some (.tbl #[]) →
    ∃ t, PSs (cxOf CX0 P w K mg base N x (defScope st) f (.ref c) callerA [] s H E0).nox (defBody st) t ∧ t { nx := fun _ _ => V.non = V.bl true, rt := fun v _ => v = .bl true } (start N [.ref a]) H
/-- what may be told of where the law begins: the script, the table -/
def BegHp (H : Hp) (a Pt : Addr) (o : Obj) (ns : List Int) : Prop := H Pt = some (.tbl #[]) ∧ ∀ b u, H b = some u → (b = a ∧ u = .frz o (.lst (ns.map V.int))) ∨ (b = Pt ∧ u = .tbl #[])
theorem lawT_at {P : Program} {w : World} {K : PySem.W.Frag} {mg mb : Str → Option Value} {x : Str} {st : Stmt} {N : List Str} {k : Nat} {f a c Pt : Addr} {s1 : Shared} {vs : List Value} {ns : List Int}
    (KX : K.In s1.heap) (hns : s1.heap.Ns mainGlobals mg) (hb : s1.heap.Ns builtinsNs mb) (hbb : ∀ y : Str, y ≠ "__name__" → mb y = bootBuiltins y) (hlim : s1.heap.NoLimit) (hgen : s1.gens = #[])
    (hT : s1.heap.get? Pt = some { cls := .none, data := .fields #[] }) (hbm : ∃ (bm : Addr) (ob : Obj), mg "__builtins__" = some (.ref bm) ∧ bm ≠ builtinsNs ∧ s1.heap.get? bm = some ob ∧ ob.cls = .type "module" ∧ ob.dict = some builtinsNs ∧ ob.data = .plain)
    (ha : s1.heap.get? a = some { cls := .type "list", data := .seq vs.toArray }) (hi : IntsAre vs ns) (h63 : ns.length ≤ 63) (hr : Room (k + 1) callerA) (L : LawT P w K mg x st N k f c Pt) :
    codeAny (model P w) callerA (.call (.ref f) ⟨[.ref a], []⟩) (fun r s' => r = .ok (.ret (.bool true)) ∧ OldK s1.heap s'.heap ∧ s'.os = s1.os ∧ AllBare s'.gens) s1 := by
  have rv := vals_ints hi
  have lv := hi.length
  have hz : (ns.map V.int).length ≤ sizeLine := by rw [List.length_map]; exact Nat.le_trans h63 (by decide)
  have haP : a ≠ Pt := fun z => by rw [z, hT] at ha; cases ha
  have main : ∀ H : Hp, BegHp H a Pt { cls := .type "list", data := .seq vs.toArray } ns → SqL K H a (ns.map V.int) → (H a ≠ none → K.lookup a = none) →
      codeAny (model P w) callerA (.call (.ref f) ⟨[.ref a], []⟩) (fun r s' => r = .ok (.ret (.bool true)) ∧ OldK s1.heap s'.heap ∧ s'.os = s1.os ∧ AllBare s'.gens) s1 := by
    intro H hH hS hK
    have ok : HOk P w H s1.heap := fun b u q => by
      rcases hH.2 b u q with ⟨rfl, rfl⟩ | ⟨rfl, rfl⟩
      · exact ⟨ha, hz, vs, 0, rv, ha⟩
      · exact hT
    have out : ∀ {b : Addr} {o : Obj}, s1.heap.get? b = some o → (b = a → H a = none) → b ≠ Pt → (hidT s1.heap H).get? b = some o := fun {b o} e n n2 => hidT_get e (by
      cases q : H b with
      | none => rfl
      | some u =>
        rcases hH.2 b u q with ⟨e2, _⟩ | ⟨e2, _⟩
        · rw [e2, n e2] at q; cases q
        · exact absurd e2 n2)
    have kin : K.In (hidT s1.heap H) := fun b o e => out (KX b o e) (fun z => by
      cases q : H a with
      | none => rfl
      | some u =>
        have z2 := hK (by rw [q]; exact fun z => nomatch z)
        rw [z, z2] at e
        cases e) fun z => by rw [z, L.np] at e; cases e
    have nsp : ∀ {b : Addr} {m : Str → Option Value}, s1.heap.Ns b m → (hidT s1.heap H).Ns b m := fun {b m} ⟨o, es, ep, e, d, r⟩ => ⟨o, es, ep, out e (fun z => by
      rw [z, ha] at e
      cases e
      cases d) (fun z => by
      rw [z, hT] at e
      cases e
      cases d), d, r⟩
    have mod : Mod K mg (hidT s1.heap H) := ⟨kin, nsp hns, ⟨mb, nsp hb, hbb⟩, let ⟨mc, h1, h2⟩ := hlim; ⟨mc, nsp h1, h2⟩⟩
    have tab : TabB (hidT s1.heap H) mg c Pt := by
      refine ⟨PySem.W.codeHd_of_K kin L.ch, ?_, fun z => ?_⟩
      · obtain ⟨bm, ob, b1, b2, b3, b4, b5, b6⟩ := hbm
        refine ⟨bm, ob, b1, b2, fun z => ?_, fun z => ?_, out b3 (fun z => ?_) fun z => ?_, b4, b5, b6⟩
        · obtain ⟨o, es, ep, e, d, r⟩ := hns
          rw [z, e] at b3
          cases b3
          rw [d] at b6
          cases b6
        · rw [z, hT] at b3
          cases b3
          cases b6
        · rw [z, ha] at b3
          cases b3
          cases b6
        · rw [z, hT] at b3
          cases b3
          cases b6
      · obtain ⟨o, es, ep, e, d, r⟩ := hns
        rw [z, hT] at e
        cases e
        cases d
    have e0 : Env0 P w K mg (hidT s1.heap H) callerA [] s1 H := ⟨rfl, mod, fun _ _ e => of_hidT e, Nat.le_of_eq (hidT_size _ _), trivial, fun b z => absurd (show b ∈ ([] : List Addr) from z) List.not_mem_nil, ok, .of_eq hgen⟩
    obtain ⟨oc, kV, doc, pm, ct, od, an, osl, lk, B⟩ := L.lk
    have bt := B s1 [.ref a] KX rfl
    refine codeAny_mono (LamX.run_ofS (CX := CX0) (Q := fun v _ => v = .bl true) (E := E0) lk L.cd L.S hr e0 bt (.cons rfl .nil : Vals [.ref a] [.ref a]) rfl fun hr2 => ?_) fun r s' hq => ?_
    · obtain ⟨t, h1, h2⟩ := L.body _ kin (nsp hns) tab s1 H a ns hr2 hS h63 hH.1
      exact ⟨t, h1.nox, h2⟩
    · cases r with
      | error e => exact (show False from hq).elim
      | ok fl =>
        cases fl with
        | next => exact (show False from hq).elim
        | brk => exact (show False from hq).elim
        | cont => exact (show False from hq).elim
        | ret u =>
          obtain ⟨v, H2, hos, bare, un, ok2, ru, e⟩ := hq
          have e : v = .bl true := e
          subst e
          cases ru
          obtain ⟨more, gr⟩ := un.tbls Pt #[] hH.1
          have gr2 : s'.heap.get? Pt = some { cls := .none, data := .fields (#[] ++ more) } := ok2 Pt _ gr
          have other : ∀ b o, b ≠ Pt → s1.heap.get? b = some o → s'.heap.get? b = some o := fun b o nb eb => by
            cases q : H b with
            | none => exact un.keep b o eb q (fun z => nomatch z) (fun z => nomatch z)
            | some u =>
              rcases hH.2 b u q with ⟨rfl, rfl⟩ | ⟨rfl, rfl⟩
              · obtain ⟨g1, _⟩ := ok _ _ q
                obtain ⟨g2, _⟩ := ok2 _ _ (un.frzs _ _ _ q)
                rw [eb] at g1
                cases g1
                exact g2
              · exact absurd rfl nb
          refine ⟨rfl, ⟨fun b o eb => ?_, fun b o eb => ?_⟩, hos, bare⟩
          · by_cases hbP : b = Pt
            · subst hbP
              rw [hT] at eb
              cases eb
              exact .inr (.inl ⟨((PySem.W.codeHd_of_K KX L.ch).tab hT).isCodeTable, rfl, #[], more, rfl, gr2⟩)
            · exact .inl (other b o hbP eb)
          · by_cases hbP : b = Pt
            · subst hbP; exact ⟨_, gr2⟩
            · exact ⟨o, other b o hbP eb⟩
  cases hk : K.lookup a with
  | some o =>
    have e := KX a o hk
    rw [ha] at e
    cases e
    refine main (fun b => if b = Pt then some (.tbl #[]) else none) ⟨if_pos rfl, fun b u q => ?_⟩ (.inr ⟨_, vs.toArray, _, hk, rfl, rfl, rfl, by rw [List.size_toArray, lv]; exact Nat.le_trans h63 (by decide), by simpa using rv⟩) (fun z => absurd (if_neg haP) z)
    by_cases hbP : b = Pt
    · have q : (if b = Pt then some (HO.tbl #[]) else none) = some u := q
      rw [if_pos hbP] at q
      cases q
      exact .inr ⟨hbP, rfl⟩
    · have q : (if b = Pt then some (HO.tbl #[]) else none) = some u := q
      rw [if_neg hbP] at q
      cases q
  | none =>
    refine main (fun b => if b = Pt then some (.tbl #[]) else if b = a then some (.frz { cls := .type "list", data := .seq vs.toArray } (.lst (ns.map V.int))) else none) ⟨if_pos rfl, fun b u q => ?_⟩ (.inl (.inr ⟨_, (if_neg haP).trans (if_pos rfl)⟩)) fun _ => hk
    have q : (if b = Pt then some (HO.tbl #[]) else if b = a then some (HO.frz { cls := .type "list", data := .seq vs.toArray } (.lst (ns.map V.int))) else none) = some u := q
    by_cases hbP : b = Pt
    · rw [if_pos hbP] at q
      cases q
      exact .inr ⟨hbP, rfl⟩
    · rw [if_neg hbP] at q
      by_cases hba : b = a
      · rw [if_pos hba] at q
        cases q
        exact .inl ⟨hba, rfl⟩
      · rw [if_neg hba] at q
        cases q
/-- the goal that the head leaves, with the tables that it tells of -/
theorem walk_atT {l : PySem.W.OpenLaw} {k : Nat} {q : Program} {loose : List Str} {XP : (Str → Option Value) → Heap → Prop} {YP : World → Heap → Prop} {d : DefRec} {K : Params → PySem.W.Frag} {st : Stmt} {N : List Str} {ts : List Addr} (hn : l.most = some 63) (hdf : d.params.defaults = []) (hr : Room (k + 1) callerA)
    (hY : ∀ (w : World) (h : Heap), YP w h → (K w.params).In h ∧ ∀ Pt ∈ ts, h.get? Pt = some { cls := .none, data := .fields #[] })
    (F : ∀ (w : World) (mg : Str → Option Value) (fa : Addr) (h : Heap), (K w.params).In h → h.Ns mainGlobals mg → mg d.name = some (.ref fa) → ∃ c Pt, Pt ∈ ts ∧ LawT l.prog w (K w.params) mg d.name st N k fa c Pt) :
    PySem.W.WalkO q loose XP YP l.row.toRowW d [] (fun f vs => PySem.call f vs) := by
  refine Att.attach_call hn hdf fun w s0 s1 mg mb fa o pm cd doc a vs ns G Y ho hd hcd hmg hobj hints hlen hg => ?_
  obtain ⟨KX, YT⟩ := hY w _ Y
  obtain ⟨c, Pt, hPt, L⟩ := F w mg fa _ KX G.T.g hmg
  exact lawT_at KX G.T.g G.T.b G.T.builtins G.T.nolimit hg (YT Pt hPt) G.T.bmain hobj hints hlen hr L
end Gw
namespace Gw
open PySem PySem.Spec PyProof.Rows L2
/-! ### in, for items that are data -/
def rInD (K : PySem.W.Frag) : R2 := fun x y H Q => ∃ d es, Dp K H x d ∧ (Dp K H y (.tuple es) ∨ Dp K H y (.list es)) ∧ SeqAt.shaped d = true ∧ (∀ e ∈ es, SeqAt.shaped e = true) ∧ Q (.bl (es.any fun e => PyData.eqv e d)) H
/-- what an item's answer is, read off the heap -/
noncomputable def hitD (h : Heap) (d : PyData) (u : Value) : Bool := @decide (∃ e as, Reads h u e as ∧ PyData.eqv e d = true) (Classical.propDecidable _)
theorem hitD_of {h : Heap} {d e : PyData} {u : Value} {as : List Addr} (r : Reads h u e as) : hitD h d u = PyData.eqv e d := by
  unfold hitD
  cases q : PyData.eqv e d with
  | true => exact (@decide_eq_true_iff _ (Classical.propDecidable _)).mpr ⟨e, as, r, q⟩
  | false =>
    refine (@decide_eq_false_iff_not _ (Classical.propDecidable _)).mpr fun ⟨e', as', r', q'⟩ => ?_
    have := (reads_det (h := h) (h' := h) (fun _ _ z _ => z) r r').1
    rw [this, q] at q'
    cases q'
section
variable {X : Cx} {pins : List (Addr × Obj)} {σ : L2.St} {H : Hp} {s : Shared}
theorem any_hitD (I : Inv X pins σ H s) {d : PyData} : ∀ {es : List PyData} {xs : List V} {us : List Value}, DpAll X.K H xs es → Vals xs us → us.any (hitD s.heap d) = es.any fun e => PyData.eqv e d
  | [], _, _, .nil, .nil => rfl
  | e :: es, _, _, .cons h t, .cons r rs => by
    obtain ⟨as, q⟩ := Dp.reads I e _ _ h r
    rw [List.any_cons, List.any_cons, hitD_of q, any_hitD I t rs]
theorem mem_hitD {A : Around} {v : Value} {d : PyData} {bs : List Addr} (I : Inv X pins σ H s) (rv : Reads s.heap v d bs) (sd : SeqAt.shaped d = true) (hu : A.in1.units + 64 < cLine) : ∀ {es : List PyData} {xs : List V} {us : List Value}, DpAll X.K H xs es → Vals xs us → (∀ e ∈ es, SeqAt.shaped e = true) → ∀ u ∈ us, SeqAt.EqAt A.in1 s u v (hitD s.heap d u)
  | [], _, _, .nil, .nil, _ => fun u hu => nomatch hu
  | e :: es, _, _, .cons h t, .cons r rs, se => fun u hm => by
    obtain ⟨as, q⟩ := Dp.reads I e _ _ h r
    rcases List.mem_cons.mp hm with rfl | hm
    · rw [hitD_of q]
      exact PySem.W.keq_at q rv (se e List.mem_cons_self) sd hu
    · exact mem_hitD I rv sd hu t rs (fun x hx => se x (List.mem_cons_of_mem _ hx)) u hm
theorem op_inD (hu : X.A.in1.units + 64 < cLine) : OpR X (compareOp .In) (rInD X.K) := by
  intro pins s σ H x y v u Q I rx ry h
  obtain ⟨d, es, hd, hy, sd, se, q⟩ := h
  obtain ⟨bs, rv⟩ := Dp.reads I d x v hd rx
  rcases hy with hy | hy
  · cases hy with
    | @tup p xs _ hs ha =>
      cases ry
      obtain ⟨its, r, pl, hz⟩ := I.tuple hs
      refine SeqAt.in_tupleAt (hitD s.heap d) pl (fun w hw => mem_hitD I rv sd hu ha r se w (by simpa using hw)) ⟨.bl _, H, I, rfl, ?_⟩
      rw [show its.toArray.any (hitD s.heap d) = its.any (hitD s.heap d) by simp, any_hitD I ha r]
      exact q
  · cases hy with
    | @lst p xs _ hs ha =>
      cases ry
      obtain ⟨its, r, pl, hz⟩ := I.list hs
      refine SeqAt.in_listAt (hitD s.heap d) pl.isList (fun w hw => mem_hitD I rv sd hu ha r se w (by simpa using hw)) ⟨.bl _, H, I, rfl, ?_⟩
      rw [show its.toArray.any (hitD s.heap d) = its.any (hitD s.heap d) by simp, any_hitD I ha r]
      exact q
end
theorem q_inD {X : Cx} (K : PySem.W.Frag) (e : X.K = K) (hu : X.A.in1.units + 64 < cLine) : OpR X (compareOp .In) (rInD K) := by subst e; exact op_inD hu
section
variable {K : PySem.W.Frag} {x : PyData} {es : List PyData}
theorem ro_inT (hx : SeqAt.shaped x = true) (he : ∀ e ∈ es, SeqAt.shaped e = true) : ROp K (rInD K) x (.tuple es) (.bool (es.any fun e => PyData.eqv e x)) := fun G H s vx vy dx dy Q q =>
  ⟨x, es, dp_mono s _ dx, .inl (dp_mono s _ dy), hx, he, q _ G H (Nx.refl s) (.bl _)⟩
theorem ro_inL (hx : SeqAt.shaped x = true) (he : ∀ e ∈ es, SeqAt.shaped e = true) : ROp K (rInD K) x (.list es) (.bool (es.any fun e => PyData.eqv e x)) := fun G H s vx vy dx dy Q q =>
  ⟨x, es, dp_mono s _ dx, .inr (dp_mono s _ dy), hx, he, q _ G H (Nx.refl s) (.bl _)⟩
end
end Gw
namespace Gw
open PySem PySem.Spec PyProof.Rows L2
/-! ### [.. for a, b, c in ..], things turned around -/
section
variable {K : PySem.W.Frag} {σ : L2.St} {G : Hp} {tl te : TE} {ds : List PyData}
theorem en_lcT3 {i j k : Nat} {vs : List Nat} (f : PyData → PyData) (h : EvD K tl σ G (.tuple ds)) (hw : ∀ v1 v2 v3, wipe ((((wipe σ vs).set i (some v1)).set j (some v2)).set k (some v3)) vs = wipe σ vs) (hz : ds.length ≤ sizeLine) (h3 : ∀ d ∈ ds, ∃ x y z, d = .tuple [x, y, z])
    (he : ∀ x y z v1 v2 v3 Gi, PyData.tuple [x, y, z] ∈ ds → Same G Gi → Dp K Gi v1 x → Dp K Gi v2 y → Dp K Gi v3 z → EvD K te ((((wipe σ vs).set i (some v1)).set j (some v2)).set k (some v3)) Gi (f (.tuple [x, y, z]))) :
    EvN K (tLc (iTup K tl) (gTup K 3 (gCons (gName i) (gCons (gName j) (gCons (gName k) gNil)))) tYes te vs) σ G (ds.map f) := fun H s Q q =>
  h H s _ fun v G1 H1 n1 hv => by
    cases hv with
    | @tup a xs _ hs ha =>
      refine ⟨a, rfl, ⟨xs, same_tup n1.gh hs⟩, fun D hD => ?_⟩
      refine lc_tup (K := K) (a := a) (xs := xs) (fun k Hc => LcI K G1 H1 D ((ds.take k).map f) Hc) (LcI.start n1.gh hD) (fun k Hc _ p => ?_) (fun kk x Hc hk p => ?_) fun Hc p => ?_
      · obtain ⟨Gi, acc, n, _⟩ := p.ex
        exact same_tup (n1.gh.trans n.hh) hs
      · obtain ⟨dk, hdk, hdx⟩ := dpa_get ha hk
        have hm : dk ∈ ds := List.mem_of_getElem? hdk
        obtain ⟨x1, x2, x3, rfl⟩ := h3 dk hm
        cases hdx with
        | @tup b ys _ hy hya =>
          obtain _ | ⟨d1, _ | ⟨d2, _ | ⟨d3, _ | _⟩⟩⟩ := hya
          obtain ⟨Gi0, acc0, n0, _⟩ := id p.ex
          refine ⟨b, _, rfl, same_tup (n1.gh.trans n0.hh) hy, rfl, _, _, rfl, _, _, rfl, _, _, rfl, rfl, hw _ _ _, ?_⟩
          refine LcI.turn (b := true) (e := f (.tuple [x1, x2, x3])) hD p ?_ (fun Gi g => eb_yes) (fun _ Gi g => he x1 x2 x3 _ _ _ Gi hm (n1.gg.trans g) (dp_mono g _ d1) (dp_mono g _ d2) (dp_mono g _ d3)) fun H' p' => ?_
          · have := (List.getElem?_eq_some_iff.mp hdk).1
            rw [List.length_map, List.length_take]; omega
          · rw [List.take_succ, hdk, List.map_append]
            exact p'
      · rw [dpa_length ha, List.take_length] at p
        exact p.finN n1 hD q
theorem en_lcL3 {i j k : Nat} {vs : List Nat} (f : PyData → PyData) (h : EvD K tl σ G (.list ds)) (hw : ∀ v1 v2 v3, wipe ((((wipe σ vs).set i (some v1)).set j (some v2)).set k (some v3)) vs = wipe σ vs) (hz : ds.length ≤ sizeLine) (h3 : ∀ d ∈ ds, ∃ x y z, d = .tuple [x, y, z])
    (he : ∀ x y z v1 v2 v3 Gi, PyData.tuple [x, y, z] ∈ ds → Same G Gi → Dp K Gi v1 x → Dp K Gi v2 y → Dp K Gi v3 z → EvD K te ((((wipe σ vs).set i (some v1)).set j (some v2)).set k (some v3)) Gi (f (.tuple [x, y, z]))) :
    EvN K (tLc (iList K tl) (gTup K 3 (gCons (gName i) (gCons (gName j) (gCons (gName k) gNil)))) tYes te vs) σ G (ds.map f) := fun H s Q q =>
  h H s _ fun v G1 H1 n1 hv => by
    cases hv with
    | @lst a xs _ hs ha =>
      refine ⟨a, rfl, ⟨xs, n1.gh.seq hs⟩, fun D hD => ?_⟩
      refine lc_list (K := K) (a := a) (xs := xs) (fun k Hc => LcI K G1 H1 D ((ds.take k).map f) Hc) (LcI.start n1.gh hD) (fun k Hc _ p => ?_) (fun kk x Hc hk p => ?_) fun Hc p => ?_
      · obtain ⟨Gi, acc, n, _⟩ := p.ex
        exact (n1.gh.trans n.hh).seq hs
      · obtain ⟨dk, hdk, hdx⟩ := dpa_get ha hk
        have hm : dk ∈ ds := List.mem_of_getElem? hdk
        obtain ⟨x1, x2, x3, rfl⟩ := h3 dk hm
        cases hdx with
        | @tup b ys _ hy hya =>
          obtain _ | ⟨d1, _ | ⟨d2, _ | ⟨d3, _ | _⟩⟩⟩ := hya
          obtain ⟨Gi0, acc0, n0, _⟩ := id p.ex
          refine ⟨b, _, rfl, same_tup (n1.gh.trans n0.hh) hy, rfl, _, _, rfl, _, _, rfl, _, _, rfl, rfl, hw _ _ _, ?_⟩
          refine LcI.turn (b := true) (e := f (.tuple [x1, x2, x3])) hD p ?_ (fun Gi g => eb_yes) (fun _ Gi g => he x1 x2 x3 _ _ _ Gi hm (n1.gg.trans g) (dp_mono g _ d1) (dp_mono g _ d2) (dp_mono g _ d3)) fun H' p' => ?_
          · have := (List.getElem?_eq_some_iff.mp hdk).1
            rw [List.length_map, List.length_take]; omega
          · rw [List.take_succ, hdk, List.map_append]
            exact p'
      · rw [dpa_length ha, List.take_length] at p
        exact p.finN n1 hD q
/-! [::-1] of a list or a tuple -/
def tRevE (K : PySem.W.Frag) (te : TE) : TE := fun σ H Q => tRevL K te σ H Q ∨ tRevT K te σ H Q
theorem q_revE {X : Cx} (K : PySem.W.Frag) {e : Expr} {te : TE} {k : Nat} {p1 p2 p3 pos : Pos} (ek : X.K = K) (he : PE X e te) : PE X (.Subscript e (.Slice none none (some (.UnaryOp .USub (.Constant (.int 1) k p1) p2)) p3) pos) (tRevE K te) := by
  subst ek
  exact ⟨fun pins s σ H Q I q => q.elim (fun q => (pe_revL he).run pins s σ H Q I q) fun q => (pe_revT he).run pins s σ H Q I q⟩
theorem ed_revEL (h : EvD K tl σ G (.list ds)) : EvD K (tRevE K tl) σ G (.list ds.reverse) := fun H s Q q => .inl (h H s _ fun v G1 H1 n1 hv => by
  cases hv with
  | @lst a xs _ hs ha =>
    refine ⟨a, xs, rfl, n1.gh.seq hs, fun p hp => ?_⟩
    have m := Nx.new (o := .lst xs.reverse) n1.gh hp
    exact q _ _ _ (n1.trans m) (.lst (SqL.of upd_same) (dpa_mono m.gg _ (dpa_reverse ha))))
theorem ed_revET (h : EvD K tl σ G (.tuple ds)) : EvD K (tRevE K tl) σ G (.tuple ds.reverse) := fun H s Q q => .inr (ed_revT h H s Q q)
theorem en_lcL2 {i j : Nat} {vs : List Nat} (f : PyData → PyData) (h : EvD K tl σ G (.list ds)) (hw : ∀ v1 v2, wipe (((wipe σ vs).set i (some v1)).set j (some v2)) vs = wipe σ vs) (hz : ds.length ≤ sizeLine) (h3 : ∀ d ∈ ds, ∃ x y, d = .tuple [x, y])
    (he : ∀ x y v1 v2 Gi, PyData.tuple [x, y] ∈ ds → Same G Gi → Dp K Gi v1 x → Dp K Gi v2 y → EvD K te (((wipe σ vs).set i (some v1)).set j (some v2)) Gi (f (.tuple [x, y]))) :
    EvN K (tLc (iList K tl) (gTup K 2 (gCons (gName i) (gCons (gName j) gNil))) tYes te vs) σ G (ds.map f) := fun H s Q q =>
  h H s _ fun v G1 H1 n1 hv => by
    cases hv with
    | @lst a xs _ hs ha =>
      refine ⟨a, rfl, ⟨xs, n1.gh.seq hs⟩, fun D hD => ?_⟩
      refine lc_list (K := K) (a := a) (xs := xs) (fun k Hc => LcI K G1 H1 D ((ds.take k).map f) Hc) (LcI.start n1.gh hD) (fun k Hc _ p => ?_) (fun kk x Hc hk p => ?_) fun Hc p => ?_
      · obtain ⟨Gi, acc, n, _⟩ := p.ex
        exact (n1.gh.trans n.hh).seq hs
      · obtain ⟨dk, hdk, hdx⟩ := dpa_get ha hk
        have hm : dk ∈ ds := List.mem_of_getElem? hdk
        obtain ⟨x1, x2, rfl⟩ := h3 dk hm
        cases hdx with
        | @tup b ys _ hy hya =>
          obtain _ | ⟨d1, _ | ⟨d2, _ | _⟩⟩ := hya
          obtain ⟨Gi0, acc0, n0, _⟩ := id p.ex
          refine ⟨b, _, rfl, same_tup (n1.gh.trans n0.hh) hy, rfl, _, _, rfl, _, _, rfl, rfl, hw _ _, ?_⟩
          refine LcI.turn (b := true) (e := f (.tuple [x1, x2])) hD p ?_ (fun Gi g => eb_yes) (fun _ Gi g => he x1 x2 _ _ Gi hm (n1.gg.trans g) (dp_mono g _ d1) (dp_mono g _ d2)) fun H' p' => ?_
          · have := (List.getElem?_eq_some_iff.mp hdk).1
            rw [List.length_map, List.length_take]; omega
          · rw [List.take_succ, hdk, List.map_append]
            exact p'
      · rw [dpa_length ha, List.take_length] at p
        exact p.finN n1 hD q
/-! new lists -/
theorem en_cat2 {es : List PyData} {tr : TE} (h1 : EvN K tl σ G ds) (h2 : EvN K tr σ G es) (hz : ds.length + es.length ≤ sizeLine) : EvN K (tOp rCat tl tr) σ G (ds ++ es) := fun H s Q q =>
  h1 H s _ fun p vs G1 H1 n1 hp gp e ha => (h2.mono n1.gg) H1 n1.gh _ fun p2 ws G2 H2 n2 hp2 gp2 e2 ha2 => ⟨p, p2, vs, ws, rfl, rfl, n2.hh _ _ e, e2, by rw [dpa_length ha, dpa_length ha2]; exact hz, fun p3 hp3 =>
    q p3 (vs ++ ws) G2 _ ((n1.trans n2).trans (Nx.lay n2.gh hp3)) ((n1.trans n2).hh.free hp3) (n2.gh.free hp3) upd_same (dpa_append (dpa_mono n2.gg _ ha) ha2)⟩
theorem en_catV {es : List PyData} {tr : TE} {i : Nat} {l : Addr} {xs : List V} (h : σ[i]? = some (some (.ref l))) (hl : G l = some (.lst xs)) (ha : DpAll K G xs ds) (hr : EvN K tr σ G es) (hz : ds.length + es.length ≤ sizeLine) : EvN K (tOp rCat (tVar i) tr) σ G (ds ++ es) := fun H s Q q =>
  ⟨_, h, hr H s _ fun p vs G' H' n hp gp e hv => ⟨l, p, xs, vs, rfl, rfl, n.hh _ _ (s _ _ hl), e, by rw [dpa_length ha, dpa_length hv]; exact hz, fun p2 hp2 =>
    q p2 (xs ++ vs) G' _ (n.trans (Nx.lay n.gh hp2)) (n.hh.free hp2) (n.gh.free hp2) upd_same (dpa_append (dpa_mono n.gg _ ha) hv)⟩⟩
theorem en_listL {i : Nat} {v : V} (h : σ[i]? = some (some v)) (hv : Dp K G v (.list ds)) : EvN K (tCB (rListQ K) (tCons (tVar i) tNil)) σ G ds := fun H s Q q => by
  cases hv with
  | @lst a xs _ hs ha => exact ⟨_, h, a, xs, rfl, .inl (s.seq hs), fun p hp => q p xs G _ (Nx.lay s hp) hp (s.free hp) upd_same ha⟩
theorem rd_setN {i : Nat} {u : TS} {d : PyData} (h : EvN K te σ G ds) (h1 : ∀ p vs G', Same G G' → G' p = some (.lst vs) → DpAll K G' vs ds → RtD K u (σ.set i (some (.ref p))) G' d) : RtD K (tSeq (tAsg te (gName i)) u) σ G d := fun H s D q => h H s _ fun p vs G1 H1 n1 hp gp e ha => by
  obtain ⟨m, gi⟩ := n1.tell hp gp e
  exact h1 p vs _ m.gg upd_same (dpa_mono gi _ ha) H1 m.gh D fun v G2 H2 n2 hd => q v G2 H2 (m.trans n2) hd
end
end Gw
namespace Gw
open PySem PySem.Spec PyProof.Rows L2
/-! ### defs that use repr: called only where no guard stands -/
structure FnG (P : Program) (w : World) (K : PySem.W.Frag) (mg : Str → Option Value) (base : Heap) (k : Nat) (f : Addr) (fd : FuncData) (ps : List Str) (sp : Sp) : Prop where
  len : ∀ vs H Q E, sp vs H Q E → vs.length = ps.length
  run : ∀ (A : Around) (outer : List Env) (s : Shared) (H : Hp) (args : Args) (us : List Value) (vs : List V) (Q : VK) (E : XK), A.guards = some [] → Room k A → Env0 P w K mg base A outer s H → BindsTo s fd args (ps.zip us) → Vals vs us → sp vs H Q E →
    codeAny (model P w) A (.call (.ref f) args) (CR CX0 outer P w H s Q E) s
def OkGd (P : Program) (w : World) (K : PySem.W.Frag) (mg : Str → Option Value) (base : Heap) (x : Str) (ps : List Str) (k : Nat) (sp : Sp) : Prop :=
  ∃ (f : Addr) (fd : FuncData), mg x = some (.ref f) ∧ PySem.W.keepIn K (.ref f) = true ∧ Binds K fd ps [] ∧ FnG P w K mg base k f fd ps sp
theorem fn_okGd {P : Program} {w : World} {K : PySem.W.Frag} {mg : Str → Option Value} {base : Heap} {x qual : Str} {st : Stmt} {f : Addr} {fd : FuncData} {N ps : List Str} {k : Nat} {sp : Sp} (F : Fun K x qual st f fd) (S : FnScope N ps (defScope st)) (len : ∀ vs H Q E, sp vs H Q E → vs.length = ps.length)
    (hbody : ∀ (cdv : Value) (A : Around) (outer : List Env) (s : Shared) (H : Hp) (vs : List V) (Q : VK) (E : XK), (A.deeper (envOfC qual (defScope st) s.heap.objs.size f cdv)).guards = some [] → Room k (A.deeper (envOfC qual (defScope st) s.heap.objs.size f cdv)) → sp vs H Q E →
      ∃ t, PSs (cxOf CX0 P w K mg base N qual (defScope st) f cdv A outer s H E).nox (defBody st) t ∧ t { nx := fun _ H' => Q .non H', rt := Q } (start N vs) H) : FnG P w K mg base (k + 1) f fd ps sp := by
  obtain ⟨oc, od, kV, doc, pm, an, cdv, ct, osl, rfl, lk, hcd⟩ := F.ex
  refine ⟨len, fun A outer s H args us vs Q E hG hr e0 hb r hsp => ?_⟩
  refine LamX.run_ofS (CX := CX0) lk hcd S hr e0 hb r (len _ _ _ _ hsp) fun hr2 => ?_
  obtain ⟨t, h, q⟩ := hbody cdv A outer s H vs Q E hG hr2 hsp
  exact ⟨t, h.nox, q⟩
theorem DefAt.okGd {P : Program} {w : World} {K : PySem.W.Frag} {mg : Str → Option Value} {base : Heap} {x : Str} {st : Stmt} {ps : List Str} {f : Addr} {fd : FuncData} {k : Nat} {sp : Sp}
    (D : DefAt K mg x st ps f fd) (h : FnG P w K mg base k f fd ps sp) : OkGd P w K mg base x ps k sp := ⟨f, fd, D.m, D.F.kp, D.b, h⟩
section
variable {X : Cx} {x : Str} {ps : List Str} {k : Nat} {sp : Sp} {p pos : Pos} {e : Expr} {es : List Expr} {t : TA}
theorem pe_okGd (hG : X.A.guards = some []) (h : OkGd X.prog X.w X.K X.mg X.base x ps k sp) (hr : Room k X.A) (hg : Gl X x) (ha : PA X (e :: es) t) (hdb : (x == ("__debug__" : Str)) = false := by decide)
    (he : starEach (e :: es) X.env = (false, eval e X.env) :: starEach es X.env := by rfl) (hpl : (backTo pos (starEach es X.env)).any (·.1) = false := by rfl) :
    PE X (.Call (.Name x p) (e :: es) [] pos) (tCall sp [] E0 t) := by
  obtain ⟨f, fd, hm, hk, hb, F⟩ := h
  refine ⟨fun pins s σ H Q I h => ?_⟩
  refine wpAny_Call_Name_kw (ld_glob I hg hm ?_ hdb)
  refine PySem.W.callWith_K (h₀ := X.base) I.ok.mod.kin hk (thn (ha.run pos pins s σ H _ I h) fun us s1 ⟨vs, H1, I1, r, q⟩ => ⟨I1.kIn, ?_⟩) he hpl
  have r2 : Vals (vs ++ []) (us ++ []) := r.append .nil
  have hl : (us ++ []).length = ps.length := by rw [← r2.length]; exact F.len _ _ _ _ q
  refine wpAny_call (codeAny_mono (F.run X.A X.stack s1 H1 ⟨us, []⟩ (us ++ []) (vs ++ []) Q E0 hG hr I1.env0 (hb s1 us I1.kIn hl) r2 q) fun r s' hq => ?_)
  cases r with
  | error e => exact (show False from hq).elim
  | ok fl =>
    cases fl with
    | ret u => exact I1.after hq
    | next => exact False.elim hq
    | brk => exact False.elim hq
    | cont => exact False.elim hq
end
end Gw
namespace Gw
open PySem PySem.Spec PyProof.Rows L2
/-! ### the text of numbers and tuples tells them -/
def enc (d : PyData) : List Nat := d.shown.cps.toList
def Sgn (c : Nat) : Prop := c = 45 ∨ (48 ≤ c ∧ c ≤ 57)
/-- what may stand behind: nothing, a comma, a closing sign -/
def Beh (r : List Nat) : Prop := ∀ c, r.head? = some c → c = 44 ∨ c = 41 ∨ c = 93
theorem toStr_inj {i j : Int} (h : toString i = toString j) : i = j := by
  have := congrArg String.toInt? h
  simpa using this
theorem enc_int (i : Int) : enc (.int i) = (Str.ofString (toString i)).cps.toList := by unfold enc; rw [PyData.shown_int]
theorem enc_int_sgn {i : Int} : ∀ c ∈ enc (.int i), Sgn c := fun c hc => by
  rw [enc_int] at hc
  by_cases h : Sgn c
  · exact h
  · refine absurd hc (int_text_free' c ?_ i)
    unfold Sgn at h
    omega
theorem enc_int_inj {i j : Int} (h : enc (.int i) = enc (.int j)) : i = j := by
  rw [enc_int, enc_int, signs_ofString, signs_ofString] at h
  refine toStr_inj (String.ext ?_)
  exact (List.map_inj_right (fun a b e => by
    have := UInt32.toNat_inj.mp e
    exact Char.ext this)).mp h
theorem enc_int_ne (i : Int) : enc (.int i) ≠ [] := fun h => by
  rw [enc_int, signs_ofString] at h
  have h1 : (toString i).toList = [] := by simpa using h
  rw [Int.toString_eq_repr, Int.repr_eq_if] at h1
  split at h1
  · rw [Nat.toList_repr] at h1
    exact Nat.toDigits_ne_nil h1
  · rw [String.toList_append] at h1
    exact absurd (List.append_eq_nil_iff.mp h1).1 (by decide)
theorem run_split {P : Nat → Prop} : ∀ {xs ys r s : List Nat}, (∀ c ∈ xs, P c) → (∀ c ∈ ys, P c) → (∀ c, r.head? = some c → ¬ P c) → (∀ c, s.head? = some c → ¬ P c) → xs ++ r = ys ++ s → xs = ys ∧ r = s
  | [], [], _, _, _, _, _, _, h => ⟨rfl, h⟩
  | [], y :: ys, r, s, _, hy, hr, _, h => by
    have e : r = y :: (ys ++ s) := h
    exact absurd (hy y List.mem_cons_self) (hr y (by rw [e]; rfl))
  | x :: xs, [], r, s, hx, _, _, hs, h => by
    have e : x :: (xs ++ r) = s := h
    exact absurd (hx x List.mem_cons_self) (hs x (by rw [← e]; rfl))
  | x :: xs, y :: ys, r, s, hx, hy, hr, hs, h => by
    have h : x :: (xs ++ r) = y :: (ys ++ s) := h
    obtain ⟨e0, h2⟩ := List.cons.inj h
    subst e0
    obtain ⟨e1, e⟩ := run_split (fun c hc => hx c (List.mem_cons_of_mem _ hc)) (fun c hc => hy c (List.mem_cons_of_mem _ hc)) hr hs h2
    exact ⟨by rw [e1], e⟩
/-- the items of a tuple behind its first sign -/
def encR : List PyData → List Nat
  | [] => [41]
  | [x] => enc x ++ [41]
  | x :: y :: r => enc x ++ 44 :: 32 :: encR (y :: r)
def encT : List PyData → List Nat
  | [x] => enc x ++ [44, 41]
  | xs => encR xs
theorem join_enc : ∀ xs : List PyData, 2 ≤ xs.length ∨ xs = [] ∨ 1 ≤ xs.length → (Str.join ", " (PyData.shownAll xs)).cps.toList ++ [41] = encR xs
  | [], _ => by
    rw [PyData.shownAll, join_nil]
    rfl
  | [x], _ => by
    rw [PyData.shownAll, PyData.shownAll, join_one]
    rfl
  | x :: y :: r, _ => by
    have ih := join_enc (y :: r) (.inr (.inr (by simp)))
    rw [PyData.shownAll, PyData.shownAll, join_cons_cons, cps_toList_append, cps_toList_append, encR, ← ih, PyData.shownAll]
    have e : (Str.ofString ", ").cps.toList = [44, 32] := by rw [signs_ofString]; rfl
    rw [e]
    simp [enc]
theorem enc_tup (xs : List PyData) : enc (.tuple xs) = 40 :: encT xs := by
  unfold enc
  rw [PyData.shown]
  unfold tupleText
  rw [cps_toList_append, cps_toList_append]
  have e1 : (Str.ofString "(").cps.toList = [40] := by rw [signs_ofString]; rfl
  have e2 : (Str.ofString ",)").cps.toList = [44, 41] := by rw [signs_ofString]; rfl
  have e3 : (Str.ofString ")").cps.toList = [41] := by rw [signs_ofString]; rfl
  match xs with
  | [] =>
    show (Str.ofString "(").cps.toList ++ _ ++ (Str.ofString ")").cps.toList = _
    rw [e1, e3, PyData.shownAll, join_nil]; rfl
  | [x] =>
    show (Str.ofString "(").cps.toList ++ _ ++ (Str.ofString ",)").cps.toList = _
    rw [e1, e2, PyData.shownAll, PyData.shownAll, join_one]; rfl
  | x :: y :: r =>
    have ih := join_enc (x :: y :: r) (.inl (by simp))
    have el : ((PyData.shownAll (x :: y :: r)).length == 1) = false := by rw [PyData.shownAll, PyData.shownAll]; rfl
    rw [el]
    show (Str.ofString "(").cps.toList ++ _ ++ (Str.ofString ")").cps.toList = _
    rw [e1, e3, List.append_assoc, ih]
    rfl
/-! heads -/
theorem enc_head_int (i : Int) : ∃ c r, enc (.int i) = c :: r ∧ Sgn c := by
  cases h : enc (.int i) with
  | nil => exact absurd h (enc_int_ne i)
  | cons c r => exact ⟨c, r, rfl, enc_int_sgn c (by rw [h]; exact List.mem_cons_self)⟩
theorem foldl_head (f : Nat → List Nat) : ∀ (l : List Nat) (acc : Array Nat) (q : Nat), acc.toList.head? = some q → (l.foldl (fun out c => out ++ (f c).toArray) acc).toList.head? = some q
  | [], acc, q, h => h
  | c :: l, acc, q, h => by
    rw [List.foldl_cons]
    refine foldl_head f l _ q ?_
    rw [Array.toList_append, List.head?_append, h]
    rfl
theorem textFrom_head : ∀ (ts : List Str) (k : Nat) (acc : Str) (q : Nat), acc.cps.toList.head? = some q → (textFrom k acc ts).cps.toList.head? = some q
  | [], k, acc, q, h => h
  | t :: r, k, acc, q, h => by
    have e : textFrom k acc (t :: r) = textFrom (k + 1) (acc ++ (if k > 0 then ", " else "" : String) ++ t) r := rfl
    rw [e]
    refine textFrom_head r (k + 1) _ q ?_
    rw [cps_toList_append, cps_toList_append, List.head?_append, List.head?_append, h]
    rfl
/-- what is neither a number nor a tuple begins otherwise -/
theorem enc_head_other : ∀ d : PyData, (∀ i, d ≠ .int i) → (∀ xs, d ≠ .tuple xs) → ∃ c r, enc d = c :: r ∧ ¬ Sgn c ∧ (c ≠ 40 ∧ c ≠ 41) := by
  have mk : ∀ (l : List Nat) (q : Nat), l.head? = some q → ¬ Sgn q → (q ≠ 40 ∧ q ≠ 41) → ∃ c r, l = c :: r ∧ ¬ Sgn c ∧ (c ≠ 40 ∧ c ≠ 41) := fun l q h h1 h2 => by
    cases l with
    | nil => cases h
    | cons c r => cases h; exact ⟨_, r, rfl, h1, h2⟩
  intro d h1 h2
  cases d with
  | none =>
    refine mk _ 78 ?_ (by unfold Sgn; omega) (by decide)
    unfold enc; rw [PyData.shown_none]
    show (Str.ofString "None").cps.toList.head? = _
    rw [signs_ofString]; rfl
  | bool b =>
    cases b with
    | true =>
      refine mk _ 84 ?_ (by unfold Sgn; omega) (by decide)
      show (Str.ofString "True").cps.toList.head? = _
      rw [signs_ofString]; rfl
    | false =>
      refine mk _ 70 ?_ (by unfold Sgn; omega) (by decide)
      show (Str.ofString "False").cps.toList.head? = _
      rw [signs_ofString]; rfl
  | int i => exact absurd rfl (h1 i)
  | str x =>
    have hq : reprQuote x = 39 ∨ reprQuote x = 34 := by
      unfold reprQuote
      split <;> simp
    have hh : (enc (.str x)).head? = some (reprQuote x) := by
      show (reprText x).cps.toList.head? = _
      unfold reprText
      rw [Array.toList_push, List.head?_append, ← Array.foldl_toList, foldl_head _ _ #[reprQuote x] (reprQuote x) rfl]
      rfl
    refine mk _ _ hh ?_ ?_
    · unfold Sgn; rcases hq with e | e <;> rw [e] <;> omega
    · rcases hq with e | e <;> rw [e] <;> decide
  | list xs =>
    refine mk _ 91 ?_ (by unfold Sgn; omega) (by decide)
    show (listText (PyData.shownAll xs)).cps.toList.head? = _
    unfold listText
    rw [cps_toList_append, List.head?_append, textFrom_head _ 0 (Str.ofString "[") 91 (by rw [signs_ofString]; rfl)]
    rfl
  | tuple xs => exact absurd rfl (h2 xs)
  | dict kvs =>
    refine mk _ 123 ?_ (by unfold Sgn; omega) (by decide)
    show (dictText (PyData.shownKv kvs)).cps.toList.head? = _
    unfold dictText
    rw [cps_toList_append, cps_toList_append, List.head?_append, List.head?_append]
    have e : (Str.ofString "{").cps.toList = [123] := by rw [signs_ofString]; rfl
    rw [e]
    rfl
/-! told apart -/
mutual
def good : PyData → Bool
  | .int _ => true
  | .tuple xs => goodA xs
  | _ => false
def goodA : List PyData → Bool
  | [] => true
  | x :: xs => good x && goodA xs
end
theorem good_head {d : PyData} (h : good d = true) : ∃ c r, enc d = c :: r ∧ (Sgn c ∨ c = 40) := by
  cases d with
  | int i =>
    obtain ⟨c, r, e, s⟩ := enc_head_int i
    exact ⟨c, r, e, .inl s⟩
  | tuple xs => exact ⟨40, encT xs, enc_tup xs, .inr rfl⟩
  | _ => cases h
theorem any_head (d : PyData) : ∃ c r, enc d = c :: r ∧ c ≠ 41 := by
  by_cases h1 : ∃ i, d = .int i
  · obtain ⟨i, rfl⟩ := h1
    obtain ⟨c, r, e, s⟩ := enc_head_int i
    exact ⟨c, r, e, by unfold Sgn at s; omega⟩
  by_cases h2 : ∃ xs, d = .tuple xs
  · obtain ⟨xs, rfl⟩ := h2
    exact ⟨40, _, enc_tup xs, by decide⟩
  obtain ⟨c, r, e, _, h3⟩ := enc_head_other d (fun i z => h1 ⟨i, z⟩) (fun xs z => h2 ⟨xs, z⟩)
  exact ⟨c, r, e, h3.2⟩
theorem beh_not {r : List Nat} (h : Beh r) : ∀ c, r.head? = some c → ¬ Sgn c := fun c e s => by
  have := h c e
  unfold Sgn at s
  omega
theorem beh44 {r : List Nat} : Beh (44 :: r) := fun c e => by cases e; exact .inl rfl
theorem beh41 {r : List Nat} : Beh (41 :: r) := fun c e => by cases e; exact .inr (.inl rfl)
mutual
theorem enc_pre : ∀ (d e : PyData) (r s : List Nat), good d = true → enc d ++ r = enc e ++ s → Beh r → Beh s → d = e ∧ r = s
  | .int i, e, r, s, hd, h, hr, hs => by
    by_cases h1 : ∃ j, e = .int j
    · obtain ⟨j, rfl⟩ := h1
      obtain ⟨e1, e2⟩ := run_split (P := Sgn) enc_int_sgn enc_int_sgn (beh_not hr) (beh_not hs) h
      exact ⟨by rw [enc_int_inj e1], e2⟩
    · obtain ⟨c, t, ec, sc⟩ := enc_head_int i
      rw [ec] at h
      by_cases h2 : ∃ xs, e = .tuple xs
      · obtain ⟨xs, rfl⟩ := h2
        rw [enc_tup] at h
        have : c = 40 := (List.cons.inj h).1
        unfold Sgn at sc
        omega
      · obtain ⟨c', t', ec', nc, _⟩ := enc_head_other e (fun i z => h1 ⟨i, z⟩) (fun xs z => h2 ⟨xs, z⟩)
        rw [ec'] at h
        exact absurd ((List.cons.inj h).1 ▸ sc) nc
  | .tuple xs, e, r, s, hd, h, hr, hs => by
    rw [enc_tup] at h
    by_cases h2 : ∃ ys, e = .tuple ys
    · obtain ⟨ys, rfl⟩ := h2
      rw [enc_tup] at h
      have h := (List.cons.inj h).2
      rw [good] at hd
      obtain ⟨e1, e2⟩ := encT_pre xs ys r s hd h
      exact ⟨by rw [e1], e2⟩
    · by_cases h1 : ∃ j, e = .int j
      · obtain ⟨j, rfl⟩ := h1
        obtain ⟨c, t, ec, sc⟩ := enc_head_int j
        rw [ec] at h
        have : 40 = c := (List.cons.inj h).1
        unfold Sgn at sc
        omega
      · obtain ⟨c', t', ec', _, nc, _⟩ := enc_head_other e (fun i z => h1 ⟨i, z⟩) (fun xs z => h2 ⟨xs, z⟩)
        rw [ec'] at h
        exact absurd (List.cons.inj h).1.symm nc
  | .none, _, _, _, hd, _, _, _ => nomatch hd
  | .bool _, _, _, _, hd, _, _, _ => nomatch hd
  | .str _, _, _, _, hd, _, _, _ => nomatch hd
  | .list _, _, _, _, hd, _, _, _ => nomatch hd
  | .dict _, _, _, _, hd, _, _, _ => nomatch hd
theorem encT_pre : ∀ (xs ys : List PyData) (r s : List Nat), goodA xs = true → encT xs ++ r = encT ys ++ s → xs = ys ∧ r = s
  | [], [], r, s, _, h => ⟨rfl, (List.cons.inj h).2⟩
  | [], [y], r, s, _, h => by
    obtain ⟨c, t, ec, nc⟩ := any_head y
    have h : 41 :: r = (enc y ++ [44, 41]) ++ s := h
    rw [ec] at h
    exact absurd (List.cons.inj h).1.symm nc
  | [], y :: z :: t, r, s, _, h => by
    obtain ⟨c, u, ec, nc⟩ := any_head y
    have h : 41 :: r = (enc y ++ 44 :: 32 :: encR (z :: t)) ++ s := h
    rw [ec] at h
    exact absurd (List.cons.inj h).1.symm nc
  | [x], [], r, s, _, h => by
    obtain ⟨c, u, ec, nc⟩ := any_head x
    have h : (enc x ++ [44, 41]) ++ r = 41 :: s := h
    rw [ec] at h
    exact absurd (List.cons.inj h).1 nc
  | [x], [y], r, s, hg, h => by
    have h : (enc x ++ [44, 41]) ++ r = (enc y ++ [44, 41]) ++ s := h
    rw [List.append_assoc, List.append_assoc] at h
    rw [goodA, Bool.and_eq_true] at hg
    obtain ⟨e1, e2⟩ := enc_pre x y _ _ hg.1 h beh44 beh44
    exact ⟨by rw [e1], (List.cons.inj (List.cons.inj e2).2).2⟩
  | [x], y :: z :: t, r, s, hg, h => by
    have h : (enc x ++ [44, 41]) ++ r = (enc y ++ 44 :: 32 :: encR (z :: t)) ++ s := h
    rw [List.append_assoc, List.append_assoc] at h
    rw [goodA, Bool.and_eq_true] at hg
    obtain ⟨e1, e2⟩ := enc_pre x y _ _ hg.1 h beh44 beh44
    exact absurd (List.cons.inj (List.cons.inj e2).2).1 (by decide)
  | x :: x2 :: t, [], r, s, _, h => by
    obtain ⟨c, u, ec, nc⟩ := any_head x
    have h : (enc x ++ 44 :: 32 :: encR (x2 :: t)) ++ r = 41 :: s := h
    rw [ec] at h
    exact absurd (List.cons.inj h).1 nc
  | x :: x2 :: t, [y], r, s, hg, h => by
    have h : (enc x ++ 44 :: 32 :: encR (x2 :: t)) ++ r = (enc y ++ [44, 41]) ++ s := h
    rw [List.append_assoc, List.append_assoc] at h
    rw [goodA, Bool.and_eq_true] at hg
    obtain ⟨e1, e2⟩ := enc_pre x y _ _ hg.1 h beh44 beh44
    exact absurd (List.cons.inj (List.cons.inj e2).2).1 (by decide)
  | x :: x2 :: t, y :: y2 :: u, r, s, hg, h => by
    have h : (enc x ++ 44 :: 32 :: encR (x2 :: t)) ++ r = (enc y ++ 44 :: 32 :: encR (y2 :: u)) ++ s := h
    rw [List.append_assoc, List.append_assoc] at h
    rw [goodA, Bool.and_eq_true] at hg
    obtain ⟨e1, e2⟩ := enc_pre x y _ _ hg.1 h beh44 beh44
    obtain ⟨e3, e4⟩ := encR_pre (x2 :: t) (y2 :: u) r s hg.2 (List.cons.inj (List.cons.inj e2).2).2
    exact ⟨by rw [e1, e3], e4⟩
theorem encR_pre : ∀ (xs ys : List PyData) (r s : List Nat), goodA xs = true → encR xs ++ r = encR ys ++ s → xs = ys ∧ r = s
  | [], [], r, s, _, h => ⟨rfl, (List.cons.inj h).2⟩
  | [], [y], r, s, _, h => by
    obtain ⟨c, t, ec, nc⟩ := any_head y
    have h : 41 :: r = (enc y ++ [41]) ++ s := h
    rw [ec] at h
    exact absurd (List.cons.inj h).1.symm nc
  | [], y :: z :: t, r, s, _, h => by
    obtain ⟨c, u, ec, nc⟩ := any_head y
    have h : 41 :: r = (enc y ++ 44 :: 32 :: encR (z :: t)) ++ s := h
    rw [ec] at h
    exact absurd (List.cons.inj h).1.symm nc
  | [x], [], r, s, _, h => by
    obtain ⟨c, u, ec, nc⟩ := any_head x
    have h : (enc x ++ [41]) ++ r = 41 :: s := h
    rw [ec] at h
    exact absurd (List.cons.inj h).1 nc
  | [x], [y], r, s, hg, h => by
    have h : (enc x ++ [41]) ++ r = (enc y ++ [41]) ++ s := h
    rw [List.append_assoc, List.append_assoc] at h
    rw [goodA, Bool.and_eq_true] at hg
    obtain ⟨e1, e2⟩ := enc_pre x y _ _ hg.1 h beh41 beh41
    exact ⟨by rw [e1], (List.cons.inj e2).2⟩
  | [x], y :: z :: t, r, s, hg, h => by
    have h : (enc x ++ [41]) ++ r = (enc y ++ 44 :: 32 :: encR (z :: t)) ++ s := h
    rw [List.append_assoc, List.append_assoc] at h
    rw [goodA, Bool.and_eq_true] at hg
    obtain ⟨e1, e2⟩ := enc_pre x y _ _ hg.1 h beh41 beh44
    exact absurd (List.cons.inj e2).1 (by decide)
  | x :: x2 :: t, [], r, s, _, h => by
    obtain ⟨c, u, ec, nc⟩ := any_head x
    have h : (enc x ++ 44 :: 32 :: encR (x2 :: t)) ++ r = 41 :: s := h
    rw [ec] at h
    exact absurd (List.cons.inj h).1 nc
  | x :: x2 :: t, [y], r, s, hg, h => by
    have h : (enc x ++ 44 :: 32 :: encR (x2 :: t)) ++ r = (enc y ++ [41]) ++ s := h
    rw [List.append_assoc, List.append_assoc] at h
    rw [goodA, Bool.and_eq_true] at hg
    obtain ⟨e1, e2⟩ := enc_pre x y _ _ hg.1 h beh44 beh41
    exact absurd (List.cons.inj e2).1 (by decide)
  | x :: x2 :: t, y :: y2 :: u, r, s, hg, h => by
    have h : (enc x ++ 44 :: 32 :: encR (x2 :: t)) ++ r = (enc y ++ 44 :: 32 :: encR (y2 :: u)) ++ s := h
    rw [List.append_assoc, List.append_assoc] at h
    rw [goodA, Bool.and_eq_true] at hg
    obtain ⟨e1, e2⟩ := enc_pre x y _ _ hg.1 h beh44 beh44
    obtain ⟨e3, e4⟩ := encR_pre (x2 :: t) (y2 :: u) r s hg.2 (List.cons.inj (List.cons.inj e2).2).2
    exact ⟨by rw [e1, e3], e4⟩
end
/-- what is shown alike with numbers and tuples is the same -/
theorem shown_inj {d e : PyData} (hd : good d = true) (h : d.shown = e.shown) : d = e :=
  (enc_pre d e [] [] hd (by unfold enc; rw [h]) (fun _ z => nomatch z) (fun _ z => nomatch z)).1
end Gw
namespace Gw
open PySem PySem.Spec PyProof.Rows L2 LamX
/-! ### moves of a view that stands beside a draw -/
structure Mv (K : PySem.W.Frag) (TQ : List (Addr × Str)) (d l c : Addr) (G H G' H' : Hp) : Prop where
  vw : Vw G' H' d l c
  tb : Tabs TQ H'
  dp : ∀ {v : V} {x : PyData}, Dp K G v x → Dp K G' v x
  is : ∀ {a C dx : Addr} {fs : List (Str × V)}, G a = some (.ins C dx fs) → G' a = some (.ins C dx fs)
  ls : ∀ {p : Addr} {xs : List V}, H p = some (.lst xs) → p ≠ d → p ≠ l → H' p = some (.lst xs)
  no : ∀ {p : Addr} {xs : List V}, H p = some (.lst xs) → p ≠ d → p ≠ l → G p = none → G' p = none
  lv : ∀ {p : Addr} {o : HO}, (∀ ps, o ≠ .tbl ps) → G p = some o → G' p = some o
section
variable {K : PySem.W.Frag} {TQ : List (Addr × Str)} {d l c : Addr} {G H G1 H1 G2 H2 : Hp}
theorem Mv.refl (v : Vw G H d l c) (t : Tabs TQ H) : Mv K TQ d l c G H G H := ⟨v, t, fun h => h, fun h => h, fun h _ _ => h, fun _ _ _ h => h, fun _ h => h⟩
theorem Mv.trans (a : Mv K TQ d l c G H G1 H1) (b : Mv K TQ d l c G1 H1 G2 H2) : Mv K TQ d l c G H G2 H2 :=
  ⟨b.vw, b.tb, fun h => b.dp (a.dp h), fun h => b.is (a.is h), fun h p q => b.ls (a.ls h p q) p q, fun h p q g => b.no (a.ls h p q) p q (a.no h p q g), fun n h => b.lv n (a.lv n h)⟩
theorem Mv.nx (v : Vw G H d l c) (t : Tabs TQ H) (n : Nx G H G1 H1) : Mv K TQ d l c G H G1 H1 :=
  have w := Nw.of v n
  ⟨w.vw, tabs_same t n.hh, fun h => dp_mono n.gg _ h, fun h => n.gg _ _ h, fun h _ _ => n.hh _ _ h, fun h _ _ g => (n.fr _ (ne_none h)).trans g, fun _ h => n.gg _ _ h⟩
theorem Mv.nw (v : Vw G H d l c) (t : Tabs TQ H) (n : Nw d l c G H G1 H1) : Mv K TQ d l c G H G1 H1 :=
  ⟨n.vw, tabs_nd t n.nd v.dr, fun h => dp_mono n.gg _ h, fun h => n.gg _ _ h, fun h p q => n.nd.hh _ _ p q h, fun h _ _ g => (n.fr _ (ne_none h)).trans g, fun _ h => n.gg _ _ h⟩
theorem Mv.nd (v : Vw G H d l c) (t : Tabs TQ H) (n : Nd d l H H1) (D : Drw H1 d l c) : Mv K TQ d l c G H G H1 := Mv.nw v t (Nw.draw v n D)
theorem Mv.same (v : Vw G H d l c) (t : Tabs TQ H) (s : Same H H1) : Mv K TQ d l c G H G H1 := Mv.nw v t (Nw.draw v (Nd.of s) (v.dr.same s))
/-- a lambda's table was laid -/
theorem Mv.ext (v : Vw G H d l c) (e : ExtN H H1) (t : Tabs TQ H1) : Mv K TQ d l c G H (noT G) H1 :=
  ⟨⟨noT_ext (noT_same.trans v.gh) e, noT_none v.gd, noT_none v.gl, noT_none v.gc, by
      obtain ⟨r, t, ls, cs, h1, h2, h3, h4, h5⟩ := v.dr.at'
      exact ⟨v.dr.ne, r, t, ls, cs, e _ _ h1 (fun _ z => nomatch z), e _ _ h2 (fun _ z => nomatch z), e _ _ h3 (fun _ z => nomatch z), h4, h5⟩⟩, t, (fun h => dp_noT _ h), (fun h => noT_of h (fun _ z => nomatch z)), (fun h _ _ => e _ _ h (fun _ z => nomatch z)), (fun _ _ _ g => noT_none g), (fun n h => noT_of h n)⟩
/-- a list of this heap comes into the view -/
theorem Mv.tell {p : Addr} {xs : List V} (v : Vw G H d l c) (t : Tabs TQ H) (g : G p = none) (h : H p = some (.lst xs)) (h1 : p ≠ d) (h2 : p ≠ l) (h3 : p ≠ c) : Vw (upd G p (.lst xs)) H d l c ∧ Same G (upd G p (.lst xs)) := by
  have gi : Same G (upd G p (.lst xs)) := fun b u q => by rw [upd_ne (ne_of_none q g)]; exact q
  refine ⟨⟨fun b u q => ?_, (upd_ne (Ne.symm h1)).trans v.gd, (upd_ne (Ne.symm h2)).trans v.gl, (upd_ne (Ne.symm h3)).trans v.gc, v.dr⟩, gi⟩
  by_cases hq : b = p
  · subst hq; rw [upd_same] at q; rw [h]; exact q
  · rw [upd_ne hq] at q; exact v.gh b u q
/-- a list that grows or is changed, beside the view -/
structure Gr (K : PySem.W.Frag) (d l c : Addr) (G H : Hp) (p : Addr) (ds : List PyData) : Prop where
  g : G p = none
  nd : p ≠ d
  nl : p ≠ l
  nc : p ≠ c
  ex : ∃ acc, H p = some (.lst acc) ∧ DpAll K G acc ds
theorem dpa_by {G G1 : Hp} (h : ∀ {v : V} {x : PyData}, Dp K G v x → Dp K G1 v x) : ∀ {vs : List V} {ds : List PyData}, DpAll K G vs ds → DpAll K G1 vs ds
  | _, _, .nil => .nil
  | _, _, .cons a t => .cons (h a) (dpa_by h t)
theorem Gr.mv {p : Addr} {ds : List PyData} (r : Gr K d l c G H p ds) (m : Mv K TQ d l c G H G1 H1) : Gr K d l c G1 H1 p ds := by
  obtain ⟨acc, e, ha⟩ := r.ex
  exact ⟨m.no e r.nd r.nl r.g, r.nd, r.nl, r.nc, acc, m.ls e r.nd r.nl, dpa_by m.dp ha⟩
theorem Gr.start {p : Addr} (v : Vw G H d l c) (hp : H p = none) : Gr K d l c G (upd H p (.lst [])) p [] ∧ Vw G (upd H p (.lst [])) d l c ∧ Same H (upd H p (.lst [])) := by
  have s : Same H (upd H p (.lst [])) := same_upd hp
  obtain ⟨h1, h2, h3⟩ := v.dr.off hp
  exact ⟨⟨v.gh.free hp, h1, h2, h3, [], upd_same, .nil⟩, ⟨v.gh.trans s, v.gd, v.gl, v.gc, v.dr.same s⟩, s⟩
theorem tabs_updM {T : List (Addr × Str)} {p : Addr} {ys : List V} {o : HO} (t : Tabs T H) (hp : H p = some (.lst ys)) : Tabs T (upd H p o) := fun q hq => by
  obtain ⟨ps, h1, h2, h3⟩ := t q hq
  refine ⟨ps, (upd_ne (fun z => by rw [z, hp] at h1; cases h1)).trans h1, h2, fun pos cv hc => ?_⟩
  obtain ⟨c0, e1, e2⟩ := h3 pos cv hc
  exact ⟨c0, e1, (upd_ne (fun z => by rw [z, hp] at e2; cases e2)).trans e2⟩
/-- the list is written anew -/
theorem Gr.put {p : Addr} {ds es : List PyData} {xs : List V} (r : Gr K d l c G H p ds) (v : Vw G H d l c) (t : Tabs TQ H) (ha : DpAll K G xs es) : Gr K d l c G (upd H p (.lst xs)) p es ∧ Mv K TQ d l c G H G H ∧ Vw G (upd H p (.lst xs)) d l c ∧ Tabs TQ (upd H p (.lst xs)) := by
  obtain ⟨acc, e, _⟩ := r.ex
  refine ⟨⟨r.g, r.nd, r.nl, r.nc, xs, upd_same, ha⟩, Mv.refl v t, ⟨fun b u q => ?_, v.gd, v.gl, v.gc, v.dr.upd r.nd r.nl r.nc⟩, tabs_updM t e⟩
  rw [upd_ne (ne_of_none q r.g)]
  exact v.gh b u q
/-- a deed upon the draw that lays a tuple, too -/
theorem Nw.tup {p : Addr} {xs : List V} {H' : Hp} (v : Vw G H d l c) (n : Nd d l H H') (D : Drw H' d l c) (h0 : H p = none) (h : H' p = some (.tup xs)) : Nw d l c G H (upd G p (.tup xs)) H' := by
  have g := v.gh.free h0
  obtain ⟨h1, h2, h3⟩ := v.dr.off h0
  refine ⟨fun b u q => by rw [upd_ne (ne_of_none q g)]; exact q, ⟨fun b u q => ?_, (upd_ne (Ne.symm h1)).trans v.gd, (upd_ne (Ne.symm h2)).trans v.gl, (upd_ne (Ne.symm h3)).trans v.gc, D⟩, n, fun b hb => upd_ne fun z => hb (by rw [z]; exact h0)⟩
  by_cases hq : b = p
  · subst hq; rw [upd_same] at q; rw [← Option.some.inj q]; exact h
  · rw [upd_ne hq] at q
    exact n.hh b u (fun z => by rw [z, v.gd] at q; cases q) (fun z => by rw [z, v.gl] at q; cases q) (v.gh b u q)
end
/-! ### the whole heap as a view beside the draw -/
def offD (d l c : Addr) (H : Hp) : Hp := fun a => if a = d ∨ a = l ∨ a = c then none else H a
section
variable {K : PySem.W.Frag} {d l c : Addr} {H : Hp}
theorem offD_of {a : Addr} {o : HO} (h : H a = some o) (h1 : a ≠ d) (h2 : a ≠ l) (h3 : a ≠ c) : offD d l c H a = some o := by
  unfold offD
  rw [if_neg (by rintro (z | z | z) <;> contradiction)]; exact h
theorem offD_vw (D : Drw H d l c) : Vw (offD d l c H) H d l c := by
  refine ⟨fun a o h => ?_, by simp [offD], by simp [offD], by simp [offD], D⟩
  unfold offD at h
  split at h
  · cases h
  · exact h
theorem sqT_off (D : Drw H d l c) {a : Addr} {xs : List V} (h : SqT K H a xs) : SqT K (offD d l c H) a xs := by
  obtain ⟨r, t, ls, cs, h1, h2, h3, h4, h5⟩ := D.at'
  rcases h with (e | ⟨o, e⟩) | e
  · exact SqT.of (offD_of e (ne_of e h1 (fun z => nomatch z)) (ne_of e h2 (fun z => nomatch z)) (ne_of e h3 (fun z => nomatch z)))
  · exact .inl (.inr ⟨o, offD_of e (ne_of e h1 (fun z => nomatch z)) (ne_of e h2 (fun z => nomatch z)) (ne_of e h3 (fun z => nomatch z))⟩)
  · exact .inr e
mutual
theorem dp_off (D : Drw H d l c) : ∀ (x : PyData) {v : V}, noL x = true → Dp K H v x → Dp K (offD d l c H) v x
  | .none, _, _, .non => .non
  | .bool b, _, _, .bl _ => .bl b
  | .int i, _, _, .int _ => .int i
  | .str x, _, _, .str _ => .str x
  | .tuple ds, _, z, .tup hs ha => .tup (sqT_off D hs) (dpa_off D ds (by rw [noL] at z; exact z) ha)
theorem dpa_off (D : Drw H d l c) : ∀ (ds : List PyData) {vs : List V}, noLA ds = true → DpAll K H vs ds → DpAll K (offD d l c H) vs ds
  | [], _, _, .nil => .nil
  | x :: ds, _, z, .cons h t => by
    rw [noLA, Bool.and_eq_true] at z
    exact .cons (dp_off D x z.1 h) (dpa_off D ds z.2 t)
end
end
end Gw
namespace Gw
open PySem PySem.Spec PyProof.Rows L2
def top (i : Nat) : Stmt := PySem.Challenge.pw_gatewords_k07_whole_rows_and_pair_rows.main.body.getD i (.Pass ⟨0, 0, 0, 0⟩)
def clsM (c : Stmt) (j : Nat) : Stmt := match c with
  | .ClassDef _ _ _ b _ _ _ _ _ _ _ => b.getD j (.Pass ⟨0, 0, 0, 0⟩)
  | _ => .Pass ⟨0, 0, 0, 0⟩
abbrev s_is_number : Stmt := top 9
abbrev N_is_number : List Str := ["thing"]
abbrev P_is_number : List Str := ["thing"]
theorem sc_is_number : FnScope N_is_number P_is_number (defScope s_is_number) := ⟨rfl, rfl, rfl, by decide +kernel, rfl, by decide +kernel, by decide +kernel⟩
abbrev s_is_number_in : Stmt := top 10
abbrev N_is_number_in : List Str := ["thing", "least", "most"]
abbrev P_is_number_in : List Str := ["thing", "least", "most"]
theorem sc_is_number_in : FnScope N_is_number_in P_is_number_in (defScope s_is_number_in) := ⟨rfl, rfl, rfl, by decide +kernel, rfl, by decide +kernel, by decide +kernel⟩
abbrev s_is_list : Stmt := top 11
abbrev N_is_list : List Str := ["thing"]
abbrev P_is_list : List Str := ["thing"]
theorem sc_is_list : FnScope N_is_list P_is_list (defScope s_is_list) := ⟨rfl, rfl, rfl, by decide +kernel, rfl, by decide +kernel, by decide +kernel⟩
abbrev s_is_row : Stmt := top 12
abbrev N_is_row : List Str := ["many", "thing", "x"]
abbrev P_is_row : List Str := ["many", "thing"]
theorem sc_is_row : FnScope N_is_row P_is_row (defScope s_is_row) := ⟨rfl, rfl, rfl, by decide +kernel, rfl, by decide +kernel, by decide +kernel⟩
abbrev s_is_back : Stmt := top 13
abbrev N_is_back : List Str := ["thing", "letter", "back"]
abbrev P_is_back : List Str := ["thing"]
theorem sc_is_back : FnScope N_is_back P_is_back (defScope s_is_back) := ⟨rfl, rfl, rfl, by decide +kernel, rfl, by decide +kernel, by decide +kernel⟩
abbrev s_want_back : Stmt := top 14
abbrev N_want_back : List Str := ["back"]
abbrev P_want_back : List Str := ["back"]
theorem sc_want_back : FnScope N_want_back P_want_back (defScope s_want_back) := ⟨rfl, rfl, rfl, by decide +kernel, rfl, by decide +kernel, by decide +kernel⟩
abbrev s_want_letters : Stmt := top 15
abbrev N_want_letters : List Str := ["back", "word"]
abbrev P_want_letters : List Str := ["back", "word"]
theorem sc_want_letters : FnScope N_want_letters P_want_letters (defScope s_want_letters) := ⟨rfl, rfl, rfl, by decide +kernel, rfl, by decide +kernel, by decide +kernel⟩
abbrev s_row_of_pair : Stmt := top 17
abbrev N_row_of_pair : List Str := ["many", "one", "other", "row", "place", "first", "second"]
abbrev P_row_of_pair : List Str := ["many", "one", "other"]
theorem sc_row_of_pair : FnScope N_row_of_pair P_row_of_pair (defScope s_row_of_pair) := ⟨rfl, rfl, rfl, by decide +kernel, rfl, by decide +kernel, by decide +kernel⟩
abbrev s_pair_row : Stmt := top 18
abbrev N_pair_row : List Str := ["back", "one", "other"]
abbrev P_pair_row : List Str := ["back", "one", "other"]
theorem sc_pair_row : FnScope N_pair_row P_pair_row (defScope s_pair_row) := ⟨rfl, rfl, rfl, by decide +kernel, rfl, by decide +kernel, by decide +kernel⟩
abbrev s_pair_of_row : Stmt := top 19
abbrev N_pair_of_row : List Str := ["many", "row", "one", "number", "other"]
abbrev P_pair_of_row : List Str := ["many", "row"]
theorem sc_pair_of_row : FnScope N_pair_of_row P_pair_of_row (defScope s_pair_of_row) := ⟨rfl, rfl, rfl, by decide +kernel, rfl, by decide +kernel, by decide +kernel⟩
abbrev s_is_row_of_pair : Stmt := top 20
abbrev N_is_row_of_pair : List Str := ["many", "thing", "one", "other"]
abbrev P_is_row_of_pair : List Str := ["many", "thing"]
theorem sc_is_row_of_pair : FnScope N_is_row_of_pair P_is_row_of_pair (defScope s_is_row_of_pair) := ⟨rfl, rfl, rfl, by decide +kernel, rfl, by decide +kernel, by decide +kernel⟩
abbrev s_words_of : Stmt := top 21
abbrev N_words_of : List Str := ["back", "row"]
abbrev P_words_of : List Str := ["back", "row"]
theorem sc_words_of : FnScope N_words_of P_words_of (defScope s_words_of) := ⟨rfl, rfl, rfl, by decide +kernel, rfl, by decide +kernel, by decide +kernel⟩
abbrev s_is_pair_row : Stmt := top 22
abbrev N_is_pair_row : List Str := ["back", "thing"]
abbrev P_is_pair_row : List Str := ["back", "thing"]
theorem sc_is_pair_row : FnScope N_is_pair_row P_is_pair_row (defScope s_is_pair_row) := ⟨rfl, rfl, rfl, by decide +kernel, rfl, by decide +kernel, by decide +kernel⟩
abbrev s_is_way : Stmt := top 27
abbrev N_is_way : List Str := ["letters", "states", "thing", "to"]
abbrev P_is_way : List Str := ["letters", "states", "thing"]
theorem sc_is_way : FnScope N_is_way P_is_way (defScope s_is_way) := ⟨rfl, rfl, rfl, by decide +kernel, rfl, by decide +kernel, by decide +kernel⟩
abbrev s_are_ways : Stmt := top 28
abbrev N_are_ways : List Str := ["letters", "thing", "way"]
abbrev P_are_ways : List Str := ["letters", "thing"]
theorem sc_are_ways : FnScope N_are_ways P_are_ways (defScope s_are_ways) := ⟨rfl, rfl, rfl, by decide +kernel, rfl, by decide +kernel, by decide +kernel⟩
abbrev s_are_ends : Stmt := top 29
abbrev N_are_ends : List Str := ["states", "thing", "end", "k"]
abbrev P_are_ends : List Str := ["states", "thing"]
theorem sc_are_ends : FnScope N_are_ends P_are_ends (defScope s_are_ends) := ⟨rfl, rfl, rfl, by decide +kernel, rfl, by decide +kernel, by decide +kernel⟩
abbrev s_want_machine : Stmt := top 31
abbrev N_want_machine : List Str := ["machine"]
abbrev P_want_machine : List Str := ["machine"]
theorem sc_want_machine : FnScope N_want_machine P_want_machine (defScope s_want_machine) := ⟨rfl, rfl, rfl, by decide +kernel, rfl, by decide +kernel, by decide +kernel⟩
abbrev s_one_number_on : Stmt := top 32
abbrev N_one_number_on : List Str := ["ways", "led", "longer", "row", "state", "number", "behind"]
abbrev P_one_number_on : List Str := ["ways", "led"]
theorem sc_one_number_on : FnScope N_one_number_on P_one_number_on (defScope s_one_number_on) := ⟨rfl, rfl, rfl, by decide +kernel, rfl, by decide +kernel, by decide +kernel⟩
abbrev s_rows_up_to : Stmt := top 33
abbrev N_rows_up_to : List Str := ["machine", "most", "ends", "end", "found", "led", "length", "row", "state"]
abbrev P_rows_up_to : List Str := ["machine", "most"]
theorem sc_rows_up_to : FnScope N_rows_up_to P_rows_up_to (defScope s_rows_up_to) := ⟨rfl, rfl, rfl, by decide +kernel, rfl, by decide +kernel, by decide +kernel⟩
abbrev s_Machineinit : Stmt := clsM (top 30) 0
abbrev N_Machineinit : List Str := ["self", "letters", "ways", "ends", "way"]
abbrev P_Machineinit : List Str := ["self", "letters", "ways", "ends"]
theorem sc_Machineinit : FnScope N_Machineinit P_Machineinit (defScope s_Machineinit) := ⟨rfl, rfl, rfl, by decide +kernel, rfl, by decide +kernel, by decide +kernel⟩
abbrev s_Machineeq : Stmt := clsM (top 30) 1
abbrev N_Machineeq : List Str := ["self", "other"]
abbrev P_Machineeq : List Str := ["self", "other"]
theorem sc_Machineeq : FnScope N_Machineeq P_Machineeq (defScope s_Machineeq) := ⟨rfl, rfl, rfl, by decide +kernel, rfl, by decide +kernel, by decide +kernel⟩
abbrev s_law_begun : Stmt := top 35
abbrev N_law_begun : List Str := ["script", "large", "grain"]
abbrev P_law_begun : List Str := ["script"]
theorem sc_law_begun : FnScope N_law_begun P_law_begun (defScope s_law_begun) := ⟨rfl, rfl, rfl, by decide +kernel, rfl, by decide +kernel, by decide +kernel⟩
abbrev s_law_mixed : Stmt := top 36
abbrev N_law_mixed : List Str := ["draw", "turn", "found", "great", "blend", "grain"]
abbrev P_law_mixed : List Str := ["draw"]
theorem sc_law_mixed : FnScope N_law_mixed P_law_mixed (defScope s_law_mixed) := ⟨rfl, rfl, rfl, by decide +kernel, rfl, by decide +kernel, by decide +kernel⟩
abbrev s_law_take : Stmt := top 37
abbrev N_law_take : List Str := ["draw", "amount", "found"]
abbrev P_law_take : List Str := ["draw", "amount"]
theorem sc_law_take : FnScope N_law_take P_law_take (defScope s_law_take) := ⟨rfl, rfl, rfl, by decide +kernel, rfl, by decide +kernel, by decide +kernel⟩
abbrev s_law_pick : Stmt := top 38
abbrev N_law_pick : List Str := ["draw", "some"]
abbrev P_law_pick : List Str := ["draw", "some"]
theorem sc_law_pick : FnScope N_law_pick P_law_pick (defScope s_law_pick) := ⟨rfl, rfl, rfl, by decide +kernel, rfl, by decide +kernel, by decide +kernel⟩
abbrev s_law_shuffled : Stmt := top 39
abbrev N_law_shuffled : List Str := ["draw", "some", "left", "found"]
abbrev P_law_shuffled : List Str := ["draw", "some"]
theorem sc_law_shuffled : FnScope N_law_shuffled P_law_shuffled (defScope s_law_shuffled) := ⟨rfl, rfl, rfl, by decide +kernel, rfl, by decide +kernel, by decide +kernel⟩
abbrev s_law_is_truth : Stmt := top 40
abbrev N_law_is_truth : List Str := ["found", "due"]
abbrev P_law_is_truth : List Str := ["found", "due"]
theorem sc_law_is_truth : FnScope N_law_is_truth P_law_is_truth (defScope s_law_is_truth) := ⟨rfl, rfl, rfl, by decide +kernel, rfl, by decide +kernel, by decide +kernel⟩
abbrev s_law_caught : Stmt := top 41
abbrev N_law_caught : List Str := ["work", "caught", "error"]
abbrev P_law_caught : List Str := ["work"]
theorem sc_law_caught : FnScope N_law_caught P_law_caught (defScope s_law_caught) := ⟨rfl, rfl, rfl, by decide +kernel, rfl, by decide +kernel, by decide +kernel⟩
abbrev s_law_back : Stmt := top 42
abbrev N_law_back : List Str := ["draw", "line", "many", "left_here", "found", "one", "other"]
abbrev P_law_back : List Str := ["draw"]
theorem sc_law_back : FnScope N_law_back P_law_back (defScope s_law_back) := ⟨rfl, rfl, rfl, by decide +kernel, rfl, by decide +kernel, by decide +kernel⟩
abbrev s_law_word : Stmt := top 43
abbrev N_law_word : List Str := ["draw", "back_here", "most", "k"]
abbrev P_law_word : List Str := ["draw", "back_here", "most"]
theorem sc_law_word : FnScope N_law_word P_law_word (defScope s_law_word) := ⟨rfl, rfl, rfl, by decide +kernel, rfl, by decide +kernel, by decide +kernel⟩
abbrev s_law_pairs_read : Stmt := top 44
abbrev N_law_pairs_read : List Str := ["back_here", "one", "other", "many", "found", "k"]
abbrev P_law_pairs_read : List Str := ["back_here", "one", "other"]
theorem sc_law_pairs_read : FnScope N_law_pairs_read P_law_pairs_read (defScope s_law_pairs_read) := ⟨rfl, rfl, rfl, by decide +kernel, rfl, by decide +kernel, by decide +kernel⟩
abbrev s_law_went : Stmt := top 45
abbrev N_law_went : List Str := ["ways_here", "row_here", "state", "item"]
abbrev P_law_went : List Str := ["ways_here", "row_here"]
theorem sc_law_went : FnScope N_law_went P_law_went (defScope s_law_went) := ⟨rfl, rfl, rfl, by decide +kernel, rfl, by decide +kernel, by decide +kernel⟩
abbrev s_law_machine_sketch : Stmt := top 46
abbrev N_law_machine_sketch : List Str := ["draw", "letters_here", "most", "many", "ways_here", "state", "k"]
abbrev P_law_machine_sketch : List Str := ["draw", "letters_here", "most"]
theorem sc_law_machine_sketch : FnScope N_law_machine_sketch P_law_machine_sketch (defScope s_law_machine_sketch) := ⟨rfl, rfl, rfl, by decide +kernel, rfl, by decide +kernel, by decide +kernel⟩
abbrev s_law_all : Stmt := top 47
abbrev N_law_all : List Str := ["letters_here", "most", "found", "here", "lap", "more", "row_here", "k"]
abbrev P_law_all : List Str := ["letters_here", "most"]
theorem sc_law_all : FnScope N_law_all P_law_all (defScope s_law_all) := ⟨rfl, rfl, rfl, by decide +kernel, rfl, by decide +kernel, by decide +kernel⟩
abbrev s_law_is_pair_row : Stmt := top 48
abbrev N_law_is_pair_row : List Str := ["back_here", "thing", "many", "item", "one", "other", "line", "k"]
abbrev P_law_is_pair_row : List Str := ["back_here", "thing"]
theorem sc_law_is_pair_row : FnScope N_law_is_pair_row P_law_is_pair_row (defScope s_law_is_pair_row) := ⟨rfl, rfl, rfl, by decide +kernel, rfl, by decide +kernel, by decide +kernel⟩
abbrev s_law : Stmt := top 49
abbrev N_law : List Str := ["script", "draw", "turn", "letters_here", "most", "ways_here", "ends_here", "machine", "line", "due", "row_here", "bad", "caught", "back_here", "one", "other", "spot", "many", "bent", "value", "right", "work", "wide", "great"]
abbrev P_law : List Str := ["script"]
theorem sc_law : FnScope N_law P_law (defScope s_law) := ⟨rfl, rfl, rfl, by decide +kernel, rfl, by decide +kernel, by decide +kernel⟩

section
variable {P : Program} {w : World} {K : PySem.W.Frag} {mg : Str → Option Value} {base : Heap} {f : Addr} {fd : FuncData}

def R_is_number : List PyData → PyData → Prop := fun ds d => ∃ x, ds = [x] ∧ d = .bool (isNum x)
theorem ok_is_number (D : DefAt K mg "is_number" s_is_number P_is_number f fd) (T : Bt mg) : Ok P w K mg base "is_number" P_is_number 1 (SpD K R_is_number) := by
  refine D.ok (okD D.F sc_is_number (fun ds d h => ?_) fun cdv A outer s H hr => ?_)
  · obtain ⟨x, rfl, _⟩ := h; rfl
  have S := sc_is_number
  refine ⟨_, (pss_one (ps_ret (pe_and (pe_callB (q_isi K rfl) (by rfl) T.isinstance (by decide +kernel) (pa_cons (pv 0) (pa_cons (pe_bltn (v := .ty "int") (by rfl) T.int (by decide +kernel) rfl) pa_nil))) (pe_one (pe_not (pe_callB (q_isi K rfl) (by rfl) T.isinstance (by decide +kernel) (pa_cons (pv 0) (pa_cons (pe_bltn (v := .ty "bool") (by rfl) T.bool (by decide +kernel) rfl) pa_nil)))))))), fun G ds d vs hR ha H0 hs D' q _ => ?_⟩
  obtain ⟨x, rfl, rfl⟩ := hR
  obtain _ | ⟨hv, _ | _⟩ := ha
  refine (RtD.cast (rd_ret (ed_and (ed_isi (ed_var (i := 0) rfl hv) (kit_int x)) fun hb => ed_not (ed_isi (ed_var (i := 0) rfl hv) (kit_bool x)))) ?_) H0 hs D' q
  cases x <;> rfl

def R_is_number_in : List PyData → PyData → Prop := fun ds d => ∃ x lo hi, ds = [x, .int lo, .int hi] ∧ d = .bool (inR lo hi x)
theorem ok_is_number_in (D : DefAt K mg "is_number_in" s_is_number_in P_is_number_in f fd) (T : Bt mg) (h_is_number : Ok P w K mg base "is_number" P_is_number 1 (SpD K R_is_number)) :
    Ok P w K mg base "is_number_in" P_is_number_in 2 (SpD K R_is_number_in) := by
  refine D.ok (okD D.F sc_is_number_in (fun ds d h => ?_) fun cdv A outer s H hr => ?_)
  · obtain ⟨x, lo, hi, rfl, _⟩ := h; rfl
  have S := sc_is_number_in
  refine ⟨_, (pss_one (ps_ret (pe_and (pe_ok h_is_number (hr.mono (by decide)) (by rfl) (pa_cons (pv 0) pa_nil)) (pe_one (pe_chain op_le op_le (pv 1) (pv 0) (pv 2)))))), fun G ds d vs hR ha H0 hs D' q _ => ?_⟩
  obtain ⟨x, lo, hi, rfl, rfl⟩ := hR
  obtain _ | ⟨hv, _ | ⟨hl, _ | ⟨hh, _ | _⟩⟩⟩ := ha
  cases x with
  | int i => exact (RtD.cast (rd_ret (ed_and (ed_call (R := R_is_number) (E := E0) (ea_cons (ed_var (i := 0) rfl hv) ea_nil) ⟨_, rfl, rfl⟩) fun _ => ed_chain (ed_var (i := 1) rfl hl) (ed_var (i := 0) rfl hv) ro_b (fun _ => ed_var (i := 2) rfl hh) (fun _ => ro_b))) (by rfl)) H0 hs D' q
  | _ => exact (RtD.cast (rd_ret (ed_and (b := false) (ed_call (R := R_is_number) (E := E0) (ea_cons (ed_var (i := 0) rfl hv) ea_nil) ⟨_, rfl, rfl⟩) fun z => nomatch z)) (by rfl)) H0 hs D' q

def R_is_row : List PyData → PyData → Prop := fun ds d => ∃ n x, ds = [.int n, x] ∧ Sized x ∧ d = .bool (isRow n x)
theorem ok_is_row (D : DefAt K mg "is_row" s_is_row P_is_row f fd) (T : Bt mg) (h_is_number_in : Ok P w K mg base "is_number_in" P_is_number_in 2 (SpD K R_is_number_in)) :
    Ok P w K mg base "is_row" P_is_row 3 (SpD K R_is_row) := by
  refine D.ok (okD D.F sc_is_row (fun ds d h => ?_) fun cdv A outer s H hr => ?_)
  · obtain ⟨n, x, rfl, _⟩ := h; rfl
  have S := sc_is_row
  refine ⟨_, (pss_one (ps_ret (pe_and (pe_callB (q_isi K rfl) (by rfl) T.isinstance (by decide +kernel) (pa_cons (pv 1) (pa_cons (pe_bltn (v := .ty "tuple") (by rfl) T.tuple (by decide +kernel) rfl) pa_nil))) (pe_one (pe_callB (q_all K rfl rfl) (by rfl) T.all (by decide +kernel) (pa_cons (pe_lc (own := [("x", 2)]) (g := gName 2) (by rfl) S.nd  (q_iT K rfl (pv 1)) (blkOk_by (N := N_is_row) (sc := defScope s_is_row) (by decide +kernel)) (fun _ _ _ _ _ => (pg_name (i := 2) S.nd rfl (by first | exact .inl rfl | exact .inr rfl))) (fun _ _ _ _ _ => pts_nil) (fun _ _ _ _ _ => (pe_ok h_is_number_in (hr.mono (by decide)) (by rfl) (pa_cons (pv 2) (pa_cons pe_int (pa_cons (pe_op op_sub (pv 0) pe_int) pa_nil)))))) pa_nil)))))), fun G ds d vs hR ha H0 hs D' q _ => ?_⟩
  obtain ⟨n, x, rfl, hz, rfl⟩ := hR
  obtain _ | ⟨hn, _ | ⟨hx, _ | _⟩⟩ := ha
  cases x with
  | tuple xs =>
    refine (RtD.cast (rd_ret (ed_and (b := xs.all (inR 0 (n - 1))) (ed_isi (ed_var (i := 1) rfl hx) (kit_tup _)) fun _ => ?_)) (by rfl)) H0 hs D' q
    refine EvD.cast (ed_cb (ea_cons (EvN.toD (en_lcT1 (fun d => .bool (inR 0 (n - 1) d)) (ed_var (i := 1) rfl hx) (fun _ => rfl) hz fun d v Gi _ g hd => ?_)) ea_nil) (z := .bool ((xs.map (inR 0 (n - 1))).all id)) ?_) ?_
    · exact ed_call (ea_cons (ed_var (i := 2) rfl hd) (ea_cons ed_int (ea_cons (ed_op (ed_var (i := 0) rfl (dp_mono g _ hn)) ed_int ro_i) ea_nil))) ⟨d, 0, n - 1, rfl, rfl⟩
    · have h := rcl_all (K := K) (bs := xs.map (inR 0 (n - 1)))
      rw [List.map_map] at h
      exact h
    · rw [List.all_map]; rfl
  | _ => exact (RtD.cast (rd_ret (ed_and (b := false) (ed_isi (ed_var (i := 1) rfl hx) (kit_tup _)) fun z => nomatch z)) (by rfl)) H0 hs D' q


end
end Gw
namespace Gw
open PySem PySem.Spec PyProof.Rows L2
section
variable {P : Program} {w : World} {K : PySem.W.Frag} {mg : Str → Option Value} {base : Heap} {f : Addr} {fd : FuncData}
/-- a def whose body is told by its reading -/
theorem ok_law_mixed (D : DefAt K mg "_law_mixed" s_law_mixed P_law_mixed f fd) (T : Bt mg) : Ok P w K mg base "_law_mixed" P_law_mixed 1 spMixed := by
  refine D.ok (D.F.ok sc_law_mixed (fun vs H Q E h => ?_) fun cdv A outer s H vs Q E hr h => ?_)
  · obtain ⟨d, l, c, rfl, _⟩ := h; rfl
  have S := sc_law_mixed
  obtain ⟨d, l, c, rfl, Dw, q⟩ := h
  refine ⟨_, (pss_cons (ps_dput (hu_of hr) (pv 0) pe_str (pe_op op_add (pe_dget (hu_of hr) (pv 0) pe_str (fun _ _ => rfl)) pe_int) rfl)
  (pss_cons (ps_par (i := 1) (j := 2) rfl S.nd rfl rfl (by decide) rfl rfl (pa_cons (pe_callTy call_int1 (by rfl) T.int (by decide +kernel) (pa_cons (pe_dget (hu_of hr) (pv 0) pe_str (fun _ _ => rfl)) pa_nil)) (pa_cons pe_int pa_nil)) (by rfl))
  (pss_cons (ps_for PassesOwn.never rfl (q_iL K rfl (pe_lst (pa_cons pe_int (pa_cons pe_int (pa_cons pe_int pa_nil))))) (pg_name (i := 3) S.nd rfl (by first | exact .inl rfl | exact .inr rfl)) (pss_cons (ps_set (i := 4) S.nd rfl (by first | exact .inl rfl | exact .inr rfl) (pe_op op_modN (pe_op op_add (pe_op op_mul (pv 1) pe_int) (pe_op op_fdivN (pv 3) pe_int)) (pv 3)))
  (pss_cons (ps_for PassesOwn.never rfl (q_iL K rfl (pe_dget (hu_of hr) (pv 0) pe_str (fun _ _ => rfl))) (pg_name (i := 5) S.nd rfl (by first | exact .inl rfl | exact .inr rfl)) (pss_one (ps_set (i := 4) S.nd rfl (by first | exact .inl rfl | exact .inr rfl) (pe_op op_modN (pe_op op_add (pe_op op_mul (pv 4) pe_int) (pe_callTy call_int1 (by rfl) T.int (by decide +kernel) (pa_cons (pv 5) pa_nil))) (pv 3)))))
  (pss_one (ps_set (i := 2) S.nd rfl (by first | exact .inl rfl | exact .inr rfl) (pe_op op_add (pe_op op_mul (pv 2) pe_int) (pe_op op_modN (pe_op op_pow (pv 4) pe_int) (pv 3))))))))
  (pss_one (ps_ret (pv 2)))))), ?_⟩
  obtain ⟨r, t, ls, cs, h1, h2, h3, h4, h5⟩ := Dw.at'
  obtain ⟨ndl, ndc⟩ := Dw.dl
  refine ⟨_, rfl, d, _, rfl, gD_turn h1, t, 1, rfl, rfl, _, rfl, d, _, rfl, uD_turn h1, ?_⟩
  have e1 : upd H d (.dK (kvD l c r (t + 1))) d = some (.dK (kvD l c r (t + 1))) := upd_same
  refine ⟨_, rfl, d, _, rfl, gD_turn e1, .inl ⟨_, rfl, _, _, rfl, ?_⟩⟩
  refine ⟨by show 3 ≤ sizeLine; decide, fun p hp => ?_⟩
  have hpd : d ≠ p := ne_of_none e1 hp
  have hpc : c ≠ p := ne_of_none (o := .lst (cs.map V.int)) (by rw [upd_ne (Ne.symm ndc)]; exact h3) hp
  have hpl : l ≠ p := ne_of_none (o := .lst (ls.map V.int)) (by rw [upd_ne (Ne.symm ndl)]; exact h2) hp
  generalize hH1 : upd (upd H d (.dK (kvD l c r (t + 1)))) p (.lst [.int 2147483629, .int 2147483587, .int 2147483579]) = H1
  have g1 : H1 d = some (.dK (kvD l c r (t + 1))) := by rw [← hH1, upd_ne hpd]; exact e1
  have g3 : H1 c = some (.lst (cs.map V.int)) := by rw [← hH1, upd_ne hpc, upd_ne (Ne.symm ndc)]; exact h3
  have g2 : H1 l = some (.lst (ls.map V.int)) := by rw [← hH1, upd_ne hpl, upd_ne (Ne.symm ndl)]; exact h2
  have gp : H1 p = some (.lst [.int 2147483629, .int 2147483587, .int 2147483579]) := by rw [← hH1]; exact upd_same
  refine ⟨p, rfl, ⟨_, SqL.of gp⟩, for_list (K := K) (a := p) (xs := [.int 2147483629, .int 2147483587, .int 2147483579]) (fun i σ Hc => H1 = Hc ∧ ∃ fo x3 x4 x5, σ = [some (.ref d), some (.int (t + 1)), some (.int fo), x3, x4, x5]) ⟨rfl, 0, none, none, none, rfl⟩ (fun i σ Hc _ hp => hp.1 ▸ SqL.of gp) ?_ ?_⟩
  · rintro i x σ Hc hi ⟨rfl, fo, x3, x4, x5, rfl⟩
    obtain ⟨g, rfl, hg0, hg1⟩ : ∃ g : Int, x = .int g ∧ 0 < g ∧ g < 2 ^ 32 := by
      have hm := List.mem_of_getElem? hi
      rcases List.mem_cons.mp hm with rfl | hm
      · exact ⟨_, rfl, by decide, by decide⟩
      rcases List.mem_cons.mp hm with rfl | hm
      · exact ⟨_, rfl, by decide, by decide⟩
      rw [List.mem_singleton.mp hm]
      exact ⟨_, rfl, by decide, by decide⟩
    refine ⟨_, rfl, _, _, rfl, rfl, .inr ⟨by decide, by decide⟩, _, rfl, _, _, rfl, rfl, ⟨by decide, by decide⟩, _, _, rfl, rfl, _, rfl, _, _, rfl, rfl, by omega, ?_⟩
    refine ⟨_, rfl, d, _, rfl, gD_cells g1, c, rfl, ⟨_, SqL.of g3⟩, for_list (K := K) (a := c) (xs := cs.map V.int) (fun j σ Hc => H1 = Hc ∧ ∃ (b : Int) (y5 : Option V), 0 ≤ b ∧ b < g ∧ σ = [some (.ref d), some (.int (t + 1)), some (.int fo), some (.int g), some (.int b), y5]) ⟨rfl, _, x5, (fmod_in hg0).1, (fmod_in hg0).2, rfl⟩ (fun j σ Hc _ hp => hp.1 ▸ SqL.of g3) ?_ ?_⟩
    · rintro j x σ Hc hj ⟨rfl, b, y5, hb0, hb1, rfl⟩
      obtain ⟨n, rfl⟩ : ∃ n, x = .int n := by
        rw [List.getElem?_map] at hj
        cases e : cs[j]? with
        | none => rw [e] at hj; cases hj
        | some n => rw [e] at hj; exact ⟨n, (Option.some.inj hj).symm⟩
      exact ⟨_, rfl, _, _, rfl, rfl, .inr ⟨by decide, by decide⟩, _, rfl, .inl ⟨_, rfl, _, _, rfl, rfl, _, rfl, _, _, rfl, rfl, by omega, rfl, _, _, (fmod_in hg0).1, (fmod_in hg0).2, rfl⟩⟩
    · rintro σ Hc ⟨rfl, b, y5, hb0, hb1, rfl⟩
      refine ⟨_, rfl, _, _, rfl, rfl, .inr ⟨by decide, by decide⟩, _, rfl, _, _, rfl, rfl, ⟨by decide, by decide, by omega⟩, _, rfl, _, _, rfl, rfl, by omega, _, _, rfl, rfl, rfl, _, _, _, _, rfl⟩
  · rintro σ Hc ⟨rfl, fo, x3, x4, x5, rfl⟩
    refine ⟨_, rfl, q _ _ ⟨fun a o n1 n2 e => ?_⟩ ⟨Dw.ne, r, t + 1, ls, cs, g1, g2, g3, h4, h5⟩⟩
    have hap : a ≠ p := ne_of_none (o := o) (by rw [upd_ne n1]; exact e) hp
    rw [← hH1, upd_ne hap, upd_ne n1]
    exact e

theorem ok_law_take (D : DefAt K mg "_law_take" s_law_take P_law_take f fd) (T : Bt mg) (h__law_mixed : Ok P w K mg base "_law_mixed" P_law_mixed 1 spMixed) : Ok P w K mg base "_law_take" P_law_take 2 spTake := by
  refine D.ok (D.F.ok sc_law_take (fun vs H Q E h => ?_) fun cdv A outer s H vs Q E hr h => ?_)
  · obtain ⟨d, l, c, n, rfl, _⟩ := h; rfl
  have S := sc_law_take
  obtain ⟨d, l, c, n, rfl, Dw, hn0, hn1, q⟩ := h
  refine ⟨_, (pss_cons (ps_if (pt_cmpR op_eq (pe_dget (hu_of hr) (pv 0) pe_str (fun _ _ => rfl)) pe_int (nomark _)) (pss_one (ps_dput (hu_of hr) (pv 0) pe_str (pe_ifExp (pt_cmpR (q_neD K rfl hr.units) (pe_dget (hu_of hr) (pv 0) pe_str (fun _ _ => rfl)) (pe_lst pa_nil) (nomark _)) (pe_bm PySem.F.plainAttrs_list PySem.F.slot_list_pop PySem.F.type_list_pop mt_popAt (pe_dget (hu_of hr) (pv 0) pe_str (fun _ _ => rfl)) (pa_cons pe_int pa_nil)) (pe_ok h__law_mixed (hr.mono (by decide)) (by rfl) (pa_cons (pv 0) pa_nil))) rfl)) pss_nil)
  (pss_cons (ps_set (i := 2) S.nd rfl (by first | exact .inl rfl | exact .inr rfl) (pe_op op_modN (pe_callTy call_int1 (by rfl) T.int (by decide +kernel) (pa_cons (pe_dget (hu_of hr) (pv 0) pe_str (fun _ _ => rfl)) pa_nil)) (pv 1)))
  (pss_cons (ps_dput (hu_of hr) (pv 0) pe_str (pe_op op_fdivN (pe_callTy call_int1 (by rfl) T.int (by decide +kernel) (pa_cons (pe_dget (hu_of hr) (pv 0) pe_str (fun _ _ => rfl)) pa_nil)) (pv 1)) rfl)
  (pss_one (ps_ret (pv 2)))))), ?_⟩
  refine seq_cut (fun σ' H' => σ' = [some (.ref d), some (.int n), none] ∧ Nd d l H H' ∧ Drw H' d l c) ?_ (fun fin => ?_)
  · rintro σ H2 ⟨rfl, n2, D2⟩
    obtain ⟨r, t, ls, cs, h1, h2, h3, h4, h5⟩ := D2.at'
    obtain ⟨ndl, ndc⟩ := D2.dl
    refine ⟨_, rfl, d, _, rfl, gD_rest h1, .inl ⟨_, rfl, _, rfl, _, _, rfl, rfl, by omega, ?_⟩⟩
    refine ⟨_, rfl, d, _, rfl, gD_rest h1, .inl ⟨_, rfl, _, rfl, _, _, rfl, rfl, ⟨by omega, by omega⟩, ?_⟩⟩
    refine ⟨_, rfl, d, _, rfl, uD_rest h1, _, rfl, ?_⟩
    refine q _ _ (fmod_in hn0).1 (fmod_in hn0).2 (n2.trans Nd.updD) ⟨D2.ne, _, t, ls, cs, upd_same, ?_, ?_, h4, h5⟩
    · rw [upd_ne (Ne.symm ndl)]; exact h2
    · rw [upd_ne (Ne.symm ndc)]; exact h3
  · obtain ⟨r, t, ls, cs, h1, h2, h3, h4, h5⟩ := Dw.at'
    obtain ⟨ndl, ndc⟩ := Dw.dl
    refine ⟨_, rfl, d, _, rfl, gD_rest h1, rfl, _, rfl, ite2 (fun _ => ?_) (fun _ => ?_)⟩
    · -- the large ones first
      refine ⟨_, rfl, d, _, rfl, gD_large h1, Nat.zero_le _, fun p hp => ?_⟩
      have hpl : l ≠ p := ne_of_none h2 hp
      have hpd : d ≠ p := ne_of_none h1 hp
      have hpc : c ≠ p := ne_of_none h3 hp
      have k2 : upd H p (.lst []) l = some (.lst (ls.map V.int)) := by rw [upd_ne hpl]; exact h2
      have kd : upd H p (.lst []) d = some (.dK (kvD l c r t)) := by rw [upd_ne hpd]; exact h1
      have kc : upd H p (.lst []) c = some (.lst (cs.map V.int)) := by rw [upd_ne hpc]; exact h3
      have nd0 : Nd d l H (upd H p (.lst [])) := ⟨fun a o _ _ e => by rw [upd_ne (ne_of_none e hp)]; exact e⟩
      refine ⟨.list (ls.map .int), .list [], .lst (SqL.of k2) (dpa_ints ls), .lst (SqL.of upd_same) .nil, ?_, by decide, ?_⟩
      · have e1 : ∀ zs : List Int, PyData.canLayAll0 (zs.map .int) = true := fun zs => by
          induction zs with
          | nil => rfl
          | cons z zs ih => rw [List.map_cons, PyData.canLayAll0, ih]; rfl
        have e2 : ∀ zs : List Int, PyData.depthAll (zs.map .int) = 0 := fun zs => by
          induction zs with
          | nil => rfl
          | cons z zs ih => rw [List.map_cons, PyData.depthAll, ih]; rfl
        unfold SeqAt.shaped
        rw [Bool.and_eq_true]
        refine ⟨?_, decide_eq_true ?_⟩
        · rw [PyData.canLay0]; exact e1 ls
        · rw [PyData.depth, e2 ls]; decide
      refine ⟨_, rfl, ?_⟩
      cases ls with
      | nil =>
        refine iteF ?_
        exact ⟨_, rfl, d, l, c, rfl, ⟨Dw.ne, r, t, [], cs, kd, k2, kc, h4, h5⟩, fun i H3 n3 D3 => by
          obtain ⟨r3, t3, ls3, cs3, g1, g2, g3, g4, g5⟩ := D3.at'
          obtain ⟨m1, m2⟩ := D3.dl
          exact ⟨_, rfl, d, _, rfl, uD_rest g1, fin _ _ ⟨rfl, (nd0.trans n3).trans Nd.updD, D3.ne, _, t3, ls3, cs3, upd_same, by rw [upd_ne (Ne.symm m1)]; exact g2, by rw [upd_ne (Ne.symm m2)]; exact g3, g4, g5⟩⟩⟩
      | cons z zs =>
        refine iteT ?_
        refine ⟨_, rfl, d, _, rfl, gD_large kd, .inl ⟨rfl, _, SqL.of k2⟩, l, _, 0, 0, V.int z, rfl, rfl, k2, by decide, by decide, ?_, rfl, ?_⟩
        · exact seqIx (k := 0) (by rw [List.map_cons, List.length_cons]; omega)
        have k4 : upd (upd H p (.lst [])) l (.lst (zs.map V.int)) d = some (.dK (kvD l c r t)) := by rw [upd_ne ndl]; exact kd
        refine ⟨_, rfl, d, _, rfl, uD_rest k4, fin _ _ ⟨rfl, (nd0.trans Nd.updL).trans Nd.updD, Dw.ne, _, t, zs, cs, upd_same, ?_, ?_, ?_, h5⟩⟩
        · rw [upd_ne (Ne.symm ndl)]; exact upd_same
        · rw [upd_ne (Ne.symm ndc), upd_ne (Ne.symm Dw.ne)]; exact kc
        · rw [List.length_cons] at h4; omega
    · exact fin _ _ ⟨rfl, Nd.refl, Dw⟩
theorem ok_law_pick (D : DefAt K mg "_law_pick" s_law_pick P_law_pick f fd) (T : Bt mg) (h__law_take : Ok P w K mg base "_law_take" P_law_take 2 spTake) : Ok P w K mg base "_law_pick" P_law_pick 3 (spPick K) := by
  refine D.ok (D.F.ok sc_law_pick (fun vs H Q E h => ?_) fun cdv A outer s H vs Q E hr h => ?_)
  · obtain ⟨d, l, c, a, xs, rfl, _⟩ := h; rfl
  have S := sc_law_pick
  obtain ⟨d, l, c, a, xs, rfl, Dw, hal, hS, hx0, hx1, q⟩ := h
  refine ⟨_, (pss_one (ps_ret (pe_ix (q_ixL K rfl) (pv 1) (pe_ok h__law_take (hr.mono (by decide)) (by rfl) (pa_cons (pv 0) (pa_cons (pe_callB (q_len K rfl) (by rfl) T.len PySem.boot_len (pa_cons (pv 1) pa_nil)) pa_nil))) (fun _ _ => rfl)))), ?_⟩
  refine ⟨_, rfl, _, rfl, _, rfl, a, xs, rfl, .inl hS, d, l, c, (xs.length : Int), rfl, Dw, by omega, by omega, fun k H2 hk0 hk1 n2 D2 => ?_⟩
  obtain ⟨j, rfl⟩ : ∃ j : Nat, k = (j : Int) := ⟨k.toNat, by omega⟩
  have hj : j < xs.length := by omega
  have hS2 : SqL K H2 a xs := by
    obtain ⟨r, t, ls, cs, h1, h2, h3, h4, h5⟩ := Dw.at'
    rcases hS with (e | ⟨o, e⟩) | e
    · exact SqL.of (n2.hh a _ (ne_of e h1 (fun z => nomatch z)) hal e)
    · exact .inl (.inr ⟨o, n2.hh a _ (ne_of e h1 (fun z => nomatch z)) hal e⟩)
    · exact .inr e
  exact ⟨a, xs, (j : Int), xs[j], rfl, rfl, hS2, atI_nat (List.getElem?_eq_getElem hj), q _ _ (List.getElem_mem hj) n2 D2⟩
end
end Gw
namespace Gw
open PySem PySem.Spec PyProof.Rows L2
section
variable {P : Program} {w : World} {K : PySem.W.Frag} {mg : Str → Option Value} {base : Heap} {f : Addr} {fd : FuncData}
theorem ok_law_begun (D : DefAt K mg "_law_begun" s_law_begun P_law_begun f fd) (T : Bt mg) : Ok P w K mg base "_law_begun" P_law_begun 1 (spBegun K) := by
  refine D.ok (D.F.ok sc_law_begun (fun vs H Q E h => ?_) fun cdv A outer s H vs Q E hr h => ?_)
  · obtain ⟨a, ns, rfl, _⟩ := h; rfl
  have S := sc_law_begun
  obtain ⟨a, ns, rfl, hS, h63, q⟩ := h
  refine ⟨_, (pss_cons (ps_setLc (i := 1) (own := [("grain", 2)]) (g := gName 2) (by rfl) S.nd rfl rfl (sw_true rfl rfl rfl (by decide +kernel)) (q_iL K rfl (pv 0)) (blkOk_by (N := N_law_begun) (sc := defScope s_law_begun) (by decide +kernel)) (fun _ _ _ _ _ => (pg_name (i := 2) S.nd rfl (by first | exact .inl rfl | exact .inr rfl))) (fun _ _ _ _ _ => (pts_one (pt_cmpR op_ge (pe_callB call_abs (by rfl) T.abs (by decide +kernel) (pa_cons (pv 2) pa_nil)) (pe_op op_pow pe_int pe_int) (nomark _)))) (fun _ _ _ _ _ => (pe_op op_sub (pe_callB call_abs (by rfl) T.abs (by decide +kernel) (pa_cons (pv 2) pa_nil)) (pe_op op_pow pe_int pe_int))))
  (pss_one (ps_ret (pe_disp (pps_cons pe_str (pv 1) (pps_cons pe_str pe_int (pps_cons pe_str (pe_lc (own := [("grain", 2)]) (g := gName 2) (by rfl) S.nd  (q_iL K rfl (pv 0)) (blkOk_by (N := N_law_begun) (sc := defScope s_law_begun) (by decide +kernel)) (fun _ _ _ _ _ => (pg_name (i := 2) S.nd rfl (by first | exact .inl rfl | exact .inr rfl))) (fun _ _ _ _ _ => pts_nil) (fun _ _ _ _ _ => (pe_callB call_abs (by rfl) T.abs (by decide +kernel) (pa_cons (pv 2) pa_nil)))) (pps_cons pe_str pe_int pps_nil)))) (by rfl) (by rfl) (fun z => by cases z) (by decide))))), ?_⟩
  have hin : ∀ {G : Hp}, Same H G → Dp K G (.ref a) (.list (ns.map .int)) := fun s => .lst (s.seq hS) (dpa_ints ns)
  have hz : (ns.map PyData.int).length ≤ sizeLine := by rw [List.length_map]; exact Nat.le_trans h63 (by decide)
  -- the large ones
  refine seq_asg ?_
  refine (en_lcL (K := K) (σ := L2.start N_law_begun [.ref a]) (vs := [2]) (i := 2) (G := H) (fun d => match d with | .int i => if (10 : Int) ^ 18 ≤ ((i.natAbs : Nat) : Int) then some (.int (((i.natAbs : Nat) : Int) - 10 ^ 18)) else none | _ => none) (ed_var (i := 0) rfl (hin (Same.refl H))) (fun _ => rfl) hz ?_ ?_) H (Same.refl H) _ ?_
  · intro d v Gi hm g hd
    obtain ⟨i, _, rfl⟩ := List.mem_map.mp hm
    refine EvB.cast (eb_test (ed_op (z := .bool (decide ((10 : Int) ^ 18 ≤ ((i.natAbs : Nat) : Int)))) (ed_cb (z := .int ((i.natAbs : Nat) : Int)) (ea_cons (ed_var (i := 2) rfl hd) ea_nil) ?_) (ed_op ed_int ed_int (ro_ic (f := fun i j => i ^ j.toNat) (C := CPow) ⟨by decide, by decide, by decide⟩)) (ro_b (f := fun i j => decide (j ≤ i))))) ?_
    · intro G H s vs hv Q q
      obtain _ | ⟨h1, _ | _⟩ := hv
      refine ⟨i, by rw [dp_int h1], ?_⟩
      rw [abs_if]
      exact q _ G H (Nx.refl s) (.int _)
    · dsimp only
      by_cases hc : (10 : Int) ^ 18 ≤ ((i.natAbs : Nat) : Int)
      · rw [if_pos hc, decide_eq_true hc]; rfl
      · rw [if_neg hc, decide_eq_false hc]; rfl
  · intro d v e Gi hm he g hd
    obtain ⟨i, _, rfl⟩ := List.mem_map.mp hm
    dsimp only at he
    by_cases hc : (10 : Int) ^ 18 ≤ ((i.natAbs : Nat) : Int)
    · rw [if_pos hc] at he
      cases he
      refine ed_op (ed_cb (z := .int ((i.natAbs : Nat) : Int)) (ea_cons (ed_var (i := 2) rfl hd) ea_nil) ?_) (ed_op ed_int ed_int (ro_ic (f := fun i j => i ^ j.toNat) (C := CPow) ⟨by decide, by decide, by decide⟩)) (ro_i (f := fun i j => i - j))
      intro G H s vs hv Q q
      obtain _ | ⟨h1, _ | _⟩ := hv
      refine ⟨i, by rw [dp_int h1], ?_⟩
      rw [abs_if]
      exact q _ G H (Nx.refl s) (.int _)
    · rw [if_neg hc] at he
      cases he
  intro p vs G1 H1 n1 hp gp e1 ha
  obtain ⟨ls, rfl, hls⟩ : ∃ ls : List Int, vs = ls.map V.int ∧ ls.length ≤ 63 := by
    have hlen := dpa_length ha
    have hle : vs.length ≤ 63 := by
      rw [hlen]
      exact Nat.le_trans (List.length_filterMap_le _ _) (by rw [List.length_map]; exact h63)
    have : ∀ (ds : List PyData) (vs : List V), DpAll K G1 vs ds → (∀ d ∈ ds, ∃ i, d = .int i) → ∃ ls : List Int, vs = ls.map V.int := by
      intro ds
      induction ds with
      | nil => intro vs h _; cases h; exact ⟨[], rfl⟩
      | cons d ds ih =>
        intro vs h hd
        obtain _ | ⟨h1, h2⟩ := h
        obtain ⟨i, rfl⟩ := hd d List.mem_cons_self
        obtain ⟨ls, rfl⟩ := ih _ h2 fun d hm => hd d (List.mem_cons_of_mem _ hm)
        exact ⟨i :: ls, by rw [dp_int h1]; rfl⟩
    obtain ⟨ls, e⟩ := this _ _ ha fun d hm => by
      obtain ⟨x, hx, he⟩ := List.mem_filterMap.mp hm
      obtain ⟨i, _, rfl⟩ := List.mem_map.mp hx
      dsimp only at he
      by_cases hc : (10 : Int) ^ 18 ≤ ((i.natAbs : Nat) : Int)
      · rw [if_pos hc] at he; cases he; exact ⟨_, rfl⟩
      · rw [if_neg hc] at he; cases he
    refine ⟨ls, e, ?_⟩
    rw [e, List.length_map] at hle
    exact hle
  -- the dict
  intro d hd
  have hpd : p ≠ d := ne_of_none e1 hd
  have s2 : Same H1 (upd H1 d (.dK [])) := fun b o e => by rw [upd_ne (ne_of_none e hd)]; exact e
  refine tp_c ⟨_, rfl, tp_cc (tp_c ?_)⟩
  refine (en_lcL1 (K := K) (σ := [some (.ref a), some (.ref p), none]) (vs := [2]) (i := 2) (G := H) (fun d => match d with | .int i => .int ((i.natAbs : Nat) : Int) | _ => .none) (ed_var (i := 0) rfl (hin (Same.refl H))) (fun _ => rfl) hz ?_) (upd H1 d (.dK [])) (n1.hh.trans s2) _ ?_
  · intro d v Gi hm g hd
    obtain ⟨i, _, rfl⟩ := List.mem_map.mp hm
    refine ed_cb (ea_cons (ed_var (i := 2) rfl hd) ea_nil) ?_
    intro G H s vs hv Q q
    obtain _ | ⟨h1, _ | _⟩ := hv
    refine ⟨i, by rw [dp_int h1], ?_⟩
    rw [abs_if]
    exact q _ G H (Nx.refl s) (.int _)
  intro c vs G3 H3 n3 hc gc e3 hac
  have hcs : vs = (ns.map fun i => ((i.natAbs : Nat) : Int)).map V.int := by
    refine dpa_ints_inv (K := K) (H := G3) ?_
    rw [List.map_map] at hac ⊢
    exact hac
  have hpc : c ≠ p := fun z => by rw [z, upd_ne hpd, e1] at hc; cases hc
  have hdc : c ≠ d := fun z => by rw [z, upd_same] at hc; cases hc
  have kd : H3 d = some (.dK []) := n3.hh _ _ upd_same
  refine ⟨kd, kvD p c 0 0, rfl, (by decide : 4 ≤ 15), ?_⟩
  rw [merge_kvD]
  have hH0 : ∀ b, H1 b = none → H b = none := fun b => n1.hh.free
  refine q d p c _ (fun b o e => ?_) (n1.hh.free hd) hp (n1.hh.free (by rw [upd_ne hdc] at hc; exact hc)) ⟨Ne.symm hpc, 0, 0, ls, ns.map fun i => ((i.natAbs : Nat) : Int), upd_same, ?_, ?_, hls, by rw [List.length_map]; exact h63⟩
  · have hbd : b ≠ d := ne_of_none e (n1.hh.free hd)
    rw [upd_ne hbd]
    exact n3.hh _ _ (s2 _ _ (n1.hh _ _ e))
  · rw [upd_ne hpd]; exact n3.hh _ _ (s2 _ _ e1)
  · rw [upd_ne hdc, e3, hcs]
theorem ok_law_shuffled (D : DefAt K mg "_law_shuffled" s_law_shuffled P_law_shuffled f fd) (T : Bt mg) (h__law_take : Ok P w K mg base "_law_take" P_law_take 2 spTake) : Ok P w K mg base "_law_shuffled" P_law_shuffled 3 (spShuf K) := by
  refine D.ok (D.F.ok sc_law_shuffled (fun vs H Q E h => ?_) fun cdv A outer s H vs Q E hr h => ?_)
  · obtain ⟨d, l, c, a, ns, rfl, _⟩ := h; rfl
  have S := sc_law_shuffled
  obtain ⟨d, l, c, a, ns, rfl, Dw, hS, h63, q⟩ := h
  refine ⟨_, (pss_cons (ps_par (i := 2) (j := 3) rfl S.nd rfl rfl (by decide) rfl rfl (pa_cons (pe_callTy (q_list K rfl) (by rfl) T.list (by decide +kernel) (pa_cons (pv 1) pa_nil)) (pa_cons (pe_lst pa_nil) pa_nil)) (by rfl))
  (pss_cons (ps_while PassesOwn.never (pt_cmpR (q_neD K rfl hr.units) (pv 2) (pe_lst pa_nil) (nomark _)) (pss_one (ps_expr (pe_bm PySem.F.plainAttrs_list PySem.F.slot_list_append PySem.F.type_list_append mt_append (pv 3) (pa_cons (pe_bm PySem.F.plainAttrs_list PySem.F.slot_list_pop PySem.F.type_list_pop mt_popAt (pv 2) (pa_cons (pe_ok h__law_take (hr.mono (by decide)) (by rfl) (pa_cons (pv 0) (pa_cons (pe_callB (q_len K rfl) (by rfl) T.len PySem.boot_len (pa_cons (pv 2) pa_nil)) pa_nil))) pa_nil)) pa_nil)))))
  (pss_one (ps_ret (pv 3))))), ?_⟩
  refine ⟨_, rfl, a, _, rfl, .inl hS, fun p1 hp1 => ?_⟩
  refine ⟨Nat.zero_le _, fun p2 hp2 => ⟨_, _, rfl, ?_⟩⟩
  have h12 : p1 ≠ p2 := fun z => by rw [← z, upd_same] at hp2; cases hp2
  have hp2' : H p2 = none := by rw [upd_ne (Ne.symm h12)] at hp2; exact hp2
  obtain ⟨o11, o12, o13⟩ := Dw.off hp1
  obtain ⟨o21, o22, o23⟩ := Dw.off hp2'
  refine ⟨fun m σ Hc => ∃ lft fnd : List Int, σ = [some (.ref d), some (.ref a), some (.ref p1), some (.ref p2)] ∧ m = lft.length ∧ Hc p1 = some (.lst (lft.map V.int)) ∧ Hc p2 = some (.lst (fnd.map V.int)) ∧ (fnd ++ lft).Perm ns ∧ Nd d l H Hc ∧ Drw Hc d l c, ⟨ns.length, ns, [], rfl, rfl, ?_, upd_same, List.Perm.refl _, ?_, (Dw.upd o11 o12 o13).upd o21 o22 o23⟩, ?_⟩
  · rw [upd_ne h12]; exact upd_same
  · exact ⟨fun b o _ _ e => by rw [upd_ne (ne_of_none e hp2'), upd_ne (ne_of_none e hp1)]; exact e⟩
  rintro m σ Hc ⟨lft, fnd, rfl, rfl, k1, k2, kp, kn, kD⟩
  refine ne_nil (i := 2) rfl k1 fun H2 s2 f2 => ⟨_, rfl, ?_⟩
  have k1' := s2 _ _ k1
  have k2' := s2 _ _ k2
  have D2 := kD.same s2
  have n2 : Nd d l H H2 := kn.trans (Nd.of s2)
  cases lft with
  | nil =>
    refine iteF (show _ from ?_)
    refine ⟨_, rfl, q p2 fnd _ ?_ hp2' k2' n2 D2⟩
    simpa using kp
  | cons x lft =>
    refine iteT ?_
    have hlen : lft.length + 1 ≤ 63 := by
      have := kp.length_eq
      rw [List.length_append, List.length_cons] at this
      omega
    refine ⟨_, fun _ _ z => z, _, rfl, .inl ⟨rfl, _, SqL.of k2'⟩, _, rfl, .inl ⟨rfl, _, SqL.of k1'⟩, _, rfl, _, rfl, p1, _, rfl, .inl (SqL.of k1'), d, l, c, (((x :: lft).map V.int).length : Int), rfl, D2, ?_, ?_, fun k H3 hk0 hk1 n3 D3 => ?_⟩
    · rw [List.length_map, List.length_cons]; omega
    · rw [List.length_map, List.length_cons]; omega
    have hl1 : p1 ≠ l := o12
    have k3 : H3 p1 = some (.lst ((x :: lft).map V.int)) := n3.hh _ _ o11 o12 k1'
    have k4 : H3 p2 = some (.lst (fnd.map V.int)) := n3.hh _ _ o21 o22 k2'
    obtain ⟨j, rfl⟩ : ∃ j : Nat, k = (j : Int) := ⟨k.toNat, by omega⟩
    have hj : j < (x :: lft).length := by rw [List.length_map] at hk1; omega
    have hj2 : j < ((x :: lft).map V.int).length := by rw [List.length_map]; exact hj
    have hj64 : j < 64 := by rw [List.length_cons] at hj; omega
    have e6 : ((x :: lft).map V.int)[j]'hj2 = V.int ((x :: lft)[j]'hj) := List.getElem_map V.int
    refine ⟨p1, _, (j : Int), j, _, rfl, rfl, k3, by omega, by omega, seqIx hj2, List.getElem?_eq_getElem hj2, ?_⟩
    have e5 : ((x :: lft).map V.int).eraseIdx j = ((x :: lft).eraseIdx j).map V.int := map_eraseIdx _ _ _
    refine ⟨p2, _, _, rfl, rfl, by rw [upd_ne (Ne.symm h12)]; exact k4, ?_, (x :: lft).length - 1, ?_, (x :: lft).eraseIdx j, fnd ++ [(x :: lft)[j]], rfl, ?_, ?_, ?_, ?_, ?_, ?_⟩
    · rw [List.length_map]
      have := kp.length_eq
      rw [List.length_append, List.length_cons] at this
      have : fnd.length < 100 := by omega
      exact Nat.lt_of_lt_of_le this (by decide)
    · rw [List.length_cons]; omega
    · rw [List.length_eraseIdx_of_lt hj]
    · rw [upd_ne h12, upd_same, e5]
    · rw [upd_same, e6, List.map_append]; rfl
    · refine List.Perm.trans ?_ kp
      rw [List.append_assoc]
      refine List.Perm.append_left fnd ?_
      exact erase_perm _ j hj
    · exact ⟨fun b o h1 h2 e => by rw [upd_ne (ne_of_none e hp2'), upd_ne (ne_of_none e hp1)]; exact (n2.trans n3).hh b o h1 h2 e⟩
    · exact (D3.upd o11 o12 o13).upd o21 o22 o23

theorem ok_law_word (D : DefAt K mg "_law_word" s_law_word P_law_word f fd) (T : Bt mg) (h__law_take : Ok P w K mg base "_law_take" P_law_take 2 spTake) : Ok P w K mg base "_law_word" P_law_word 3 (spWord K) := by
  refine D.ok (D.F.ok sc_law_word (fun vs H Q E h => ?_) fun cdv A outer s H vs Q E hr h => ?_)
  · obtain ⟨d, l, c, b, xs, m, rfl, _⟩ := h; rfl
  have S := sc_law_word
  obtain ⟨d, l, c, b, xs, m, rfl, Dw, hB, hx0, hx1, hm0, hm1, q⟩ := h
  refine ⟨_, (pss_one (ps_ret (pe_callTy (q_tuple K rfl) (by rfl) T.tuple (by decide +kernel) (pa_cons (pe_lc (own := [("k", 3)]) (g := gName 3) (by rfl) S.nd  (pi_range1 (by rfl) T.range (pa_cons (pe_ok h__law_take (hr.mono (by decide)) (by rfl) (pa_cons (pv 0) (pa_cons (pe_op op_add (pv 2) pe_int) pa_nil))) pa_nil)) (blkOk_by (N := N_law_word) (sc := defScope s_law_word) (by decide +kernel)) (fun _ _ _ _ _ => (pg_name (i := 3) S.nd rfl (by first | exact .inl rfl | exact .inr rfl))) (fun _ _ _ _ _ => pts_nil) (fun _ _ _ _ _ => (pe_ok h__law_take (hr.mono (by decide)) (by rfl) (pa_cons (pv 0) (pa_cons (pe_callB (q_len K rfl) (by rfl) T.len PySem.boot_len (pa_cons (pv 1) pa_nil)) pa_nil))))) pa_nil)))), ?_⟩
  refine ⟨_, rfl, _, rfl, _, _, rfl, rfl, d, l, c, m + 1, rfl, Dw, by omega, by omega, fun j H1 hj0 hj1 n1 D1 => ?_⟩
  refine ⟨j, rfl, by omega, by omega, fun p hp => ?_⟩
  have hp0 : H p = none := by
    cases e : H p with
    | none => rfl
    | some o =>
      obtain ⟨z1, z2, z3⟩ := D1.off hp
      rw [n1.hh p o z1 z2 e] at hp
      cases hp
  obtain ⟨o1, o2, o3⟩ := D1.off hp
  refine lc_range (lo := 0) (n := j.toNat) (fun k Hc => ∃ acc : List Int, Hc p = some (.lst (acc.map V.int)) ∧ acc.length = k ∧ Letters xs.length acc ∧ Nd d l H Hc ∧ Drw Hc d l c) ⟨[], upd_same, rfl, (fun x z => nomatch z), ⟨fun a o h1 h2 e => by rw [upd_ne (ne_of_none e hp0)]; exact n1.hh a o h1 h2 e⟩, D1.upd o1 o2 o3⟩ (fun k Hc hk hP => ?_) fun Hc hP => ?_
  · obtain ⟨acc, e1, e2, e3, e4, e5⟩ := hP
    refine ⟨rfl, tyes ?_⟩
    refine ⟨_, rfl, _, rfl, b, xs, rfl, .inr (e4.seqT Dw hB), d, l, c, (xs.length : Int), rfl, e5, by omega, by omega, fun y H2 hy0 hy1 n2 D2 => ?_⟩
    have e6 : H2 p = some (.lst (acc.map V.int)) := n2.hh _ _ o1 o2 e1
    refine ⟨_, e6, ?_, acc ++ [y], ?_, ?_, ?_, ?_, D2.upd o1 o2 o3⟩
    · rw [List.length_map, e2]
      have : k < 200000 := by omega
      exact Nat.lt_of_lt_of_le this (by decide)
    · rw [upd_same, List.map_append]; rfl
    · rw [List.length_append, e2]; rfl
    · intro x hx
      rcases List.mem_append.mp hx with hx | hx
      · exact e3 x hx
      · rw [List.mem_singleton.mp hx]; exact ⟨hy0, hy1⟩
    · exact ⟨fun a o h1 h2 e => by rw [upd_ne (ne_of_none e hp0)]; exact (e4.trans n2).hh a o h1 h2 e⟩
  · obtain ⟨acc, e1, e2, e3, e4, e5⟩ := hP
    refine ⟨p, _, rfl, .inl ⟨SqL.of e1, fun z hz => ?_⟩⟩
    have hz0 : H z = none := by
      cases e : H z with
      | none => rfl
      | some o =>
        obtain ⟨z1, z2, z3⟩ := e5.off hz
        rw [e4.hh z o z1 z2 e] at hz
        cases hz
    obtain ⟨u1, u2, u3⟩ := e5.off hz
    exact q z acc _ (by rw [e2]; omega) e3 hz0 upd_same ⟨fun a o h1 h2 e => by rw [upd_ne (ne_of_none e hz0)]; exact e4.hh a o h1 h2 e⟩ (e5.upd u1 u2 u3)
end
end Gw
namespace Gw
open PySem PySem.Spec PyProof.Rows L2
section
variable {P : Program} {w : World} {K : PySem.W.Frag} {mg : Str → Option Value} {base : Heap} {f : Addr} {fd : FuncData}
theorem ok_law_back (D : DefAt K mg "_law_back" s_law_back P_law_back f fd) (T : Bt mg) (h__law_take : Ok P w K mg base "_law_take" P_law_take 2 spTake) (h__law_shuffled : Ok P w K mg base "_law_shuffled" P_law_shuffled 3 (spShuf K)) :
    Ok P w K mg base "_law_back" P_law_back 4 spBack := by
  refine D.ok (D.F.ok sc_law_back (fun vs H Q E h => ?_) fun cdv A outer s H vs Q E hr h => ?_)
  · obtain ⟨d, l, c, rfl, _⟩ := h; rfl
  have S := sc_law_back
  obtain ⟨d, l, c, rfl, Dw, q⟩ := h
  refine ⟨_, (pss_cons (ps_par (i := 1) (j := 2) rfl S.nd rfl rfl (by decide) rfl rfl (pa_cons (pe_lst pa_nil) (pa_cons (pe_op op_add pe_int (pe_ok h__law_take (hr.mono (by decide)) (by rfl) (pa_cons (pv 0) (pa_cons pe_int pa_nil)))) pa_nil)) (by rfl))
  (pss_cons (ps_set (i := 3) S.nd rfl (by first | exact .inl rfl | exact .inr rfl) (pe_ok h__law_shuffled (hr.mono (by decide)) (by rfl) (pa_cons (pv 0) (pa_cons (pe_listRg rfl (by rfl) T.list (prg_1 (by rfl) T.range (pv 2))) pa_nil))))
  (pss_cons (ps_set (i := 4) S.nd rfl (by first | exact .inl rfl | exact .inr rfl) (pe_op op_rep (pe_lst (pa_cons pe_int pa_nil)) (pv 2)))
  (pss_cons (ps_while PassesOwn.never (pt_cmpR (q_neD K rfl hr.units) (pv 3) (pe_lst pa_nil) (nomark _)) (pss_cons (ps_set (i := 5) S.nd rfl (by first | exact .inl rfl | exact .inr rfl) (pe_bm0 PySem.F.plainAttrs_list PySem.F.slot_list_pop PySem.F.type_list_pop mt_pop (pv 3)))
  (pss_cons (ps_set (i := 6) S.nd rfl (by first | exact .inl rfl | exact .inr rfl) (pe_ifExp (PW.pt (pw_and (pt_cmpR (q_neD K rfl hr.units) (pv 3) (pe_lst pa_nil) (nomark _)) (pw_and1 (pt_cmpR op_gt (pe_ok h__law_take (hr.mono (by decide)) (by rfl) (pa_cons (pv 0) (pa_cons pe_int pa_nil))) pe_int (nomark _))))) (pe_bm0 PySem.F.plainAttrs_list PySem.F.slot_list_pop PySem.F.type_list_pop mt_pop (pv 3)) (pv 5)))
  (pss_one (ps_asg (pe_tup (pa_cons (pv 6) (pa_cons (pv 5) pa_nil))) (q_gT K 2 rfl rfl (pgs_cons (pg_sub (pv 4) (pv 5) set_list) (pgs_cons (pg_sub (pv 4) (pv 6) set_list) pgs_nil))))))))
  (pss_one (ps_ret (pe_callTy (q_tuple K rfl) (by rfl) T.tuple (by decide +kernel) (pa_cons (pv 4) pa_nil)))))))), ?_⟩
  refine ⟨Nat.zero_le _, fun p0 hp0 => ?_⟩
  obtain ⟨z1, z2, z3⟩ := Dw.off hp0
  have D0 := Dw.upd (o := .lst []) z1 z2 z3
  have n0 : Nd d l H (upd H p0 (.lst [])) := ⟨fun a o _ _ e => by rw [upd_ne (ne_of_none e hp0)]; exact e⟩
  refine ⟨_, rfl, d, l, c, 5, rfl, D0, by decide, by decide, fun k H1 hk0 hk1 n1 D1 => ⟨_, _, rfl, rfl, _, _, rfl, ?_⟩⟩
  obtain ⟨n, hn⟩ : ∃ n : Nat, (2 : Int) + k = (n : Int) := ⟨(2 + k).toNat, by omega⟩
  have hn2 : 2 ≤ n := by omega
  have hn6 : n ≤ 6 := by omega
  have hn' : (fun (i j : Int) => V.int (i + j)) 2 k = V.int (n : Int) := congrArg V.int hn
  rw [hn']
  refine ⟨_, rfl, _, rfl, _, rfl, RgOk.of_le (by decide) (by omega) (by decide) (by omega), fun pr hpr => ?_⟩
  obtain ⟨y1, y2, y3⟩ := D1.off hpr
  have D1' := D1.upd (o := .lst (rgV 0 n)) y1 y2 y3
  have n1' : Nd d l H (upd H1 pr (.lst (rgV 0 n))) := (n0.trans n1).trans ⟨fun a o _ _ e => by rw [upd_ne (ne_of_none e hpr)]; exact e⟩
  have erg : rgV 0 (n : Int) = ((List.range n).map fun (k : Nat) => (k : Int)).map V.int := by
    unfold rgV
    rw [List.map_map, show ((n : Int) - 0).toNat = n by omega]
    exact List.map_congr_left fun x _ => by show V.int (0 + (x : Int)) = V.int (x : Int); rw [Int.zero_add]
  refine ⟨d, l, c, pr, (List.range n).map fun (k : Nat) => (k : Int), rfl, D1', SqL.of (by rw [upd_same, erg]), by rw [List.length_map, List.length_range]; omega, fun p1 ms H2 hperm hp1 e1 n2 D2 => ?_⟩
  obtain ⟨L, rfl, hL⟩ := perm_nats hperm
  have hp1H : H p1 = none := by
    cases e : H p1 with
    | none => rfl
    | some o =>
      obtain ⟨w1, w2, w3⟩ := D1'.off hp1
      rw [n1'.hh p1 o w1 w2 e] at hp1
      cases hp1
  refine ⟨by decide, fun px hpx => ?_⟩
  refine ⟨_, rfl, px, (n : Int), [V.int 0], rfl, rfl, upd_same, by omega, by omega, ?_, fun p2 hp2 => ?_⟩
  · have : [V.int 0].length * (n : Int).toNat ≤ 6 := by simp; exact hn6
    exact Nat.le_trans this (by decide)
  have efl : (List.replicate (n : Int).toNat [V.int 0]).flatten = (List.replicate n (0 : Int)).map V.int := by
    rw [Int.toNat_natCast]
    clear hL
    induction n with
    | zero => rfl
    | succ n _ => simp [List.replicate_succ, List.flatten_cons]
  obtain ⟨v1, v2, v3⟩ := D2.off (p := px) hpx
  have hpxH : ∀ b, H2 b = none → H b = none := fun b hb => by
    cases e : H b with
    | none => rfl
    | some o =>
      obtain ⟨w1, w2, w3⟩ := D2.off hb
      rw [(n1'.trans n2).hh b o w1 w2 e] at hb
      cases hb
  have hp2x : p2 ≠ px := fun z => by rw [z, upd_same] at hp2; cases hp2
  have hp2' : H2 p2 = none := by rw [upd_ne hp2x] at hp2; exact hp2
  have h12 : p1 ≠ p2 := fun z => by rw [← z, e1] at hp2'; cases hp2'
  have h1x : p1 ≠ px := fun z => by rw [← z, e1] at hpx; cases hpx
  obtain ⟨o11, o12, o13⟩ : p1 ≠ d ∧ p1 ≠ l ∧ p1 ≠ c := Dw.off hp1H
  obtain ⟨o21, o22, o23⟩ := D2.off hp2'
  refine ⟨fun m σ Hc => ∃ (L : List Nat) (fnd : List Int) (y5 y6 : Option V), σ = [some (.ref d), some (.ref p0), some (.int (n : Int)), some (.ref p1), some (.ref p2), y5, y6] ∧ m = L.length ∧ Hc p1 = some (.lst (vN L)) ∧ Hc p2 = some (.lst (fnd.map V.int)) ∧ Pr n L fnd ∧ Nd d l H Hc ∧ Drw Hc d l c,
    ⟨L.length, L, List.replicate n 0, none, none, rfl, rfl, ?_, ?_, Pr.start hL, ?_, ?_⟩, ?_⟩
  · rw [upd_ne h12, upd_ne h1x, vN_ints]; exact e1
  · rw [upd_same, efl]
  · exact ⟨fun a o h1 h2 e => by rw [upd_ne (ne_of_none e (hpxH _ hp2')), upd_ne (ne_of_none e (hpxH _ hpx))]; exact (n1'.trans n2).hh a o h1 h2 e⟩
  · exact (D2.upd v1 v2 v3).upd o21 o22 o23
  rintro m σ Hc ⟨L, fnd, y5, y6, rfl, rfl, k1, k2, kP, kn, kD⟩
  rw [vN_ints] at k1
  refine ne_nil (i := 3) rfl k1 fun H3 s3 f3 => ⟨_, rfl, ?_⟩
  rw [← vN_ints] at k1
  have k1' := s3 _ _ k1
  have k2' := s3 _ _ k2
  have D3 := kD.same s3
  have n3 : Nd d l H H3 := kn.trans (Nd.of s3)
  by_cases hL0 : L = []
  · subst hL0
    refine iteF ?_
    refine ⟨_, rfl, p2, _, rfl, .inl ⟨SqL.of k2', fun z hz => ?_⟩⟩
    have hzH : H z = none := by
      cases e : H z with
      | none => rfl
      | some o =>
        obtain ⟨w1, w2, w3⟩ := D3.off hz
        rw [n3.hh z o w1 w2 e] at hz
        cases hz
    obtain ⟨w1, w2, w3⟩ := D3.off hz
    exact q z fnd _ (kP.done hn2 (by omega)) (by rw [kP.len]; exact hn6) hzH upd_same ⟨fun a o h1 h2 e => by rw [upd_ne (ne_of_none e hzH)]; exact n3.hh a o h1 h2 e⟩ (D3.upd w1 w2 w3)
  obtain ⟨L1, x, rfl⟩ := last_of L hL0
  have hemp : (!((L1 ++ [x]).map fun (k : Nat) => (k : Int)).isEmpty) = true := by simp
  rw [hemp]
  refine iteT ⟨_, fun _ _ z => z, ?_⟩
  -- one = left.pop()
  refine seq_asg ?_
  refine ⟨_, rfl, .inl ⟨rfl, _, SqL.of k1'⟩, p1, _, V.int (x : Int), rfl, rfl, k1', vN_last L1 x, ?_⟩
  rw [vN_drop]
  have hx : x ∈ L1 ++ [x] := List.mem_append_right _ (List.mem_singleton.mpr rfl)
  have hxn := kP.lt x hx
  have nd1 := kP.nd
  have hxL1 : x ∉ L1 := fun z => by
    have := List.nodup_append.mp nd1
    exact (this.2.2 x z x (List.mem_singleton.mpr rfl)) rfl
  have ndL1 : L1.Nodup := (List.nodup_append.mp nd1).1
  have n4 : Nd d l H (upd H3 p1 (.lst (vN L1))) := ⟨fun a o h1 h2 e => by rw [upd_ne (ne_of_none e hp1H)]; exact n3.hh a o h1 h2 e⟩
  have D4 := D3.upd (o := .lst (vN L1)) o11 o12 o13
  have k14 : upd H3 p1 (.lst (vN L1)) p1 = some (.lst (vN L1)) := upd_same
  have k24 : upd H3 p1 (.lst (vN L1)) p2 = some (.lst (fnd.map V.int)) := by rw [upd_ne (Ne.symm h12)]; exact k2'
  generalize hH4 : upd H3 p1 (.lst (vN L1)) = H4 at *
  -- what comes behind: found[one], found[other] = (other, one)
  refine seq_cut (fun σ' H' => ∃ (y : Nat) (L' : List Nat), σ' = [some (.ref d), some (.ref p0), some (.int (n : Int)), some (.ref p1), some (.ref p2), some (.int (x : Int)), some (.int (y : Int))] ∧ y ∈ L1 ++ [x] ∧ L'.Nodup ∧ (∀ z, z ∈ L' ↔ z ∈ L1 ++ [x] ∧ z ≠ x ∧ z ≠ y) ∧ L'.length < (L1 ++ [x]).length ∧ H' p1 = some (.lst (vN L')) ∧ H' p2 = some (.lst (fnd.map V.int)) ∧ Nd d l H H' ∧ Drw H' d l c) ?_ (fun fin => ?_)
  · rintro σ' H' ⟨y, L', rfl, hy, hn', hm', hl', q1, q2, q3, q4⟩
    have hyn := kP.lt y hy
    refine ⟨_, rfl, _, rfl, (by decide : 2 ≤ sizeLine), fun pt hpt => ?_⟩
    have hpt2 : p2 ≠ pt := ne_of_none q2 hpt
    have hpt1 : p1 ≠ pt := ne_of_none q1 hpt
    have hptH : H pt = none := by
      cases e : H pt with
      | none => rfl
      | some o =>
        obtain ⟨w1, w2, w3⟩ := q4.off hpt
        rw [q3.hh pt o w1 w2 e] at hpt
        cases hpt
    obtain ⟨w1, w2, w3⟩ := q4.off hpt
    refine ⟨pt, _, rfl, SqT.of upd_same, rfl, _, _, rfl, ?_⟩
    refine ⟨_, rfl, _, rfl, p2, fnd.map V.int, (x : Int), x, rfl, rfl, by rw [upd_ne hpt2]; exact q2, ix_nat (by rw [List.length_map, kP.len]; exact hxn), _, _, rfl, ?_⟩
    refine ⟨_, rfl, _, rfl, p2, _, (y : Int), y, rfl, rfl, upd_same, ix_nat (by rw [List.length_set, List.length_map, kP.len]; exact hyn), rfl, ?_⟩
    refine ⟨L'.length, hl', L', (fnd.set x (y : Int)).set y (x : Int), _, _, rfl, rfl, ?_, ?_, kP.pair hx hy hn' hm', ?_, ?_⟩
    · rw [upd_ne h12, upd_ne h12, upd_ne hpt1]; exact q1
    · rw [upd_same, List.map_set, List.map_set]
    · exact ⟨fun a o h1 h2 e => by rw [upd_ne (ne_of_none e (hpxH _ hp2')), upd_ne (ne_of_none e (hpxH _ hp2')), upd_ne (ne_of_none e hptH)]; exact q3.hh a o h1 h2 e⟩
    · exact ((q4.upd w1 w2 w3).upd o21 o22 o23).upd o21 o22 o23
  · have same1 : ∀ z, z ∈ L1 ↔ z ∈ L1 ++ [x] ∧ z ≠ x ∧ z ≠ x := fun z => ⟨fun h => ⟨List.mem_append_left _ h, fun e => hxL1 (e ▸ h), fun e => hxL1 (e ▸ h)⟩, fun h => by
      rcases List.mem_append.mp h.1 with h1 | h1
      · exact h1
      · exact absurd (List.mem_singleton.mp h1) h.2.1⟩
    have k1i := k14
    rw [vN_ints] at k1i
    refine seq_asg ?_
    refine ne_nil (i := 3) rfl k1i fun H5 s5 f5 => ⟨_, rfl, ?_⟩
    have n5 : Nd d l H H5 := n4.trans (Nd.of s5)
    have D5 := D4.same s5
    have k15 := s5 _ _ k14
    have k25 := s5 _ _ k24
    by_cases hL1 : L1 = []
    · subst hL1
      refine iteF (iteF ?_)
      exact ⟨_, rfl, fin _ _ ⟨x, [], rfl, hx, ndL1, same1, by simp, k15, k25, n5, D5⟩⟩
    obtain ⟨L2, y, rfl⟩ := last_of L1 hL1
    have hemp2 : (!((L2 ++ [y]).map fun (k : Nat) => (k : Int)).isEmpty) = true := by simp
    rw [hemp2]
    refine iteT ?_
    refine ⟨_, rfl, d, l, c, 4, rfl, D5, by decide, by decide, fun j H6 hj0 hj1 n6 D6 => ?_⟩
    have k16 := n6.hh _ _ o11 o12 k15
    have k26 := n6.hh _ _ o21 o22 k25
    refine ⟨_, _, rfl, rfl, _, rfl, ite2 (fun _ => ?_) (fun _ => ?_)⟩
    · refine ⟨_, rfl, .inl ⟨rfl, _, SqL.of k16⟩, p1, _, V.int (y : Int), rfl, rfl, k16, vN_last L2 y, ?_⟩
      rw [vN_drop]
      have hyL2 : y ∉ L2 := fun z => (List.nodup_append.mp ndL1).2.2 y z y (List.mem_singleton.mpr rfl) rfl
      refine fin _ _ ⟨y, L2, rfl, List.mem_append_left _ (List.mem_append_right _ (List.mem_singleton.mpr rfl)), (List.nodup_append.mp ndL1).1, fun z => ?_, by simp, upd_same, by rw [upd_ne (Ne.symm h12)]; exact k26, ⟨fun a o h1 h2 e => by rw [upd_ne (ne_of_none e hp1H)]; exact (n5.trans n6).hh a o h1 h2 e⟩, D6.upd o11 o12 o13⟩
      constructor
      · intro h
        exact ⟨List.mem_append_left _ (List.mem_append_left _ h), fun e => hxL1 (e ▸ List.mem_append_left _ h), fun e => hyL2 (e ▸ h)⟩
      · rintro ⟨h1, h2, h3⟩
        rcases List.mem_append.mp h1 with h1 | h1
        · rcases List.mem_append.mp h1 with h1 | h1
          · exact h1
          · exact absurd (List.mem_singleton.mp h1) h3
        · exact absurd (List.mem_singleton.mp h1) h2
    · exact ⟨_, rfl, fin _ _ ⟨x, L2 ++ [y], rfl, hx, ndL1, same1, by simp, k16, k26, n5.trans n6, D6⟩⟩
end
end Gw
namespace Gw
open PySem PySem.Spec PyProof.Rows L2 LamX
theorem takes_len {X : Cx} {W : WX} (tk : Takes X W) : Takes X (fun cls d σ H => σ.length = X.N.length → W cls d σ H) := fun u s' ⟨a, B, sI, pins, σ, H, cls, d, e, I, nb, up, sky, na, os, ag, w⟩ =>
  tk u s' ⟨a, B, sI, pins, σ, H, cls, d, e, I, nb, up, sky, na, os, ag, w I.len⟩
/-- what _law_caught makes of a piece of work -/
def TTc (K : PySem.W.Frag) (CS : Addr) : (XK → Hp → VK → Prop) → Hp → VK → Prop := fun tl H Q =>
  tl (fun cls d H' => ∃ b, PySem.W.exmOne K cls (.ref CS) = some b ∧ (b = true → ∀ a, H' a = none → Q (.ref a) (upd H' a (ErrO cls d a))) ∧ (b = false → False)) H (fun _ H' => ∃ v, (some (some V.non) : Option (Option V)) = some (some v) ∧ Q v H')
theorem caught_gives {X : Cx} {q : Str} {g CS : Addr} {cdg : Value} (hme : X.mg "GroupError" = some (.ref CS)) : GivesTo X N_law_caught "_law_caught" (defScope s_law_caught) g cdg (defBody s_law_caught) "work" q (TTc X.K CS) := by
  intro f c' s H Q tl act hc h
  have S := sc_law_caught
  refine ⟨_, pss_cons (ps_set (i := 1) S.nd rfl (.inl rfl) pe_non) (pss_cons (ps_keep (X := (cxOf C8.CX0 X.prog X.w X.K X.mg X.base N_law_caught "_law_caught" (defScope s_law_caught) g cdg X.A X.stack s H C8.E0).nox) (c := .ref CS) (i := 2) (j := 1)
    (tb := fun W D σ H => ∃ Ech : XK, (∀ cls d σ' H', Ech cls d H' → σ'.length = 3 → W cls d σ' H') ∧ σ[0]? = some (some (.ref f)) ∧ H c' = some (CodeO c' q) ∧ tl Ech H (fun _ H' => D.nx σ H'))
    rfl rfl rfl S.nd rfl rfl rfl rfl (.inl rfl) rfl rfl (fun Y e => by rfl) (show 2 < N_law_caught.length by decide) ⟨rfl, by decide, .inl hme⟩ L2.takes0 (fun W pn xe tk _ => ?_)) (pss_one (ps_ret (pv 1)))), ?_⟩
  · refine ⟨fun pins s' σ H' D I h' => ?_⟩
    obtain ⟨Ech, hW, h1, h2, h3⟩ := h'
    exact (pss_one (ps_expr (act _ pn xe Ech _ _ (takes_len tk) hW))).run pins s' σ H' D I ⟨h1, h2, h3⟩
  · refine ⟨fun cls d H' => ∃ b, PySem.W.exmOne X.K cls (.ref CS) = some b ∧ (b = true → ∀ a, H' a = none → Q (.ref a) (upd H' a (ErrO cls d a))) ∧ (b = false → False), fun cls d σ' H' hE hl => ?_, rfl, hc, ?_⟩
    · obtain ⟨b, e1, e2, e3⟩ := hE
      refine ⟨b, e1, fun hb a na => ?_, fun hb => e3 hb⟩
      match σ', hl with
      | [x0, x1, x2], _ => exact ⟨.ref a, rfl, e2 hb a na⟩
    · exact h
end Gw
namespace Gw
open PySem PySem.Spec PyProof.Rows L2 LamX
section
variable {P : Program} {w : World} {K : PySem.W.Frag} {mg : Str → Option Value} {base : Heap} {f : Addr} {fd : FuncData}
def R_is_back : List PyData → PyData → Prop := fun ds d => ∃ x, ds = [x] ∧ Sized x ∧ d = .bool (isBackD x)
theorem ok_is_back (D : DefAt K mg "is_back" s_is_back P_is_back f fd) (T : Bt mg) {t12 : Tok} (c_MOST_BACK : mg "MOST_BACK" = some (.int 12 t12)) (h_is_row : Ok P w K mg base "is_row" P_is_row 3 (SpD K R_is_row)) :
    OkF P w K mg base "is_back" s_is_back P_is_back 4 (SpD K R_is_back) := by
  refine D.okF (okD D.F sc_is_back (fun ds d h => ?_) fun cdv A outer s H hr => ?_)
  · obtain ⟨x, rfl, _⟩ := h; rfl
  have S := sc_is_back
  refine ⟨_, (pss_cons (ps_if (PW.pt (pw_or (pt_not (pt_val (pe_callB (q_isi K rfl) (by rfl) T.isinstance (by decide +kernel) (pa_cons (pv 0) (pa_cons (pe_bltn (v := .ty "tuple") (by rfl) T.tuple (by decide +kernel) rfl) pa_nil))))) (pw_or1 (pt_not (pt_chain op_le op_le pe_int (pe_callB (q_len K rfl) (by rfl) T.len PySem.boot_len (pa_cons (pv 0) pa_nil)) (pe_glob (v := .int 12) (by rfl) c_MOST_BACK ⟨_, rfl⟩)))))) (pss_one (ps_ret pe_bl)) pss_nil)
  (pss_cons (ps_if (pt_not (pt_val (pe_ok h_is_row (hr.mono (by decide)) (by rfl) (pa_cons (pe_callB (q_len K rfl) (by rfl) T.len PySem.boot_len (pa_cons (pv 0) pa_nil)) (pa_cons (pv 0) pa_nil))))) (pss_one (ps_ret pe_bl)) pss_nil)
  (pss_one (ps_ret (pe_callB (q_all K rfl rfl) (by rfl) T.all (by decide +kernel) (pa_cons (pe_lc (own := [("letter", 1), ("back", 2)])  (by rfl) S.nd  (q_iEnT K rfl (by rfl) T.enumerate (pa_cons (pv 0) pa_nil)) (blkOk_by (N := N_is_back) (sc := defScope s_is_back) (by decide +kernel)) (fun _ _ _ _ _ => (q_gT K 2 rfl rfl (pgs_cons (pg_name (i := 1) S.nd rfl (by first | exact .inl rfl | exact .inr rfl)) (pgs_cons (pg_name (i := 2) S.nd rfl (by first | exact .inl rfl | exact .inr rfl)) pgs_nil)))) (fun _ _ _ _ _ => pts_nil) (fun _ _ _ _ _ => (pe_cmpR (q_eqD K rfl hr.units) (pe_ix (q_ixT K rfl) (pv 0) (pv 2) (fun _ _ => rfl)) (pv 1) (nomark _)))) pa_nil)))))), fun G ds d vs hR ha H0 hs D' q _ => ?_⟩
  obtain ⟨x, rfl, hz, rfl⟩ := hR
  obtain _ | ⟨hx, _ | _⟩ := ha
  cases x with
  | tuple xs =>
    have hz : xs.length ≤ sizeLine := hz
    have hlen := rcl_len (K := K) (ds := xs)
    refine (rd_seqIf (b := !(decide (2 ≤ (xs.length : Int)) && decide ((xs.length : Int) ≤ 12))) ?_ (fun hb => ?_) fun hb => ?_) H0 hs D' q
    · refine EvB.cast (eb_or (eb_not (eb_B (ed_isi (ed_var (i := 0) rfl hx) (kit_tup _)))) fun _ => eb_not (eb_test (ed_chain ed_int (ed_cb (ea_cons (ed_var (i := 0) rfl hx) ea_nil) hlen) (ro_b (f := fun i j => decide (i ≤ j))) (fun _ => ed_int) (fun _ => ro_b (f := fun i j => decide (i ≤ j)))))) (by rfl)
    · refine (rd_ret ed_bl).cast ?_
      have : (decide (2 ≤ (xs.length : Int)) && decide ((xs.length : Int) ≤ 12)) = false := not_t hb
      show PyData.bool false = .bool (decide (2 ≤ xs.length) && decide (xs.length ≤ 12) && _)
      have e : (decide (2 ≤ xs.length) && decide (xs.length ≤ 12)) = false := by
        rw [← this]
        congr 1 <;> exact decide_eq_decide.mpr (by omega)
      rw [e, Bool.false_and]
    · have hc : (decide (2 ≤ (xs.length : Int)) && decide ((xs.length : Int) ≤ 12)) = true := not_f hb
      rw [Bool.and_eq_true, decide_eq_true_eq, decide_eq_true_eq] at hc
      have e : isBackD (.tuple xs) = (xs.all (inR 0 ((xs.length : Int) - 1)) && (xs.mapIdx (bkAt xs)).all id) := by
        show (decide (2 ≤ xs.length) && decide (xs.length ≤ 12) && _) = _
        rw [decide_eq_true (by omega : 2 ≤ xs.length), decide_eq_true (by omega : xs.length ≤ 12)]
        rfl
      rw [e]
      refine rd_seqIf (b := !xs.all (inR 0 ((xs.length : Int) - 1))) (eb_not (eb_B (ed_call (ea_cons (ed_cb (ea_cons (ed_var (i := 0) rfl hx) ea_nil) hlen) (ea_cons (ed_var (i := 0) rfl hx) ea_nil)) ⟨_, _, rfl, hz, rfl⟩))) (fun hb => ?_) fun hb => ?_
      · have h1 : xs.all (inR 0 ((xs.length : Int) - 1)) = false := not_t hb
        rw [h1]
        exact rd_ret ed_bl
      · have h1 : xs.all (inR 0 ((xs.length : Int) - 1)) = true := not_f hb
        rw [h1, Bool.true_and]
        have hin := List.all_eq_true.mp h1
        refine rd_ret (ed_cb (ea_cons (EvN.toD (en_lcEn (fun k d => .bool (bkAt xs k d)) (ed_var (i := 0) rfl hx) (fun _ _ => rfl) hz fun k d v Gi hk g hd => ?_)) ea_nil) ?_)
        · have hm : d ∈ xs := List.mem_of_getElem? hk
          obtain ⟨i, rfl, h0, h9⟩ := inR_int (hin d hm)
          have hi : i.toNat < xs.length := by omega
          have hat : xs[i.toNat]? = some (xs.getD i.toNat .none) := by rw [List.getD_eq_getElem?_getD, List.getElem?_eq_getElem hi]; rfl
          obtain ⟨j, ej, _, _⟩ := inR_int (hin _ (List.mem_of_getElem? hat))
          refine ed_op (ed_op (ed_var (i := 0) rfl (dp_mono g _ hx)) (ed_var (i := 2) rfl hd) (ro_ixT (k := i.toNat) (by omega) hat)) (ed_var (i := 1) (d := .int (k : Int)) rfl (.int _)) (ro_eqD ?_ (shaped_int _))
          rw [ej]; exact shaped_int _
        · have h := rcl_all (K := K) (bs := xs.mapIdx (bkAt xs))
          rw [mapIdx_then] at h
          exact h
  | _ =>
    refine (rd_seqIf (b := true) (EvB.cast (eb_or (a := true) (b := true) (eb_not (eb_B (b := false) (ed_isi (ed_var (i := 0) rfl hx) (kit_tup _)))) fun z => nomatch z) (by rfl)) (fun _ => (rd_ret ed_bl).cast (by rfl)) fun z => nomatch z) H0 hs D' q
/-! ### lists, pairs, rules -/
def spIsL (K : PySem.W.Frag) : Sp := fun vs H Q _ => ∃ (G : Hp) (v : V) (x : PyData), Same G H ∧ vs = [v] ∧ Th K G v x ∧ ∀ G' H', Nx G H G' H' → Q (.bl (isLT x)) H'
theorem ok_is_list (D : DefAt K mg "is_list" s_is_list P_is_list f fd) (T : Bt mg) : Ok P w K mg base "is_list" P_is_list 1 (spIsL K) := by
  refine D.ok (D.F.ok sc_is_list (fun vs H Q E h => ?_) fun cdv A outer s H vs Q E hr h => ?_)
  · obtain ⟨G, v, x, _, rfl, _⟩ := h; rfl
  have S := sc_is_list
  obtain ⟨G, v, x, hs, rfl, hv, q⟩ := h
  refine ⟨_, (pss_one (ps_ret (pe_callB (q_isiT K rfl) (by rfl) T.isinstance (by decide +kernel) (pa_cons (pv 0) (pa_cons (pe_tup (pa_cons (pe_bltn (v := .ty "list") (by rfl) T.list (by decide +kernel) rfl) (pa_cons (pe_bltn (v := .ty "tuple") (by rfl) T.tuple (by decide +kernel) rfl) pa_nil))) pa_nil))))), ?_⟩
  exact (rd_ret (K := K) (d := .bool (isLT x)) (ed_isiLT (i := 0) rfl hv)) H hs _ fun u G' H' n1 hd => by rw [dp_bl hd]; exact q G' H' n1
theorem ed_isL {σ : L2.St} {G : Hp} {i : Nat} {v : V} {x : PyData} (h : σ[i]? = some (some v)) (hv : Th K G v x) : EvD K (tCall (spIsL K) [] E0 (tCons (tVar i) tNil)) σ G (.bool (isLT x)) := fun H s Q q => ⟨v, h, G, v, x, s, rfl, hv, fun G' H' n => q _ G' H' n (.bl _)⟩
end
end Gw
namespace Gw
open PySem PySem.Spec PyProof.Rows L2 LamX
/-! ### a list that grows, over a view -/
structure Grow (K : PySem.W.Frag) (G H : Hp) (p : Addr) (ds : List PyData) (Gi Hc : Hp) : Prop where
  n : Nx G H Gi Hc
  g : Gi p = none
  ex : ∃ acc, Hc p = some (.lst acc) ∧ DpAll K Gi acc ds
section
variable {K : PySem.W.Frag} {G H Gi Hc G2 H2 : Hp} {p : Addr} {ds : List PyData}
theorem Grow.start (s : Same G H) (hp : H p = none) : Grow K G H p [] G (upd H p (.lst [])) := ⟨Nx.lay s hp, s.free hp, [], upd_same, .nil⟩
theorem Grow.step (h : Grow K G H p ds Gi Hc) (n : Nx Gi Hc G2 H2) : Grow K G H p ds G2 H2 := by
  obtain ⟨acc, e, ha⟩ := h.ex
  exact ⟨h.n.trans n, (n.fr p (ne_none e)).trans h.g, acc, n.hh _ _ e, dpa_mono n.gg _ ha⟩
theorem Grow.add (h : Grow K G H p ds Gi Hc) (hp : H p = none) {v : V} {d : PyData} (hd : Dp K Gi v d) {acc : List V} (e : Hc p = some (.lst acc)) : Grow K G H p (ds ++ [d]) Gi (upd Hc p (.lst (acc ++ [v]))) := by
  obtain ⟨acc', e', ha⟩ := h.ex
  rw [e] at e'
  cases e'
  refine ⟨⟨h.n.gg, fun b u q => ?_, fun b u q => ?_, h.n.fr⟩, h.g, acc ++ [v], upd_same, dpa_append ha (.cons hd .nil)⟩
  · rw [upd_ne (ne_of_none q h.g)]; exact h.n.gh b u q
  · rw [upd_ne (ne_of_none q hp)]; exact h.n.hh b u q
end
section
variable {K : PySem.W.Frag} {σ : L2.St} {G H : Hp}
theorem seq_forR {te : TE} {g : TG} {tb u : TS} {D : Ends} {n : Nat} (Pv : Nat → L2.St → Hp → Prop) (h : EvD K te σ G (.int (n : Int))) (s : Same G H) (hz : n ≤ 1000000) (h0 : ∀ G1 H1, Nx G H G1 H1 → Pv 0 σ H1)
    (hs : ∀ (i : Nat) (σ : L2.St) (Hc : Hp), i < n → Pv i σ Hc → g (.int ((0 : Int) + (i : Int))) σ Hc fun σ2 H2 => tb { nx := Pv (i + 1), rt := D.rt, bk := u D, ct := Pv (i + 1) } σ2 H2) (hd : ∀ σ Hc, Pv n σ Hc → u D σ Hc) : tSeq (tFor (iRng1 (tCons te tNil)) g tb) u D σ H :=
  h H s _ fun v G1 H1 n1 hv => ⟨(n : Int), by rw [dp_int hv], by omega, by omega, by
    rw [Int.toNat_natCast]
    exact for_range (lo := 0) (n := n) Pv (h0 G1 H1 n1) hs hd⟩
end
end Gw
namespace Gw
open PySem PySem.Spec PyProof.Rows L2 LamX
/-! ### pair rows -/
abbrev wD (ws : List Int) : PyData := .tuple (ws.map .int)
def prAt (m : Int) (a b : List Int) (k : Nat) : Int := (a.getD k m) * (m + 1) + b.getD k m
def prI (m : Int) (a b : List Int) : List Int := (List.range (max a.length b.length)).map (prAt m a b)
def poA (m : Int) (r : List Int) : List Int := (r.map fun x => x.fdiv (m + 1)).filter fun y => decide (y < m)
def poB (m : Int) (r : List Int) : List Int := (r.map fun x => x.fmod (m + 1)).filter fun y => decide (y < m)
theorem rcl_max2 {K : PySem.W.Frag} {i j : Nat} : RCl K (fun xs H Q => ∃ i j : Int, xs = [V.int i, V.int j] ∧ Q (.int (if j > i then j else i)) H) [.int (i : Int), .int (j : Int)] (.int ((max i j : Nat) : Int)) := fun G H s vs hv Q q => by
  obtain _ | ⟨h1, _ | ⟨h2, _ | _⟩⟩ := hv
  refine ⟨_, _, by rw [dp_int h1, dp_int h2], q _ G H (Nx.refl s) ?_⟩
  have e : (if (j : Int) > (i : Int) then (j : Int) else (i : Int)) = ((max i j : Nat) : Int) := by
    split <;> omega
  rw [e]
  exact .int _
section
variable {P : Program} {w : World} {K : PySem.W.Frag} {mg : Str → Option Value} {base : Heap} {f : Addr} {fd : FuncData}
def R_row_of_pair : List PyData → PyData → Prop := fun ds d => ∃ (m : Int) (a b : List Int), ds = [.int m, wD a, wD b] ∧ a.length ≤ 100000 ∧ b.length ≤ 100000 ∧ 0 ≤ m ∧ m ≤ 1000 ∧ d = wD (prI m a b)
theorem ok_row_of_pair (D : DefAt K mg "row_of_pair" s_row_of_pair P_row_of_pair f fd) (T : Bt mg) : Ok P w K mg base "row_of_pair" P_row_of_pair 1 (SpD K R_row_of_pair) := by
  refine D.ok (okD D.F sc_row_of_pair (fun ds d h => ?_) fun cdv A outer s H hr => ?_)
  · obtain ⟨m, a, b, rfl, _⟩ := h; rfl
  have S := sc_row_of_pair
  refine ⟨_, (pss_cons (ps_set (i := 3) S.nd rfl (by first | exact .inl rfl | exact .inr rfl) (pe_lst pa_nil))
  (pss_cons (ps_for PassesOwn.never rfl (pi_range1 (by rfl) T.range (pa_cons (pe_callB (call_max2 rfl) (by rfl) T.max (by decide +kernel) (pa_cons (pe_callB (q_len K rfl) (by rfl) T.len PySem.boot_len (pa_cons (pv 1) pa_nil)) (pa_cons (pe_callB (q_len K rfl) (by rfl) T.len PySem.boot_len (pa_cons (pv 2) pa_nil)) pa_nil))) pa_nil)) (pg_name (i := 4) S.nd rfl (by first | exact .inl rfl | exact .inr rfl)) (pss_cons (ps_set (i := 5) S.nd rfl (by first | exact .inl rfl | exact .inr rfl) (pe_ifExp (pt_cmpR op_lt (pv 4) (pe_callB (q_len K rfl) (by rfl) T.len PySem.boot_len (pa_cons (pv 1) pa_nil)) (nomark _)) (pe_ix (q_ixT K rfl) (pv 1) (pv 4) (fun _ _ => rfl)) (pv 0)))
  (pss_cons (ps_set (i := 6) S.nd rfl (by first | exact .inl rfl | exact .inr rfl) (pe_ifExp (pt_cmpR op_lt (pv 4) (pe_callB (q_len K rfl) (by rfl) T.len PySem.boot_len (pa_cons (pv 2) pa_nil)) (nomark _)) (pe_ix (q_ixT K rfl) (pv 2) (pv 4) (fun _ _ => rfl)) (pv 0)))
  (pss_one (ps_expr (pe_bm PySem.F.plainAttrs_list PySem.F.slot_list_append PySem.F.type_list_append mt_append (pv 3) (pa_cons (pe_op op_add (pe_op op_mul (pv 5) (pe_op op_add (pv 0) pe_int)) (pv 6)) pa_nil)))))))
  (pss_one (ps_ret (pe_callTy (q_tuple K rfl) (by rfl) T.tuple (by decide +kernel) (pa_cons (pv 3) pa_nil)))))), fun G ds d vs hR ha H0 hs D' qq _ => ?_⟩
  obtain ⟨m, a, b, rfl, la, lb, hm0, hm1, rfl⟩ := hR
  obtain _ | ⟨hm, _ | ⟨h1, _ | ⟨h2, _ | _⟩⟩⟩ := ha
  have big : 2000000 ≤ sizeLine := by decide
  have lad : (a.map PyData.int).length = a.length := List.length_map _
  have lbd : (b.map PyData.int).length = b.length := List.length_map _
  refine ⟨Nat.zero_le _, fun p hp => ?_⟩
  have g0 := Grow.start (K := K) hs hp
  have hN : (max a.length b.length) ≤ 100000 := by omega
  refine seq_forR (K := K) (G := G) (n := max a.length b.length) (fun k σ Hc => ∃ y4 y5 y6 Gi, σ = [some _, some _, some _, some (.ref p), y4, y5, y6] ∧ Grow K G H0 p (((List.range k).map (prAt m a b)).map .int) Gi Hc) (ed_cb (ea_cons (EvD.cast (ed_cb (ea_cons (ed_var (i := 1) rfl h1) ea_nil) rcl_len) (congrArg (fun n : Nat => PyData.int (n : Int)) lad)) (ea_cons (EvD.cast (ed_cb (ea_cons (ed_var (i := 2) rfl h2) ea_nil) rcl_len) (congrArg (fun n : Nat => PyData.int (n : Int)) lbd)) ea_nil)) rcl_max2) g0.n.gh (by omega) (fun G1 H1 n1 => ⟨_, _, _, G1, rfl, g0.step n1⟩) (fun k σ Hc hk hP => ?_) fun σ Hc hP => ?_
  · obtain ⟨y4, y5, y6, Gi, rfl, gr⟩ := hP
    have hmi := dp_mono gr.n.gg _ hm
    have h1i := dp_mono gr.n.gg _ h1
    have h2i := dp_mono gr.n.gg _ h2
    have ek : (0 : Int) + (k : Int) = (k : Int) := by omega
    rw [ek]
    have getA : ∀ c : List Int, (if decide ((k : Int) < (c.length : Int)) = true then c.getD k m else m) = c.getD k m := fun c => by
      split
      · rfl
      · rename_i z
        have : ¬ k < c.length := fun h => z (decide_eq_true (by omega))
        rw [List.getD_eq_getElem?_getD, List.getElem?_eq_none (by omega)]; rfl
    refine seq_let (K := K) (G := Gi) (d := .int (a.getD k m)) (ed_if (b := decide ((k : Int) < (a.length : Int))) (EvB.cast (eb_test (ed_op (ed_var (i := 4) rfl (.int (k : Int))) (EvD.cast (ed_cb (ea_cons (ed_var (i := 1) rfl h1i) ea_nil) rcl_len) (congrArg (fun n : Nat => PyData.int (n : Int)) lad)) ro_b)) rfl) (fun z => ?_) fun z => ?_) gr.n.gh fun v5 G2 H2 n2 hd5 => ?_
    · have hka : k < a.length := by have := of_decide_eq_true z; omega
      refine ed_op (ed_var (i := 1) rfl h1i) (ed_var (i := 4) rfl (.int (k : Int))) (ro_ixT (k := k) rfl ?_)
      rw [List.getElem?_map, List.getElem?_eq_getElem hka, List.getD_eq_getElem?_getD, List.getElem?_eq_getElem hka]; rfl
    · have hka : ¬ k < a.length := by have := of_decide_eq_false z; omega
      refine (ed_var (i := 0) rfl hmi).cast ?_
      rw [List.getD_eq_getElem?_getD, List.getElem?_eq_none (by omega)]; rfl
    have g2 := gr.step n2
    have hmi2 := dp_mono n2.gg _ hmi
    have h2i2 := dp_mono n2.gg _ h2i
    refine seq_let (K := K) (G := G2) (d := .int (b.getD k m)) (ed_if (b := decide ((k : Int) < (b.length : Int))) (EvB.cast (eb_test (ed_op (ed_var (i := 4) rfl (.int (k : Int))) (EvD.cast (ed_cb (ea_cons (ed_var (i := 2) rfl h2i2) ea_nil) rcl_len) (congrArg (fun n : Nat => PyData.int (n : Int)) lbd)) ro_b)) rfl) (fun z => ?_) fun z => ?_) g2.n.gh fun v6 G3 H3 n3 hd6 => ?_
    · have hka : k < b.length := by have := of_decide_eq_true z; omega
      refine ed_op (ed_var (i := 2) rfl h2i2) (ed_var (i := 4) rfl (.int (k : Int))) (ro_ixT (k := k) rfl ?_)
      rw [List.getElem?_map, List.getElem?_eq_getElem hka, List.getD_eq_getElem?_getD, List.getElem?_eq_getElem hka]; rfl
    · have hka : ¬ k < b.length := by have := of_decide_eq_false z; omega
      refine (ed_var (i := 0) rfl hmi2).cast ?_
      rw [List.getD_eq_getElem?_getD, List.getElem?_eq_none (by omega)]; rfl
    have g3 := g2.step n3
    obtain ⟨acc3, e3, _⟩ := id g3.ex
    refine ⟨_, rfl, .inl ⟨rfl, _, SqL.of e3⟩, ?_⟩
    have cm : CMul (a.getD k m) (m + 1) := .inr ⟨by omega, by omega⟩
    refine (ed_op (K := K) (G := G3) (σ := [some _, some _, some _, some (.ref p), some (.int (k : Int)), some v5, some v6]) (ed_op (ed_var (i := 5) rfl (dp_mono n3.gg _ hd5)) (ed_op (ed_var (i := 0) rfl (dp_mono n3.gg _ hmi2)) ed_int ro_i) (ro_ic (f := fun i j => i * j) cm)) (ed_var (i := 6) rfl hd6) ro_i) H3 g3.n.gh _ fun v4 G4 H4 n4 hd4 => ?_
    have g4 := g3.step n4
    obtain ⟨acc4, e4, ha4⟩ := id g4.ex
    refine ⟨p, acc4, v4, rfl, rfl, e4, ?_, ⟨_, _, _, G4, rfl, ?_⟩⟩
    · have h1 := dpa_length ha4
      rw [List.length_map, List.length_map, List.length_range] at h1
      omega
    · rw [List.range_succ, List.map_append, List.map_append]
      exact g4.add hp hd4 e4
  · obtain ⟨y4, y5, y6, Gi, rfl, gr⟩ := hP
    obtain ⟨acc, e, hacc⟩ := gr.ex
    obtain ⟨m1, gi⟩ := gr.n.tell hp gr.g e
    exact (rd_ret (K := K) (G := upd Gi p (.lst acc)) (d := wD (prI m a b)) (ed_cb (ea_cons (ed_var (i := 3) rfl (.lst (SqL.of upd_same) (dpa_mono gi _ hacc))) ea_nil) rcl_tupleL)) Hc m1.gh D' fun v G2 H2 n2 hd => qq v G2 H2 (m1.trans n2) hd
def R_pair_of_row : List PyData → PyData → Prop := fun ds d => ∃ (m : Nat) (r : List Int), ds = [.int (m : Int), wD r] ∧ r.length ≤ 100000 ∧ m ≤ 12 ∧ d = .tuple [wD (poA m r), wD (poB m r)]
theorem ok_pair_of_row (D : DefAt K mg "pair_of_row" s_pair_of_row P_pair_of_row f fd) (T : Bt mg) : Ok P w K mg base "pair_of_row" P_pair_of_row 1 (SpD K R_pair_of_row) := by
  refine D.ok (okD D.F sc_pair_of_row (fun ds d h => ?_) fun cdv A outer s H hr => ?_)
  · obtain ⟨m, r, rfl, _⟩ := h; rfl
  have S := sc_pair_of_row
  refine ⟨_, (pss_cons (ps_set (i := 2) S.nd rfl (by first | exact .inl rfl | exact .inr rfl) (pe_callTy (q_tuple K rfl) (by rfl) T.tuple (by decide +kernel) (pa_cons (pe_lc (own := [("number", 3)]) (g := gName 3) (by rfl) S.nd  (q_iT K rfl (pv 1)) (blkOk_by (N := N_pair_of_row) (sc := defScope s_pair_of_row) (by decide +kernel)) (fun _ _ _ _ _ => (pg_name (i := 3) S.nd rfl (by first | exact .inl rfl | exact .inr rfl))) (fun _ _ _ _ _ => (pts_one (pt_cmpR op_lt (pe_op op_fdivN (pv 3) (pe_op op_add (pv 0) pe_int)) (pv 0) (nomark _)))) (fun _ _ _ _ _ => (pe_op op_fdivN (pv 3) (pe_op op_add (pv 0) pe_int)))) pa_nil)))
  (pss_cons (ps_set (i := 4) S.nd rfl (by first | exact .inl rfl | exact .inr rfl) (pe_callTy (q_tuple K rfl) (by rfl) T.tuple (by decide +kernel) (pa_cons (pe_lc (own := [("number", 3)]) (g := gName 3) (by rfl) S.nd  (q_iT K rfl (pv 1)) (blkOk_by (N := N_pair_of_row) (sc := defScope s_pair_of_row) (by decide +kernel)) (fun _ _ _ _ _ => (pg_name (i := 3) S.nd rfl (by first | exact .inl rfl | exact .inr rfl))) (fun _ _ _ _ _ => (pts_one (pt_cmpR op_lt (pe_op op_modN (pv 3) (pe_op op_add (pv 0) pe_int)) (pv 0) (nomark _)))) (fun _ _ _ _ _ => (pe_op op_modN (pv 3) (pe_op op_add (pv 0) pe_int)))) pa_nil)))
  (pss_one (ps_ret (pe_tup (pa_cons (pv 2) (pa_cons (pv 4) pa_nil))))))), fun G ds d vs hR ha H0 hs D' qq _ => ?_⟩
  obtain ⟨m, r, rfl, lr, lm, rfl⟩ := hR
  obtain _ | ⟨hm, _ | ⟨h1, _ | _⟩⟩ := ha
  have big : 2000000 ≤ sizeLine := by decide
  have lrd : (r.map PyData.int).length ≤ sizeLine := by rw [List.length_map]; omega
  have cd : CDivN 0 ((m : Int) + 1) := ⟨by omega, by omega⟩
  have fl : ∀ (op : Int → Int → Int) (l : List Int), ((l.map PyData.int).filterMap fun d => if op (toI d) ((m : Int) + 1) < (m : Int) then some (PyData.int (op (toI d) ((m : Int) + 1))) else none) = ((l.map fun x => op x ((m : Int) + 1)).filter fun y => decide (y < (m : Int))).map .int := fun op l => by
    induction l with
    | nil => rfl
    | cons x l ih =>
      rw [List.map_cons, List.map_cons, List.filterMap_cons, List.filter_cons]
      have e : toI (PyData.int x) = x := rfl
      rw [e]
      by_cases h : op x ((m : Int) + 1) < (m : Int)
      · simp only [if_pos h, decide_eq_true h, if_true, List.map_cons]
        rw [ih]
      · simp only [if_neg h, decide_eq_false h]
        exact ih
  refine rd_set (K := K) (G := G) (e := wD (poA m r)) ?_ (fun v2 G1 s1 hv2 => ?_) H0 hs D' qq
  · refine ed_cb (ea_cons (EvN.toD (EvN.cast (en_lcT (i := 3) (fun d => if (toI d).fdiv ((m : Int) + 1) < (m : Int) then some (PyData.int ((toI d).fdiv ((m : Int) + 1))) else none) (ed_var (i := 1) rfl h1) (fun _ => rfl) lrd (fun d v Gi hd g hdv => ?_) fun d v e Gi hd he g hdv => ?_) (fl (fun i j => i.fdiv j) r))) ea_nil) rcl_tupleL
    · obtain ⟨x, hx, rfl⟩ := List.mem_map.mp hd
      refine EvB.cast (eb_test (ed_op (ed_op (ed_var (i := 3) rfl hdv) (ed_op (ed_var (i := 0) rfl (dp_mono g _ hm)) ed_int ro_i) (ro_ic (f := fun i j => i.fdiv j) cd)) (ed_var (i := 0) rfl (dp_mono g _ hm)) ro_b)) ?_
      show decide (x.fdiv ((m : Int) + 1) < (m : Int)) = (if x.fdiv ((m : Int) + 1) < (m : Int) then some (PyData.int (x.fdiv ((m : Int) + 1))) else none).isSome
      split
      · rename_i z; rw [decide_eq_true z]; rfl
      · rename_i z; rw [decide_eq_false z]; rfl
    · obtain ⟨x, hx, rfl⟩ := List.mem_map.mp hd
      split at he
      · cases he
        exact ed_op (ed_var (i := 3) rfl hdv) (ed_op (ed_var (i := 0) rfl (dp_mono g _ hm)) ed_int ro_i) (ro_ic (f := fun i j => i.fdiv j) cd)
      · cases he
  have h11 := dp_mono s1 _ h1
  have hm1 := dp_mono s1 _ hm
  have cmn : ((m : Int) + 1) ≠ 0 := by omega
  refine rd_set (K := K) (G := G1) (e := wD (poB m r)) ?_ (fun v4 G2 s2 hv4 => ?_)
  · refine ed_cb (ea_cons (EvN.toD (EvN.cast (en_lcT (i := 3) (fun d => if (toI d).fmod ((m : Int) + 1) < (m : Int) then some (PyData.int ((toI d).fmod ((m : Int) + 1))) else none) (ed_var (i := 1) rfl h11) (fun _ => rfl) lrd (fun d v Gi hd g hdv => ?_) fun d v e Gi hd he g hdv => ?_) (fl (fun i j => i.fmod j) r))) ea_nil) rcl_tupleL
    · obtain ⟨x, hx, rfl⟩ := List.mem_map.mp hd
      refine EvB.cast (eb_test (ed_op (ed_op (ed_var (i := 3) rfl hdv) (ed_op (ed_var (i := 0) rfl (dp_mono g _ hm1)) ed_int ro_i) (ro_ic (f := fun i j => i.fmod j) cmn)) (ed_var (i := 0) rfl (dp_mono g _ hm1)) ro_b)) ?_
      show decide (x.fmod ((m : Int) + 1) < (m : Int)) = (if x.fmod ((m : Int) + 1) < (m : Int) then some (PyData.int (x.fmod ((m : Int) + 1))) else none).isSome
      split
      · rename_i z; rw [decide_eq_true z]; rfl
      · rename_i z; rw [decide_eq_false z]; rfl
    · obtain ⟨x, hx, rfl⟩ := List.mem_map.mp hd
      split at he
      · cases he
        exact ed_op (ed_var (i := 3) rfl hdv) (ed_op (ed_var (i := 0) rfl (dp_mono g _ hm1)) ed_int ro_i) (ro_ic (f := fun i j => i.fmod j) cmn)
      · cases he
  exact rd_ret (ed_tup (ea_cons (ed_var (i := 2) rfl (dp_mono s2 _ hv2)) (ea_cons (ed_var (i := 4) rfl hv4) ea_nil)) (by show 2 ≤ sizeLine; omega))
end
end Gw
namespace Gw
open PySem PySem.Spec PyProof.Rows L2 LamX
/-! ### pair rows, judged -/
def toWs : PyData → List Int | .tuple ds => ds.map toI | _ => []
theorem toWs_ints (ws : List Int) : toWs (.tuple (ws.map .int)) = ws := by
  show (ws.map PyData.int).map toI = ws
  rw [List.map_map]
  exact (List.map_congr_left fun x _ => rfl).trans (List.map_id ws)
theorem row_ints {n : Nat} {x : PyData} (h : isRow n x = true) : ∃ ws : List Int, x = .tuple (ws.map .int) ∧ Letters n ws := by
  cases x with
  | tuple ds =>
    have h : ds.all (inR 0 ((n : Int) - 1)) = true := h
    refine ⟨ds.map toI, ?_, fun y hy => ?_⟩
    · congr 1
      rw [List.map_map]
      refine ((List.map_id ds).symm.trans (List.map_congr_left fun d hd => ?_))
      obtain ⟨i, rfl, _⟩ := inR_int (List.all_eq_true.mp h d hd)
      rfl
    · obtain ⟨d, hd, rfl⟩ := List.mem_map.mp hy
      obtain ⟨i, rfl, h0, h1⟩ := inR_int (List.all_eq_true.mp h d hd)
      show 0 ≤ i ∧ i < (n : Int)
      omega
  | _ => cases h
def isPR (m : Nat) (x : PyData) : Bool := isRow (((m + 1) ^ 2 : Nat) : Int) x && decide (prI m (poA m (toWs x)) (poB m (toWs x)) = toWs x)
theorem poA_len (m : Int) (r : List Int) : (poA m r).length ≤ r.length := by
  unfold poA
  exact Nat.le_trans (List.length_filter_le _ _) (by rw [List.length_map]; exact Nat.le_refl _)
theorem poB_len (m : Int) (r : List Int) : (poB m r).length ≤ r.length := by
  unfold poB
  exact Nat.le_trans (List.length_filter_le _ _) (by rw [List.length_map]; exact Nat.le_refl _)
theorem eqvAll_dec : ∀ a b : List Int, PyData.eqvAll (a.map .int) (b.map .int) = decide (a = b)
  | [], [] => by simp [PyData.eqvAll]
  | [], _ :: _ => by simp [PyData.eqvAll]
  | _ :: _, [] => by simp [PyData.eqvAll]
  | x :: a, y :: b => by
    rw [List.map_cons, List.map_cons, PyData.eqvAll, eqvAll_dec a b, PyData.eqv]
    by_cases h : x = y
    · subst h; simp
    · simp [h]
theorem eqvT (xs ys : List PyData) : PyData.eqv (.tuple xs) (.tuple ys) = PyData.eqvAll xs ys := by rw [PyData.eqv]
section
variable {K : PySem.W.Frag} {σ : L2.St} {G : Hp} {te : TE} {x y d : PyData} {u : TS}
theorem rd_two {i j : Nat} (h : EvD K te σ G (.tuple [x, y])) (h1 : ∀ v w G', Same G G' → Dp K G' v x → Dp K G' w y → RtD K u ((σ.set i (some v)).set j (some w)) G' d) : RtD K (tSeq (tAsg te (gTup K 2 (gCons (gName i) (gCons (gName j) gNil)))) u) σ G d := fun H s D q => h H s _ fun v G1 H1 n1 hv => by
  cases hv with
  | @tup a xs _ hs ha =>
    obtain _ | ⟨e1, _ | ⟨e2, _ | _⟩⟩ := ha
    exact ⟨a, _, rfl, same_tup n1.gh hs, rfl, _, _, rfl, _, _, rfl, rfl, (h1 _ _ G1 n1.gg e1 e2) H1 n1.gh D fun v' G2 H2 n2 hd => q v' G2 H2 (n1.trans n2) hd⟩
end
section
variable {P : Program} {w : World} {K : PySem.W.Frag} {mg : Str → Option Value} {base : Heap} {f : Addr} {fd : FuncData} {CK CW : Addr}
def R_is_row_of_pair : List PyData → PyData → Prop := fun ds d => ∃ (m : Nat) (x : PyData), ds = [.int (m : Int), x] ∧ m ≤ 12 ∧ (∀ ys, x = .tuple ys → ys.length ≤ 100000) ∧ d = .bool (isPR m x)
theorem ok_is_row_of_pair (D : DefAt K mg "is_row_of_pair" s_is_row_of_pair P_is_row_of_pair f fd) (T : Bt mg) (h_is_row : Ok P w K mg base "is_row" P_is_row 3 (SpD K R_is_row)) (h_pair_of_row : Ok P w K mg base "pair_of_row" P_pair_of_row 1 (SpD K R_pair_of_row)) (h_row_of_pair : Ok P w K mg base "row_of_pair" P_row_of_pair 1 (SpD K R_row_of_pair)) : Ok P w K mg base "is_row_of_pair" P_is_row_of_pair 4 (SpD K R_is_row_of_pair) := by
  refine D.ok (okD D.F sc_is_row_of_pair (fun ds d h => ?_) fun cdv A outer s H hr => ?_)
  · obtain ⟨m, x, rfl, _⟩ := h; rfl
  have S := sc_is_row_of_pair
  refine ⟨_, (pss_cons (ps_if (pt_not (pt_val (pe_ok h_is_row (hr.mono (by decide)) (by rfl) (pa_cons (pe_op op_pow (pe_op op_add (pv 0) pe_int) pe_int) (pa_cons (pv 1) pa_nil))))) (pss_one (ps_ret pe_bl)) pss_nil)
  (pss_cons (ps_asg (pe_ok h_pair_of_row (hr.mono (by decide)) (by rfl) (pa_cons (pv 0) (pa_cons (pv 1) pa_nil))) (q_gT K 2 rfl rfl (pgs_cons (pg_name (i := 2) S.nd rfl (by first | exact .inl rfl | exact .inr rfl)) (pgs_cons (pg_name (i := 3) S.nd rfl (by first | exact .inl rfl | exact .inr rfl)) pgs_nil))))
  (pss_one (ps_ret (pe_cmpR (q_eqD K rfl hr.units) (pe_ok h_row_of_pair (hr.mono (by decide)) (by rfl) (pa_cons (pv 0) (pa_cons (pv 2) (pa_cons (pv 3) pa_nil)))) (pv 1) (nomark _)))))), fun G ds d vs hR ha H0 hs D' qq _ => ?_⟩
  obtain ⟨m, x, rfl, lm, hz, rfl⟩ := hR
  obtain _ | ⟨hm, _ | ⟨hx, _ | _⟩⟩ := ha
  have big : 100000 ≤ sizeLine := by decide
  have zx : Sized x := by
    cases x with
    | tuple ys => exact Nat.le_trans (hz ys rfl) big
    | _ => trivial
  have pw : CPow ((m : Int) + 1) 2 := ⟨by decide, by decide, by omega⟩
  have epw : ((m : Int) + 1) ^ (2 : Int).toNat = (((m + 1) ^ 2 : Nat) : Int) := by
    show ((m : Int) + 1) ^ 2 = _
    rw [Int.natCast_pow]
    rfl
  refine (rd_seqIf (b := !isRow (((m + 1) ^ 2 : Nat) : Int) x) (eb_not (eb_B (ed_call (R := R_is_row) (E := E0) (ea_cons (EvD.cast (ed_op (ed_op (ed_var (i := 0) rfl hm) ed_int ro_i) ed_int (ro_ic (f := fun i j => i ^ j.toNat) pw)) (congrArg PyData.int epw)) (ea_cons (ed_var (i := 1) rfl hx) ea_nil)) ⟨_, x, rfl, zx, rfl⟩))) (fun hb => ?_) fun hb => ?_) H0 hs D' qq
  · refine (rd_ret ed_bl).cast ?_
    unfold isPR
    rw [not_t hb]; rfl
  · have hrow := not_f hb
    obtain ⟨r, rfl, lr⟩ := row_ints hrow
    have lr9 : r.length ≤ 100000 := by have := hz _ rfl; rwa [List.length_map] at this
    refine rd_two (x := wD (poA m r)) (y := wD (poB m r)) (ed_call (R := R_pair_of_row) (E := E0) (ea_cons (ed_var (i := 0) rfl hm) (ea_cons (ed_var (i := 1) rfl hx) ea_nil)) ⟨m, r, rfl, lr9, lm, rfl⟩) fun v2 v3 G1 s1 h2 h3 => ?_
    have h9 := poA_len m r
    have h8 := poB_len m r
    refine (rd_ret (ed_op (ed_call (R := R_row_of_pair) (E := E0) (ea_cons (ed_var (i := 0) rfl (dp_mono s1 _ hm)) (ea_cons (ed_var (i := 2) rfl h2) (ea_cons (ed_var (i := 3) rfl h3) ea_nil))) ⟨(m : Int), poA m r, poB m r, rfl, by omega, by omega, by omega, by omega, rfl⟩) (ed_var (i := 1) rfl (dp_mono s1 _ hx)) (ro_eqD (shaped_intsT _) (shaped_intsT _)))).cast ?_
    unfold isPR
    rw [hrow, toWs_ints, eqvT, eqvAll_dec]
    rfl
def spWB (K : PySem.W.Frag) (CK : Addr) : Sp := fun vs H Q E => ∃ (G : Hp) (v : V) (y : PyData), Same G H ∧ vs = [v] ∧ Dp K G v y ∧ Sized y ∧ (isBackD y = true → ∀ G' H', Nx G H G' H' → Q .non H') ∧ (isBackD y = false → ∀ G' H', Nx G H G' H' → E (.ref CK) none H')
theorem ok_want_back (D : DefAt K mg "want_back" s_want_back P_want_back f fd) (T : Bt mg) (e_BadBack : Err K mg "BadBack" CK) (h_is_back : OkF P w K mg base "is_back" s_is_back P_is_back 4 (SpD K R_is_back)) : OkX P w K mg base "want_back" s_want_back P_want_back 5 (spWB K CK) := by
  refine D.okX (D.F.okX sc_want_back (fun vs H Q E h => ?_) fun cdv A outer s H vs Q E hr h => ?_)
  · obtain ⟨G, v, y, _, rfl, _⟩ := h; rfl
  have S := sc_want_back
  obtain ⟨G, v, y, hs, rfl, hv, hz, q1, q2⟩ := h
  refine ⟨_, (pss_one (ps_if (pt_not (pt_val (pe_ok h_is_back.ok (hr.mono (by decide)) (by rfl) (pa_cons (pv 0) pa_nil)))) (pss_one (ps_raise rfl (takes_of rfl rfl rfl rfl) (pmk_own PySem.F.excBase_ValueError e_BadBack.x e_BadBack.g e_BadBack.k (raises_own e_BadBack.b e_BadBack.t) rfl))) pss_nil)), ?_⟩
  refine (eb_not (eb_B (ed_call (R := R_is_back) (E := E0) (ea_cons (ed_var (i := 0) (σ := L2.start N_want_back [v]) rfl hv) ea_nil) ⟨y, rfl, hz, rfl⟩))) H hs _ fun G1 H1 n1 => ?_
  cases hw : isBackD y with
  | true => exact if_off rfl (nx_of (q1 hw G1 H1 n1))
  | false => exact if_on rfl (q2 hw G1 H1 n1)
def spWL (K : PySem.W.Frag) (CW : Addr) : Sp := fun vs H Q E => ∃ (G : Hp) (b v : V) (bs : List Int) (x : PyData), Same G H ∧ vs = [b, v] ∧ Dp K G b (.tuple (bs.map .int)) ∧ Dp K G v x ∧ Sized x ∧ (isRow bs.length x = true → ∀ G' H', Nx G H G' H' → Q .non H') ∧ (isRow bs.length x = false → ∀ G' H', Nx G H G' H' → E (.ref CW) none H')
theorem ok_want_letters (D : DefAt K mg "want_letters" s_want_letters P_want_letters f fd) (T : Bt mg) (e_BadWord : Err K mg "BadWord" CW) (h_is_row : Ok P w K mg base "is_row" P_is_row 3 (SpD K R_is_row)) : OkX P w K mg base "want_letters" s_want_letters P_want_letters 4 (spWL K CW) := by
  refine D.okX (D.F.okX sc_want_letters (fun vs H Q E h => ?_) fun cdv A outer s H vs Q E hr h => ?_)
  · obtain ⟨G, b, v, bs, x, _, rfl, _⟩ := h; rfl
  have S := sc_want_letters
  obtain ⟨G, b, v, bs, x, hs, rfl, hb, hv, hz, q1, q2⟩ := h
  refine ⟨_, (pss_one (ps_if (pt_not (pt_val (pe_ok h_is_row (hr.mono (by decide)) (by rfl) (pa_cons (pe_callB (q_len K rfl) (by rfl) T.len PySem.boot_len (pa_cons (pv 0) pa_nil)) (pa_cons (pv 1) pa_nil))))) (pss_one (ps_raise rfl (takes_of rfl rfl rfl rfl) (pmk_own PySem.F.excBase_ValueError e_BadWord.x e_BadWord.g e_BadWord.k (raises_own e_BadWord.b e_BadWord.t) rfl))) pss_nil)), ?_⟩
  refine (eb_not (eb_B (ed_call (R := R_is_row) (E := E0) (ea_cons (EvD.cast (ed_cb (ea_cons (ed_var (i := 0) (σ := L2.start N_want_letters [b, v]) rfl hb) ea_nil) rcl_len) (by rw [List.length_map])) (ea_cons (ed_var (i := 1) rfl hv) ea_nil)) ⟨(bs.length : Int), x, rfl, hz, rfl⟩))) H hs _ fun G1 H1 n1 => ?_
  cases hw : isRow bs.length x with
  | true => exact if_off rfl (nx_of (q1 hw G1 H1 n1))
  | false => exact if_on rfl (q2 hw G1 H1 n1)
/-- a back, then any value -/
def spIPR (K : PySem.W.Frag) : Sp := fun vs H Q _ => ∃ (G : Hp) (v1 v2 : V) (bs : List Int) (x : PyData), Same G H ∧ vs = [v1, v2] ∧ Dp K G v1 (wD bs) ∧ isBackD (wD bs) = true ∧ bs.length ≤ 12 ∧ Dp K G v2 x ∧ (∀ ys, x = .tuple ys → ys.length ≤ 100000) ∧ ∀ G' H', Nx G H G' H' → Q (.bl (isPR bs.length x)) H'
theorem ok_is_pair_row (D : DefAt K mg "is_pair_row" s_is_pair_row P_is_pair_row f fd) (T : Bt mg) (h_want_back : OkX P w K mg base "want_back" s_want_back P_want_back 5 (spWB K CK)) (h_is_row_of_pair : Ok P w K mg base "is_row_of_pair" P_is_row_of_pair 4 (SpD K R_is_row_of_pair)) : OkX P w K mg base "is_pair_row" s_is_pair_row P_is_pair_row 6 (spIPR K) := by
  refine D.okX (D.F.okX sc_is_pair_row (fun vs H Q E h => ?_) fun cdv A outer s H vs Q E hr h => ?_)
  · obtain ⟨G, v1, v2, bs, x, _, rfl, _⟩ := h; rfl
  have S := sc_is_pair_row
  obtain ⟨G, v1, v2, bs, x, hs, rfl, hb, hy, lb, hx, hz, q⟩ := h
  have big : 100000 ≤ sizeLine := by decide
  have lbd : (bs.map PyData.int).length = bs.length := List.length_map _
  refine ⟨_, (pss_cons (ps_expr (pe_okX h_want_back (passes_call (takes_of rfl rfl rfl rfl) fun _ _ _ _ h => h) (hr.mono (by decide)) (by rfl) (pa_cons (pv 0) pa_nil)))
  (pss_one (ps_ret (pe_ok h_is_row_of_pair (hr.mono (by decide)) (by rfl) (pa_cons (pe_callB (q_len K rfl) (by rfl) T.len PySem.boot_len (pa_cons (pv 0) pa_nil)) (pa_cons (pv 1) pa_nil)))))), ?_⟩
  refine ⟨_, rfl, G, v1, wD bs, hs, rfl, hb, (by show (bs.map PyData.int).length ≤ _; omega), fun _ G1 H1 n1 => ?_, fun z => by rw [hy] at z; cases z⟩
  exact (rd_ret (K := K) (G := G1) (σ := L2.start N_is_pair_row [v1, v2]) (d := .bool (isPR bs.length x)) (ed_call (R := R_is_row_of_pair) (E := E0) (ea_cons (EvD.cast (ed_cb (ea_cons (ed_var (i := 0) rfl (dp_mono n1.gg _ hb)) ea_nil) rcl_len) (congrArg (fun n : Nat => PyData.int (n : Int)) lbd)) (ea_cons (ed_var (i := 1) rfl (dp_mono n1.gg _ hx)) ea_nil)) ⟨bs.length, x, rfl, lb, hz, rfl⟩)) H1 n1.gh _ fun v G2 H2 n2 hd => by rw [dp_bl hd]; exact q G2 H2 (n1.trans n2)
def lenOf : PyData → Nat | .tuple ds => ds.length | _ => 0
def spWO (K : PySem.W.Frag) (CK CW : Addr) : Sp := fun vs H Q E => ∃ (G : Hp) (v1 v2 : V) (y x : PyData), Same G H ∧ vs = [v1, v2] ∧ Dp K G v1 y ∧ Sized y ∧ Dp K G v2 x ∧ (∀ ys, x = .tuple ys → ys.length ≤ 100000) ∧ (isBackD y = false → ∀ G' H', Nx G H G' H' → E (.ref CK) none H') ∧
  (isBackD y = true → (isPR (lenOf y) x = false → ∀ G' H', Nx G H G' H' → E (.ref CW) none H') ∧ (isPR (lenOf y) x = true → ∀ v G' H', Nx G H G' H' → Dp K G' v (.tuple [wD (poA (lenOf y) (toWs x)), wD (poB (lenOf y) (toWs x))]) → Q v H'))
theorem back_len {y : PyData} (h : isBackD y = true) : ∃ ds, y = .tuple ds ∧ ds.length ≤ 12 := by
  cases y with
  | tuple ds =>
    refine ⟨ds, rfl, ?_⟩
    have h : (decide (2 ≤ ds.length) && decide (ds.length ≤ 12) && (ds.all (inR 0 ((ds.length : Int) - 1)) && (ds.mapIdx (bkAt ds)).all id)) = true := h
    rw [Bool.and_eq_true, Bool.and_eq_true, decide_eq_true_eq, decide_eq_true_eq] at h
    exact h.1.2
  | _ => cases h
theorem ok_words_of (D : DefAt K mg "words_of" s_words_of P_words_of f fd) (T : Bt mg) (e_BadWord : Err K mg "BadWord" CW) (h_want_back : OkX P w K mg base "want_back" s_want_back P_want_back 5 (spWB K CK)) (h_is_row_of_pair : Ok P w K mg base "is_row_of_pair" P_is_row_of_pair 4 (SpD K R_is_row_of_pair)) (h_pair_of_row : Ok P w K mg base "pair_of_row" P_pair_of_row 1 (SpD K R_pair_of_row)) : OkX P w K mg base "words_of" s_words_of P_words_of 6 (spWO K CK CW) := by
  refine D.okX (D.F.okX sc_words_of (fun vs H Q E h => ?_) fun cdv A outer s H vs Q E hr h => ?_)
  · obtain ⟨G, v1, v2, y, x, _, rfl, _⟩ := h; rfl
  have S := sc_words_of
  obtain ⟨G, v1, v2, y, x, hs, rfl, hb, zy, hx, hz, q1, q2⟩ := h
  refine ⟨_, (pss_cons (ps_expr (pe_okX h_want_back (passes_call (takes_of rfl rfl rfl rfl) fun _ _ _ _ h => h) (hr.mono (by decide)) (by rfl) (pa_cons (pv 0) pa_nil)))
  (pss_cons (ps_if (pt_not (pt_val (pe_ok h_is_row_of_pair (hr.mono (by decide)) (by rfl) (pa_cons (pe_callB (q_len K rfl) (by rfl) T.len PySem.boot_len (pa_cons (pv 0) pa_nil)) (pa_cons (pv 1) pa_nil))))) (pss_one (ps_raise rfl (takes_of rfl rfl rfl rfl) (pmk_own PySem.F.excBase_ValueError e_BadWord.x e_BadWord.g e_BadWord.k (raises_own e_BadWord.b e_BadWord.t) rfl))) pss_nil)
  (pss_one (ps_ret (pe_ok h_pair_of_row (hr.mono (by decide)) (by rfl) (pa_cons (pe_callB (q_len K rfl) (by rfl) T.len PySem.boot_len (pa_cons (pv 0) pa_nil)) (pa_cons (pv 1) pa_nil))))))), ?_⟩
  refine ⟨_, rfl, G, v1, y, hs, rfl, hb, zy, fun hy G1 H1 n1 => ?_, fun hy G1 H1 n1 => q1 hy G1 H1 n1⟩
  obtain ⟨q3, q4⟩ := q2 hy
  obtain ⟨ds, rfl, l12⟩ := back_len hy
  have hb1 := dp_mono n1.gg _ hb
  have hx1 := dp_mono n1.gg _ hx
  dsimp only
  refine seq_ifB (K := K) (G := G1) (b := !isPR ds.length x) (eb_not (eb_B (ed_call (σ := L2.start N_words_of [v1, v2]) (R := R_is_row_of_pair) (E := E0) (ea_cons (ed_cb (ea_cons (ed_var (i := 0) rfl hb1) ea_nil) rcl_len) (ea_cons (ed_var (i := 1) rfl hx1) ea_nil)) ⟨ds.length, x, rfl, l12, hz, rfl⟩))) n1.gh (fun hp G2 H2 n2 => q3 (not_t hp) G2 H2 (n1.trans n2)) fun hp G2 H2 n2 => ?_
  have hp := not_f hp
  have hp2 := hp
  unfold isPR at hp2
  rw [Bool.and_eq_true] at hp2
  obtain ⟨r, rfl, _⟩ := row_ints hp2.1
  have lr9 : r.length ≤ 100000 := by have := hz _ rfl; rwa [List.length_map] at this
  rw [show lenOf (.tuple ds) = ds.length from rfl, toWs_ints] at q4
  exact (rd_ret (K := K) (G := G2) (σ := L2.start N_words_of [v1, v2]) (ed_call (R := R_pair_of_row) (E := E0) (ea_cons (ed_cb (ea_cons (ed_var (i := 0) rfl (dp_mono n2.gg _ hb1)) ea_nil) rcl_len) (ea_cons (ed_var (i := 1) rfl (dp_mono n2.gg _ hx1)) ea_nil)) ⟨ds.length, r, rfl, lr9, l12, rfl⟩)) H2 n2.gh _ fun v G3 H3 n3 hd => q4 hp v G3 H3 ((n1.trans n2).trans n3) hd
/-- back, one, other -/
def spPRW (K : PySem.W.Frag) (CK CW : Addr) : Sp := fun vs H Q E => ∃ (G : Hp) (v1 v2 v3 : V) (y x1 x2 : PyData), Same G H ∧ vs = [v1, v2, v3] ∧ Dp K G v1 y ∧ Sized y ∧ Dp K G v2 x1 ∧ Sized x1 ∧ Dp K G v3 x2 ∧ Sized x2 ∧ (isBackD y = false → ∀ G' H', Nx G H G' H' → E (.ref CK) none H') ∧
  (∀ bs : List Int, y = wD bs → isBackD y = true → ((isRow bs.length x1 && isRow bs.length x2) = false → ∀ G' H', Nx G H G' H' → E (.ref CW) none H') ∧ (∀ a b : List Int, x1 = wD a → x2 = wD b → isRow bs.length x1 = true → isRow bs.length x2 = true → a.length ≤ 100000 ∧ b.length ≤ 100000 ∧ ∀ v G' H', Nx G H G' H' → Dp K G' v (wD (prI bs.length a b)) → Q v H'))
theorem back_ints {y : PyData} (h : isBackD y = true) : ∃ bs : List Int, y = wD bs ∧ bs.length ≤ 12 := by
  obtain ⟨ds, rfl, l⟩ := back_len h
  have h : (decide (2 ≤ ds.length) && decide (ds.length ≤ 12) && (ds.all (inR 0 ((ds.length : Int) - 1)) && (ds.mapIdx (bkAt ds)).all id)) = true := h
  rw [Bool.and_eq_true, Bool.and_eq_true] at h
  have hr : isRow (ds.length : Int) (.tuple ds) = true := (Bool.and_eq_true _ _ ▸ h.2 : _ ∧ _).1
  obtain ⟨ws, e, _⟩ := row_ints hr
  refine ⟨ws, e, ?_⟩
  have := congrArg lenOf e
  have e2 : ds.length = ws.length := by
    show lenOf (.tuple ds) = _
    rw [e]; show (ws.map PyData.int).length = _; rw [List.length_map]
  omega
theorem ok_pair_row (D : DefAt K mg "pair_row" s_pair_row P_pair_row f fd) (T : Bt mg) (h_want_back : OkX P w K mg base "want_back" s_want_back P_want_back 5 (spWB K CK)) (h_want_letters : OkX P w K mg base "want_letters" s_want_letters P_want_letters 4 (spWL K CW)) (h_row_of_pair : Ok P w K mg base "row_of_pair" P_row_of_pair 1 (SpD K R_row_of_pair)) : OkX P w K mg base "pair_row" s_pair_row P_pair_row 6 (spPRW K CK CW) := by
  refine D.okX (D.F.okX sc_pair_row (fun vs H Q E h => ?_) fun cdv A outer s H vs Q E hr h => ?_)
  · obtain ⟨G, v1, v2, v3, y, x1, x2, _, rfl, _⟩ := h; rfl
  have S := sc_pair_row
  obtain ⟨G, v1, v2, v3, y, x1, x2, hs, rfl, hb, zy, h1, z1, h2, z2, q1, q2⟩ := h
  refine ⟨_, (pss_cons (ps_expr (pe_okX h_want_back (passes_call (takes_of rfl rfl rfl rfl) fun _ _ _ _ h => h) (hr.mono (by decide)) (by rfl) (pa_cons (pv 0) pa_nil)))
  (pss_cons (ps_expr (pe_okX h_want_letters (passes_call (takes_of rfl rfl rfl rfl) fun _ _ _ _ h => h) (hr.mono (by decide)) (by rfl) (pa_cons (pv 0) (pa_cons (pv 1) pa_nil))))
  (pss_cons (ps_expr (pe_okX h_want_letters (passes_call (takes_of rfl rfl rfl rfl) fun _ _ _ _ h => h) (hr.mono (by decide)) (by rfl) (pa_cons (pv 0) (pa_cons (pv 2) pa_nil))))
  (pss_one (ps_ret (pe_ok h_row_of_pair (hr.mono (by decide)) (by rfl) (pa_cons (pe_callB (q_len K rfl) (by rfl) T.len PySem.boot_len (pa_cons (pv 0) pa_nil)) (pa_cons (pv 1) (pa_cons (pv 2) pa_nil))))))))), ?_⟩
  refine ⟨_, rfl, G, v1, y, hs, rfl, hb, zy, fun hy G1 H1 n1 => ?_, fun hy G1 H1 n1 => q1 hy G1 H1 n1⟩
  obtain ⟨bs, rfl, l12⟩ := back_ints hy
  obtain ⟨q3, q4⟩ := q2 bs rfl hy
  have lbd : (bs.map PyData.int).length = bs.length := List.length_map _
  refine ⟨_, rfl, _, rfl, G1, v1, v2, bs, x1, n1.gh, rfl, dp_mono n1.gg _ hb, dp_mono n1.gg _ h1, z1, fun r1 G2 H2 n2 => ?_, fun r1 G2 H2 n2 => q3 (by rw [r1]; rfl) G2 H2 (n1.trans n2)⟩
  have n12 := n1.trans n2
  refine ⟨_, rfl, _, rfl, G2, v1, v3, bs, x2, n2.gh, rfl, dp_mono n12.gg _ hb, dp_mono n12.gg _ h2, z2, fun r2 G3 H3 n3 => ?_, fun r2 G3 H3 n3 => q3 (by rw [r2, Bool.and_false]) G3 H3 (n12.trans n3)⟩
  have n13 := n12.trans n3
  obtain ⟨a, rfl, la⟩ := row_ints r1
  obtain ⟨b, rfl, lb⟩ := row_ints r2
  obtain ⟨l1, l2, q5⟩ := q4 a b rfl rfl r1 r2
  exact (rd_ret (K := K) (G := G3) (σ := L2.start N_pair_row [v1, v2, v3]) (ed_call (R := R_row_of_pair) (E := E0) (ea_cons (EvD.cast (ed_cb (ea_cons (ed_var (i := 0) rfl (dp_mono n13.gg _ hb)) ea_nil) rcl_len) (congrArg (fun n : Nat => PyData.int (n : Int)) lbd)) (ea_cons (ed_var (i := 1) rfl (dp_mono n13.gg _ h1)) (ea_cons (ed_var (i := 2) rfl (dp_mono n13.gg _ h2)) ea_nil))) ⟨(bs.length : Int), a, b, rfl, l1, l2, by omega, by omega, rfl⟩)) H3 n13.gh _ fun v G4 H4 n4 hd => q5 v G4 H4 (n13.trans n4) hd
end
end Gw
namespace Gw
open PySem PySem.Spec PyProof.Rows L2 LamX
/-! ### an object that is being made: it stands in the heap, not in the view -/
structure No (g : Addr) (G H G' H' : Hp) : Prop where
  gg : Same G G'
  gh : Same G' H'
  hh : ∀ a o, a ≠ g → H a = some o → H' a = some o
  fr : ∀ a, H a ≠ none → G' a = G a
section
variable {K : PySem.W.Frag} {CG g dx : Addr} {σ : L2.St} {G H G1 H1 G2 H2 : Hp} {te : TE} {d : PyData} {f : Str} {fs : List (Str × V)}
theorem No.of (n : Nx G H G1 H1) : No g G H G1 H1 := ⟨n.gg, n.gh, fun a o _ e => n.hh a o e, n.fr⟩
theorem No.trans (a : No g G H G1 H1) (b : No g G1 H1 G2 H2) (hg : ∀ o, H g = some o → H1 g ≠ none) : No g G H G2 H2 := by
  refine ⟨a.gg.trans b.gg, b.gh, fun x o n e => b.hh x o n (a.hh x o n e), fun x hx => (b.fr x ?_).trans (a.fr x hx)⟩
  cases hxo : H x with
  | none => exact absurd hxo hx
  | some o =>
    by_cases hxg : x = g
    · subst hxg; exact hg o hxo
    · rw [a.hh x o hxg hxo]; exact fun z => nomatch z
theorem off_same {o : HO} (s : Same G H) (g0 : G g = none) : Same G (upd H g o) := fun a u z => (upd_ne (fun w => by rw [w, g0] at z; cases z)).trans (s a u z)
theorem asg_fld {D : Ends} (h : EvD K te σ G d) (s : Same G H) (g0 : G g = none) (hg : H g = some (.ins CG dx fs)) (hσ : σ[0]? = some (some (.ref g))) (cl : Cls K CG) (na : NoAttr K CG f) (hz : fs.length < 1000)
    (k : ∀ v G1 H1, No g G H G1 H1 → G1 g = none → H1 g = some (.ins CG dx (putF f v fs)) → Dp K G1 v d → D.nx σ H1) : sFld K (tVar 0) te f D σ H := h H s _ fun v G1 H1 n1 hd => by
  have g1 : G1 g = none := (n1.fr g (ne_none hg)).trans g0
  exact ⟨_, hσ, g, CG, dx, fs, rfl, n1.hh _ _ hg, cl, na, hz, k v G1 _ ⟨n1.gg, off_same n1.gh g1, fun a o n e => (upd_ne n).trans (n1.hh a o e), n1.fr⟩ g1 upd_same hd⟩
theorem seq_fld {u : TS} {D : Ends} (h : EvD K te σ G d) (s : Same G H) (g0 : G g = none) (hg : H g = some (.ins CG dx fs)) (hσ : σ[0]? = some (some (.ref g))) (cl : Cls K CG) (na : NoAttr K CG f) (hz : fs.length < 1000)
    (k : ∀ v G1 H1, No g G H G1 H1 → G1 g = none → H1 g = some (.ins CG dx (putF f v fs)) → Dp K G1 v d → u D σ H1) : tSeq (sFld K (tVar 0) te f) u D σ H := asg_fld (D := { D with nx := u D }) h s g0 hg hσ cl na hz k
/-- made at a new place -/
theorem obj_made {a : Addr} {o : HO} (s : Same G H) (ha : H a = none) (hdx : H dx = none) (hne : dx ≠ a) (n : No a G (upd (upd H dx (.own a)) a o) G1 H1) {fs : List (Str × V)} (e1 : H1 a = some (.ins CG dx fs)) : Nx G H (upd G1 a (.ins CG dx fs)) H1 ∧ Same G1 (upd G1 a (.ins CG dx fs)) := by
  have na : G1 a = none := (n.fr a (ne_none upd_same)).trans (s.free ha)
  have sG := same_upd (o := .ins CG dx fs) na
  have s1 := same_upd (o := .own a) hdx
  refine ⟨⟨n.gg.trans sG, fun b u e => ?_, fun b u e => ?_, fun b nb => ?_⟩, sG⟩
  · by_cases hba : b = a
    · subst hba
      rw [upd_same] at e
      rw [← Option.some.inj e]; exact e1
    · rw [upd_ne hba] at e
      exact n.gh _ _ e
  · have hba : b ≠ a := ne_of_none e ha
    exact n.hh b u hba ((upd_ne hba).trans (s1 _ _ e))
  · have hba : b ≠ a := fun z => nb (by rw [z]; exact ha)
    rw [upd_ne hba]
    refine n.fr b ?_
    rw [upd_ne hba]
    by_cases hbd : b = dx
    · exact absurd (hbd ▸ hdx) nb
    · rw [upd_ne hbd]; exact nb
end
end Gw
namespace Gw
open PySem PySem.Spec PyProof.Rows L2 LamX
/-! ### machines -/
def oD : Option Nat → PyData | none => .none | some k => .int (k : Int)
def wayL (w : List (Option Nat)) : PyData := .list (w.map oD)
def wayT (w : List (Option Nat)) : PyData := .tuple (w.map oD)
abbrev nsD (es : List Nat) : List PyData := es.map fun (k : Nat) => PyData.int (k : Int)
structure WOk (L n : Nat) (w : List (Option Nat)) : Prop where
  l : w.length = L
  s : ∀ k, some k ∈ w → k < n
structure MOk (L : Nat) (ws : List (List (Option Nat))) (es : List Nat) : Prop where
  l1 : 1 ≤ L
  l2 : L ≤ 169
  n1 : 1 ≤ ws.length
  n2 : ws.length ≤ 2000
  w : ∀ w ∈ ws, WOk L ws.length w
  e : ∀ k ∈ es, k < ws.length
  a : ∀ i, i + 1 < es.length → es.getD i 0 < es.getD (i + 1) 0
  z : es.length ≤ 2000
section
variable {P : Program} {w : World} {K : PySem.W.Frag} {mg : Str → Option Value} {base : Heap} {f : Addr} {fd : FuncData}
theorem all_true {α : Type} (l : List α) : (l.map fun _ => true).all id = true := by
  rw [List.all_eq_true]
  intro x hx
  obtain ⟨_, _, rfl⟩ := List.mem_map.mp hx
  rfl
theorem map_const {l : List PyData} : (l.map fun _ => PyData.bool true) = (l.map fun _ => true).map .bool := by rw [List.map_map]; rfl
def R_is_way : List PyData → PyData → Prop := fun ds d => ∃ (L n : Nat) (w : List (Option Nat)), ds = [.int (L : Int), .int (n : Int), wayL w] ∧ WOk L n w ∧ L ≤ 1000 ∧ d = .bool true
theorem ok_is_way (D : DefAt K mg "is_way" s_is_way P_is_way f fd) (T : Bt mg) (h_is_number_in : Ok P w K mg base "is_number_in" P_is_number_in 2 (SpD K R_is_number_in)) (h_is_list : Ok P w K mg base "is_list" P_is_list 1 (spIsL K)) : Ok P w K mg base "is_way" P_is_way 3 (SpD K R_is_way) := by
  refine D.ok (okD D.F sc_is_way (fun ds d h => ?_) fun cdv A outer s H hr => ?_)
  · obtain ⟨L, n, w, rfl, _⟩ := h; rfl
  have S := sc_is_way
  refine ⟨_, (pss_cons (ps_if (PW.pt (pw_or (pt_not (pt_val (pe_ok h_is_list (hr.mono (by decide)) (by rfl) (pa_cons (pv 2) pa_nil)))) (pw_or1 (pt_cmpR op_ne (pe_callB (q_len K rfl) (by rfl) T.len PySem.boot_len (pa_cons (pv 2) pa_nil)) (pv 0) (nomark _))))) (pss_one (ps_ret pe_bl)) pss_nil)
  (pss_one (ps_ret (pe_callB (q_all K rfl rfl) (by rfl) T.all (by decide +kernel) (pa_cons (pe_lc (own := [("to", 3)]) (g := gName 3) (by rfl) S.nd  (q_iE K rfl (pv 2)) (blkOk_by (N := N_is_way) (sc := defScope s_is_way) (by decide +kernel)) (fun _ _ _ _ _ => (pg_name (i := 3) S.nd rfl (by first | exact .inl rfl | exact .inr rfl))) (fun _ _ _ _ _ => pts_nil) (fun _ _ _ _ _ => (pe_or (pe_cmpR op_isN (pv 3) pe_non (nomark _)) (pe_one (pe_ok h_is_number_in (hr.mono (by decide)) (by rfl) (pa_cons (pv 3) (pa_cons pe_int (pa_cons (pe_op op_sub (pv 1) pe_int) pa_nil)))))))) pa_nil))))), fun G ds d vs hR ha H0 hs D' qq _ => ?_⟩
  obtain ⟨L, n, w, rfl, W, lL, rfl⟩ := hR
  obtain _ | ⟨h0, _ | ⟨h1, _ | ⟨h2, _ | _⟩⟩⟩ := ha
  have big : 100000 ≤ sizeLine := by decide
  have lw : (w.map oD).length = L := by rw [List.length_map, W.l]
  refine (rd_seqIf (b := false) (EvB.cast (eb_or (a := false) (b := false) (EvB.cast (eb_not (eb_B (ed_isL (i := 2) rfl (.inl h2)))) rfl) fun _ => EvB.cast (eb_test (ed_op (EvD.cast (ed_cb (ea_cons (ed_var (i := 2) rfl h2) ea_nil) rcl_lenL) (congrArg (fun n : Nat => PyData.int (n : Int)) lw)) (ed_var (i := 0) rfl h0) ro_neI)) (by simp)) rfl) (fun z => nomatch z) fun _ => ?_) H0 hs D' qq
  refine rd_ret (EvD.cast (ed_cb (ea_cons (EvN.toD (EvN.cast (en_iL (en_lcL1 (i := 3) (fun _ => .bool true) (ed_var (i := 2) rfl h2) (fun _ => rfl) (by omega) fun d v Gi hd g hdv => ?_)) map_const)) ea_nil) rcl_all) (by rw [all_true]))
  obtain ⟨o, ho, rfl⟩ := List.mem_map.mp hd
  cases o with
  | none => exact EvD.cast (ed_or (a := true) (b := true) (ed_op (ed_var (i := 3) rfl hdv) ed_non (fun G H s vx vy hx hy Q q => by rw [dp_non hx, dp_non hy]; exact ⟨rfl, q _ G H (Nx.refl s) (.bl _)⟩)) fun z => nomatch z) rfl
  | some k =>
    have hk := W.s k ho
    refine EvD.cast (ed_or (a := false) (b := inR 0 ((n : Int) - 1) (.int (k : Int))) (ed_op (ed_var (i := 3) rfl hdv) ed_non (fun G H s vx vy hx hy Q q => by rw [dp_int hx, dp_non hy]; exact ⟨rfl, q _ G H (Nx.refl s) (.bl _)⟩)) fun _ => ed_call (R := R_is_number_in) (E := E0) (ea_cons (ed_var (i := 3) rfl hdv) (ea_cons ed_int (ea_cons (ed_op (ed_var (i := 1) rfl (dp_mono g _ h1)) ed_int ro_i) ea_nil))) ⟨_, 0, (n : Int) - 1, rfl, rfl⟩) ?_
    show PyData.bool (false || (decide ((0 : Int) ≤ (k : Int)) && decide ((k : Int) ≤ (n : Int) - 1))) = .bool true
    rw [decide_eq_true (by omega : (0 : Int) ≤ (k : Int)), decide_eq_true (by omega : (k : Int) ≤ (n : Int) - 1)]
    rfl
def R_are_ways : List PyData → PyData → Prop := fun ds d => ∃ (L : Nat) (ws : List (List (Option Nat))), ds = [.int (L : Int), .list (ws.map wayL)] ∧ 1 ≤ ws.length ∧ ws.length ≤ 2000 ∧ (∀ w ∈ ws, WOk L ws.length w) ∧ L ≤ 1000 ∧ d = .bool true
theorem ok_are_ways (D : DefAt K mg "are_ways" s_are_ways P_are_ways f fd) (T : Bt mg) {t2k : Tok} (c_MOST_STATES : mg "MOST_STATES" = some (.int 2000 t2k)) (h_is_list : Ok P w K mg base "is_list" P_is_list 1 (spIsL K)) (h_is_way : Ok P w K mg base "is_way" P_is_way 3 (SpD K R_is_way)) : Ok P w K mg base "are_ways" P_are_ways 4 (SpD K R_are_ways) := by
  refine D.ok (okD D.F sc_are_ways (fun ds d h => ?_) fun cdv A outer s H hr => ?_)
  · obtain ⟨L, ws, rfl, _⟩ := h; rfl
  have S := sc_are_ways
  refine ⟨_, (pss_cons (ps_if (PW.pt (pw_or (pt_not (pt_val (pe_ok h_is_list (hr.mono (by decide)) (by rfl) (pa_cons (pv 1) pa_nil)))) (pw_or1 (pt_not (pt_chain op_le op_le pe_int (pe_callB (q_len K rfl) (by rfl) T.len PySem.boot_len (pa_cons (pv 1) pa_nil)) (pe_glob (v := .int 2000) (by rfl) c_MOST_STATES ⟨_, rfl⟩)))))) (pss_one (ps_ret pe_bl)) pss_nil)
  (pss_one (ps_ret (pe_callB (q_all K rfl rfl) (by rfl) T.all (by decide +kernel) (pa_cons (pe_lc (own := [("way", 2)]) (g := gName 2) (by rfl) S.nd  (q_iE K rfl (pv 1)) (blkOk_by (N := N_are_ways) (sc := defScope s_are_ways) (by decide +kernel)) (fun _ _ _ _ _ => (pg_name (i := 2) S.nd rfl (by first | exact .inl rfl | exact .inr rfl))) (fun _ _ _ _ _ => pts_nil) (fun _ _ _ _ _ => (pe_ok h_is_way (hr.mono (by decide)) (by rfl) (pa_cons (pv 0) (pa_cons (pe_callB (q_len K rfl) (by rfl) T.len PySem.boot_len (pa_cons (pv 1) pa_nil)) (pa_cons (pv 2) pa_nil)))))) pa_nil))))), fun G ds d vs hR ha H0 hs D' qq _ => ?_⟩
  obtain ⟨L, ws, rfl, n1, n2, W, lL, rfl⟩ := hR
  obtain _ | ⟨h0, _ | ⟨h1, _ | _⟩⟩ := ha
  have big : 100000 ≤ sizeLine := by decide
  have lw : (ws.map wayL).length = ws.length := List.length_map _
  have hlen : ∀ {σ : L2.St} {Gi : Hp} {v : V}, σ[1]? = some (some v) → Dp K Gi v (.list (ws.map wayL)) → EvD K (tCB (rLenQ K) (tCons (tVar 1) tNil)) σ Gi (.int (ws.length : Int)) := fun {σ Gi v} h hd => EvD.cast (ed_cb (ea_cons (ed_var (i := 1) h hd) ea_nil) rcl_lenL) (congrArg (fun n : Nat => PyData.int (n : Int)) lw)
  refine (rd_seqIf (b := false) (EvB.cast (eb_or (a := false) (b := false) (EvB.cast (eb_not (eb_B (ed_isL (i := 1) rfl (.inl h1)))) rfl) fun _ => EvB.cast (eb_not (eb_test (ed_chain ed_int (hlen rfl h1) (ro_b (f := fun i j => decide (i ≤ j))) (fun _ => ed_int) fun _ => (ro_b (f := fun i j => decide (i ≤ j)))))) (by rw [decide_eq_true (by omega : (1 : Int) ≤ (ws.length : Int)), decide_eq_true (by omega : (ws.length : Int) ≤ 2000)]; rfl)) rfl) (fun z => nomatch z) fun _ => ?_) H0 hs D' qq
  refine rd_ret (EvD.cast (ed_cb (ea_cons (EvN.toD (EvN.cast (en_iL (en_lcL1 (i := 2) (fun _ => .bool true) (ed_var (i := 1) rfl h1) (fun _ => rfl) (by omega) fun d v Gi hd g hdv => ?_)) map_const)) ea_nil) rcl_all) (by rw [all_true]))
  obtain ⟨o, ho, rfl⟩ := List.mem_map.mp hd
  exact ed_call (R := R_is_way) (E := E0) (ea_cons (ed_var (i := 0) rfl (dp_mono g _ h0)) (ea_cons (hlen rfl (dp_mono g _ h1)) (ea_cons (ed_var (i := 2) rfl hdv) ea_nil))) ⟨L, ws.length, o, rfl, W o ho, lL, rfl⟩
def R_are_ends : List PyData → PyData → Prop := fun ds d => ∃ (n : Nat) (es : List Nat), ds = [.int (n : Int), .list (nsD es)] ∧ (∀ k ∈ es, k < n) ∧ (∀ i, i + 1 < es.length → es.getD i 0 < es.getD (i + 1) 0) ∧ es.length ≤ 2000 ∧ d = .bool true
theorem ok_are_ends (D : DefAt K mg "are_ends" s_are_ends P_are_ends f fd) (T : Bt mg) (h_is_list : Ok P w K mg base "is_list" P_is_list 1 (spIsL K)) (h_is_number_in : Ok P w K mg base "is_number_in" P_is_number_in 2 (SpD K R_is_number_in)) : Ok P w K mg base "are_ends" P_are_ends 4 (SpD K R_are_ends) := by
  refine D.ok (okD D.F sc_are_ends (fun ds d h => ?_) fun cdv A outer s H hr => ?_)
  · obtain ⟨n, es, rfl, _⟩ := h; rfl
  have S := sc_are_ends
  refine ⟨_, (pss_cons (ps_if (PW.pt (pw_or (pt_not (pt_val (pe_ok h_is_list (hr.mono (by decide)) (by rfl) (pa_cons (pv 1) pa_nil)))) (pw_or1 (pt_not (pt_val (pe_callB (q_all K rfl rfl) (by rfl) T.all (by decide +kernel) (pa_cons (pe_lc (own := [("end", 2)]) (g := gName 2) (by rfl) S.nd  (q_iE K rfl (pv 1)) (blkOk_by (N := N_are_ends) (sc := defScope s_are_ends) (by decide +kernel)) (fun _ _ _ _ _ => (pg_name (i := 2) S.nd rfl (by first | exact .inl rfl | exact .inr rfl))) (fun _ _ _ _ _ => pts_nil) (fun _ _ _ _ _ => (pe_ok h_is_number_in (hr.mono (by decide)) (by rfl) (pa_cons (pv 2) (pa_cons pe_int (pa_cons (pe_op op_sub (pv 0) pe_int) pa_nil)))))) pa_nil))))))) (pss_one (ps_ret pe_bl)) pss_nil)
  (pss_one (ps_ret (pe_callB (q_all K rfl rfl) (by rfl) T.all (by decide +kernel) (pa_cons (pe_lc (own := [("k", 3)]) (g := gName 3) (by rfl) S.nd  (pi_range1 (by rfl) T.range (pa_cons (pe_op op_sub (pe_callB (q_len K rfl) (by rfl) T.len PySem.boot_len (pa_cons (pv 1) pa_nil)) pe_int) pa_nil)) (blkOk_by (N := N_are_ends) (sc := defScope s_are_ends) (by decide +kernel)) (fun _ _ _ _ _ => (pg_name (i := 3) S.nd rfl (by first | exact .inl rfl | exact .inr rfl))) (fun _ _ _ _ _ => pts_nil) (fun _ _ _ _ _ => (pe_cmpR op_lt (pe_ix (q_ixL K rfl) (pv 1) (pv 3) (fun _ _ => rfl)) (pe_ix (q_ixL K rfl) (pv 1) (pe_op op_add (pv 3) pe_int) (fun _ _ => rfl)) (nomark _)))) pa_nil))))), fun G ds d vs hR ha H0 hs D' qq _ => ?_⟩
  obtain ⟨n, es, rfl, hE, hA, lE, rfl⟩ := hR
  obtain _ | ⟨h0, _ | ⟨h1, _ | _⟩⟩ := ha
  have big : 100000 ≤ sizeLine := by decide
  have le : (nsD es).length = es.length := List.length_map _
  have hlen : ∀ {σ : L2.St} {Gi : Hp} {v : V}, σ[1]? = some (some v) → Dp K Gi v (.list (nsD es)) → EvD K (tCB (rLenQ K) (tCons (tVar 1) tNil)) σ Gi (.int (es.length : Int)) := fun {σ Gi v} h hd => EvD.cast (ed_cb (ea_cons (ed_var (i := 1) h hd) ea_nil) rcl_lenL) (congrArg (fun n : Nat => PyData.int (n : Int)) le)
  refine (rd_seqIf (b := false) (EvB.cast (eb_or (a := false) (b := false) (EvB.cast (eb_not (eb_B (ed_isL (i := 1) rfl (.inl h1)))) rfl) fun _ => EvB.cast (eb_not (eb_B (EvD.cast (ed_cb (ea_cons (EvN.toD (EvN.cast (en_iL (en_lcL1 (i := 2) (fun _ => .bool true) (ed_var (i := 1) rfl h1) (fun _ => rfl) (by omega) fun d v Gi hd g hdv => ?_)) map_const)) ea_nil) rcl_all) (by rw [all_true])))) rfl) rfl) (fun z => nomatch z) fun _ => ?_) H0 hs D' qq
  · obtain ⟨k, hk, rfl⟩ := List.mem_map.mp hd
    have hkn := hE k hk
    refine EvD.cast (ed_call (R := R_is_number_in) (E := E0) (ea_cons (ed_var (i := 2) rfl hdv) (ea_cons ed_int (ea_cons (ed_op (ed_var (i := 0) rfl (dp_mono g _ h0)) ed_int ro_i) ea_nil))) ⟨_, 0, (n : Int) - 1, rfl, rfl⟩) ?_
    show PyData.bool (decide ((0 : Int) ≤ (k : Int)) && decide ((k : Int) ≤ (n : Int) - 1)) = .bool true
    rw [decide_eq_true (by omega : (0 : Int) ≤ (k : Int)), decide_eq_true (by omega : (k : Int) ≤ (n : Int) - 1)]
    rfl
  · have mc : ∀ l : List Nat, (l.map fun _ => PyData.bool true) = (l.map fun _ => true).map .bool := fun l => by rw [List.map_map]; rfl
    refine rd_ret (EvD.cast (ed_cb (ea_cons (EvN.toD (EvN.cast (en_lcR1 (i := 3) (m := (es.length : Int) - 1) (fun _ => .bool true) (ed_op (hlen rfl h1) ed_int ro_i) (fun _ => rfl) (by omega) (by omega) fun k Gi hk g => ?_) (mc _))) ea_nil) rcl_all) (by rw [all_true]))
    have hk1 : k + 1 < es.length := by omega
    have at1 : ∀ i, i < es.length → (nsD es)[i]? = some (.int ((es.getD i 0 : Nat) : Int)) := fun i hi => by
      rw [List.getElem?_map, List.getElem?_eq_getElem hi, List.getD_eq_getElem?_getD, List.getElem?_eq_getElem hi]; rfl
    have h1i := dp_mono g _ h1
    refine EvD.cast (ed_op (ed_op (ed_var (i := 1) rfl h1i) (ed_var (i := 3) rfl (.int (k : Int))) (ro_ixL (k := k) rfl (at1 k (by omega)))) (ed_op (ed_var (i := 1) rfl h1i) (ed_op (ed_var (i := 3) rfl (.int (k : Int))) ed_int ro_i) (ro_ixL (k := k + 1) (by omega) (at1 (k + 1) hk1))) (ro_b (f := fun i j => decide (i < j)))) ?_
    have := hA k hk1
    rw [decide_eq_true (by omega)]
end
end Gw
namespace Gw
open PySem PySem.Spec PyProof.Rows L2 LamX
/-! ### machines made -/
def itemsOf : PyData → List PyData | .list ds => ds | .tuple ds => ds | _ => []
def mF (a b c : V) : List (Str × V) := [(("letters" : Str), a), (("ways" : Str), b), (("ends" : Str), c)]
def MacAt (K : PySem.W.Frag) (CG : Addr) (G : Hp) (g : Addr) (L : Nat) (ws : List (List (Option Nat))) (es : List Nat) : Prop := ∃ dx v1 v2 v3, G g = some (.ins CG dx (mF v1 v2 v3)) ∧ Dp K G v1 (.int (L : Int)) ∧ Dp K G v2 (.tuple (ws.map wayT)) ∧ Dp K G v3 (.tuple (nsD es))
theorem MacAt.mono {K : PySem.W.Frag} {CG : Addr} {G G' : Hp} {g : Addr} {L : Nat} {ws : List (List (Option Nat))} {es : List Nat} (h : MacAt K CG G g L ws es) (s : Same G G') : MacAt K CG G' g L ws es := by
  obtain ⟨dx, v1, v2, v3, h0, h1, h2, h3⟩ := h
  exact ⟨dx, v1, v2, v3, s _ _ h0, dp_mono s _ h1, dp_mono s _ h2, dp_mono s _ h3⟩
def spMI (K : PySem.W.Frag) (CG : Addr) : Sp := fun vs H Q _ => ∃ (G : Hp) (g dx : Addr) (vl vw ve : V) (L : Nat) (ws : List (List (Option Nat))) (es : List Nat), Same G H ∧ vs = [.ref g, vl, vw, ve] ∧ G g = none ∧ H g = some (.ins CG dx []) ∧ Dp K G vl (.int (L : Int)) ∧ Dp K G vw (.list (ws.map wayL)) ∧ Dp K G ve (.list (nsD es)) ∧ MOk L ws es ∧
  ∀ v1 v2 v3 G' H', No g G H G' H' → G' g = none → H' g = some (.ins CG dx (mF v1 v2 v3)) → Dp K G' v1 (.int (L : Int)) → Dp K G' v2 (.tuple (ws.map wayT)) → Dp K G' v3 (.tuple (nsD es)) → Q .non H'
section
variable {P : Program} {w : World} {K : PySem.W.Frag} {mg : Str → Option Value} {base : Heap} {f : Addr} {fd : FuncData} {CG CB fB : Addr}
theorem ok_Machineinit (F : Fun K "__init__" "Machine.__init__" s_Machineinit f fd) (T : Bt mg) (t_BadMachine : PySem.SupX.SupTxt P K mg "BadMachine" "part" CB fB) (cl : Cls K CG) (nl : NoAttr K CG "letters") (nw : NoAttr K CG "ways") (ne : NoAttr K CG "ends") {t169 : Tok} (c_MOST_READ : mg "MOST_READ" = some (.int 169 t169))
    (h_is_number_in : Ok P w K mg base "is_number_in" P_is_number_in 2 (SpD K R_is_number_in)) (h_are_ways : Ok P w K mg base "are_ways" P_are_ways 4 (SpD K R_are_ways)) (h_are_ends : Ok P w K mg base "are_ends" P_are_ends 4 (SpD K R_are_ends)) : FnOk P w K mg base (L2.CX P w) 5 f fd P_Machineinit (spMI K CG) := by
  refine F.okX sc_Machineinit (fun vs H Q E h => ?_) fun cdv A outer s H vs Q E hr h => ?_
  · obtain ⟨G, g, dx, vl, vw, ve, L, ws, es, _, rfl, _⟩ := h; rfl
  have S := sc_Machineinit
  obtain ⟨G, g, dx, vl, vw, ve, L, ws, es, hs, rfl, g0, hg, h1, h2, h3, M, q⟩ := h
  refine ⟨_, (pss_cons (ps_if (pt_not (pt_val (pe_ok h_is_number_in (hr.mono (by decide)) (by rfl) (pa_cons (pv 1) (pa_cons pe_int (pa_cons (pe_glob (v := .int 169) (by rfl) c_MOST_READ ⟨_, rfl⟩) pa_nil)))))) (pss_one (ps_raise rfl (takes_of rfl rfl rfl rfl) (pmk_sup t_BadMachine hr (pa_cons pe_str pa_nil) (by rfl)))) pss_nil)
  (pss_cons (ps_if (pt_not (pt_val (pe_ok h_are_ways (hr.mono (by decide)) (by rfl) (pa_cons (pv 1) (pa_cons (pv 2) pa_nil))))) (pss_one (ps_raise rfl (takes_of rfl rfl rfl rfl) (pmk_sup t_BadMachine hr (pa_cons pe_str pa_nil) (by rfl)))) pss_nil)
  (pss_cons (ps_if (pt_not (pt_val (pe_ok h_are_ends (hr.mono (by decide)) (by rfl) (pa_cons (pe_callB (q_len K rfl) (by rfl) T.len PySem.boot_len (pa_cons (pv 2) pa_nil)) (pa_cons (pv 3) pa_nil))))) (pss_one (ps_raise rfl (takes_of rfl rfl rfl rfl) (pmk_sup t_BadMachine hr (pa_cons pe_str pa_nil) (by rfl)))) pss_nil)
  (pss_cons (ps_fld (pv 0) (pv 1) rfl)
  (pss_cons (ps_fld (pv 0) (pe_callTy (q_tuple K rfl) (by rfl) T.tuple (by decide +kernel) (pa_cons (pe_lc (own := [("way", 4)]) (g := gName 4) (by rfl) S.nd  (q_iE K rfl (pv 2)) (blkOk_by (N := N_Machineinit) (sc := defScope s_Machineinit) (by decide +kernel)) (fun _ _ _ _ _ => (pg_name (i := 4) S.nd rfl (by first | exact .inl rfl | exact .inr rfl))) (fun _ _ _ _ _ => pts_nil) (fun _ _ _ _ _ => (pe_callTy (q_tuple K rfl) (by rfl) T.tuple (by decide +kernel) (pa_cons (pv 4) pa_nil)))) pa_nil)) rfl)
  (pss_one (ps_fld (pv 0) (pe_callTy (q_tuple K rfl) (by rfl) T.tuple (by decide +kernel) (pa_cons (pv 3) pa_nil)) rfl))))))), ?_⟩
  have big : 100000 ≤ sizeLine := by decide
  have l2 := M.l2
  have l1 := M.l1
  have lws : (ws.map wayL).length = ws.length := List.length_map _
  have n2 := M.n2
  -- checks
  refine seq_chk (K := K) (G := G) (EvB.cast (eb_not (eb_B (ed_call (σ := L2.start N_Machineinit [.ref g, vl, vw, ve]) (R := R_is_number_in) (E := E0) (ea_cons (ed_var (i := 1) rfl h1) (ea_cons ed_int (ea_cons ed_int ea_nil))) ⟨_, 1, 169, rfl, rfl⟩))) (by
    show (!(decide ((1 : Int) ≤ (L : Int)) && decide ((L : Int) ≤ 169))) = false
    rw [decide_eq_true (by omega : (1 : Int) ≤ (L : Int)), decide_eq_true (by omega : (L : Int) ≤ 169)]; rfl)) hs fun G1 H1 m1 => ?_
  refine seq_chk (K := K) (G := G1) (EvB.cast (eb_not (eb_B (ed_call (σ := L2.start N_Machineinit [.ref g, vl, vw, ve]) (R := R_are_ways) (E := E0) (ea_cons (ed_var (i := 1) rfl (dp_mono m1.gg _ h1)) (ea_cons (ed_var (i := 2) rfl (dp_mono m1.gg _ h2)) ea_nil)) ⟨L, ws, rfl, M.n1, M.n2, M.w, by omega, rfl⟩))) rfl) m1.gh fun G2 H2 m2 => ?_
  have m12 := m1.trans m2
  refine seq_chk (K := K) (G := G2) (EvB.cast (eb_not (eb_B (ed_call (σ := L2.start N_Machineinit [.ref g, vl, vw, ve]) (R := R_are_ends) (E := E0) (ea_cons (EvD.cast (ed_cb (ea_cons (ed_var (i := 2) rfl (dp_mono m12.gg _ h2)) ea_nil) rcl_lenL) (congrArg (fun n : Nat => PyData.int (n : Int)) lws)) (ea_cons (ed_var (i := 3) rfl (dp_mono m12.gg _ h3)) ea_nil)) ⟨ws.length, es, rfl, M.e, M.a, M.z, rfl⟩))) rfl) m2.gh fun G3 H3 m3 => ?_
  have m13 := m12.trans m3
  have g3 : G3 g = none := (m13.fr g (ne_none hg)).trans g0
  have hg3 := m13.hh _ _ hg
  -- fields
  refine seq_fld (K := K) (CG := CG) (G := G3) (ed_var (i := 1) rfl (dp_mono m13.gg _ h1)) m13.gh g3 hg3 rfl cl nl (by decide) fun v1 G4 H4 m4 g4 hg4 hv1 => ?_
  have h24 := dp_mono (m13.gg.trans m4.gg) _ h2
  have h34 := dp_mono (m13.gg.trans m4.gg) _ h3
  refine seq_fld (K := K) (CG := CG) (G := G4) (d := .tuple (ws.map wayT)) (ed_cb (ea_cons (EvN.toD (EvN.cast (en_iL (en_lcL1 (i := 4) (fun d => .tuple (itemsOf d)) (ed_var (i := 2) rfl h24) (fun _ => rfl) (by omega) fun d v Gi hd g hdv => ?_)) (by rw [List.map_map]; rfl))) ea_nil) rcl_tupleL) m4.gh g4 hg4 rfl cl nw (by show 1 < 1000; decide) fun v2 G5 H5 m5 g5 hg5 hv2 => ?_
  · obtain ⟨o, ho, rfl⟩ := List.mem_map.mp hd
    exact ed_cb (ea_cons (ed_var (i := 4) rfl hdv) ea_nil) rcl_tupleL
  refine asg_fld (K := K) (CG := CG) (G := G5) (ed_cb (ea_cons (ed_var (i := 3) rfl (dp_mono m5.gg _ h34)) ea_nil) rcl_tupleL) m5.gh g5 hg5 rfl cl ne (by show 2 < 1000; decide) fun v3 G6 H6 m6 g6 hg6 hv3 => ?_
  have nn := ((No.of (g := g) m13).trans m4 (fun o e => ne_none (m13.hh _ _ e))).trans m5 (fun o _ => ne_none hg4)
  have nn := nn.trans m6 (fun o _ => ne_none hg5)
  exact q v1 v2 v3 G6 H6 nn g6 hg6 (dp_mono (m5.gg.trans m6.gg) _ hv1) (dp_mono m6.gg _ hv2) hv3
/-! ### over a view -/
def MkM (P : Program) (w : World) (K : PySem.W.Frag) (mg : Str → Option Value) (base : Heap) (x : Str) (ps : List Str) (k : Nat) (C : Addr) (sp : Sp) : Prop :=
  ∃ (f : Addr) (fd : FuncData), mg x = some (.ref C) ∧ Mk K C f ∧ Binds K fd ps [] ∧ FnOk P w K mg base (L2.CX P w) k f fd ps sp
def EvM (K : PySem.W.Frag) (CG : Addr) (te : TE) (σ : L2.St) (G : Hp) (L : Nat) (ws : List (List (Option Nat))) (es : List Nat) : Prop := ∀ H, Same G H → ∀ Q : VK, (∀ g G' H', Nx G H G' H' → MacAt K CG G' g L ws es → Q (.ref g) H') → te σ H Q
end
section
variable {X : Cx} {x : Str} {ps : List Str} {k : Nat} {sp : Sp} {C : Addr} {p pos : Pos} {e : Expr} {es : List Expr} {t : TA} {E : XK}
theorem pe_mkM (h : MkM X.prog X.w X.K X.mg X.base x ps k C sp) (hx : Passes (L2.CX X.prog X.w) X E) (hr : Room (k + 1) X.A) (hg : Gl X x) (ha : PA X (e :: es) t) (hdb : (x == ("__debug__" : Str)) = false := by decide)
    (he : starEach (e :: es) X.env = (false, eval e X.env) :: starEach es X.env := by rfl) (hpl : (backTo pos (starEach es X.env)).any (·.1) = false := by rfl) : PE X (.Call (.Name x p) (e :: es) [] pos) (tMake C sp [] E t) := by
  obtain ⟨f, fd, hm, M, hb, F⟩ := h
  exact pe_make M F hr hg hm hb .nil hx ha hdb he hpl
end
section
variable {K : PySem.W.Frag} {CG : Addr} {σ : L2.St} {G H : Hp} {ta tb tc te : TE} {E : XK} {L : Nat} {ws : List (List (Option Nat))} {es : List Nat}
theorem em_make (ha : EvD K ta σ G (.int (L : Int))) (hb : EvD K tb σ G (.list (ws.map wayL))) (hc : EvD K tc σ G (.list (nsD es))) (M : MOk L ws es) : EvM K CG (tMake CG (spMI K CG) [] E (tCons ta (tCons tb (tCons tc tNil)))) σ G L ws es := fun H s Q q =>
  ha H s _ fun va G1 H1 n1 h1 => (hb.mono n1.gg) H1 n1.gh _ fun vb G2 H2 n2 h2 => (hc.mono (n1.gg.trans n2.gg)) H2 n2.gh _ fun vc G3 H3 n3 h3 a dx hna hnd hne => by
    have s1 := same_upd (o := .own a) hnd
    have ha' : upd H3 dx (.own a) a = none := (upd_ne (Ne.symm hne)).trans hna
    have s2 := same_upd (o := .ins CG dx []) ha'
    refine ⟨G3, a, dx, va, vb, vc, L, ws, es, (n3.gh.trans s1).trans s2, rfl, n3.gh.free hna, upd_same, dp_mono (n2.gg.trans n3.gg) _ h1, dp_mono n3.gg _ h2, h3, M, fun v1 v2 v3 G' H' nn g0 hg d1 d2 d3 => ⟨rfl, ?_⟩⟩
    obtain ⟨nx, sG⟩ := obj_made n3.gh hna hnd hne nn hg
    exact q a _ H' (((n1.trans n2).trans n3).trans nx) ⟨dx, v1, v2, v3, upd_same, dp_mono sG _ d1, dp_mono sG _ d2, dp_mono sG _ d3⟩
theorem seq_letM {i : Nat} {u : TS} {D : Ends} (h : EvM K CG te σ G L ws es) (s : Same G H) (k : ∀ g G1 H1, Nx G H G1 H1 → MacAt K CG G1 g L ws es → u D (σ.set i (some (.ref g))) H1) : tSeq (tAsg te (gName i)) u D σ H := h H s _ fun g G1 H1 n hg => k g G1 H1 n hg
theorem em_var {i : Nat} {g : Addr} (h : σ[i]? = some (some (.ref g))) (hg : MacAt K CG G g L ws es) : EvM K CG (tVar i) σ G L ws es := fun H s Q q => ⟨_, h, q g G H (Nx.refl s) hg⟩
theorem look_ways {a b c : V} : (mF a b c).lookup (("ways" : Str)) = some b := by
  unfold mF
  have h1 : (("ways" : Str) == ("letters" : Str)) = false := by decide
  simp [List.lookup, h1]
theorem look_ends {a b c : V} : (mF a b c).lookup (("ends" : Str)) = some c := by
  unfold mF
  have h1 : (("ends" : Str) == ("letters" : Str)) = false := by decide
  have h2 : (("ends" : Str) == ("ways" : Str)) = false := by decide
  simp [List.lookup, h1, h2]
theorem ed_mw (O : OwnC K CG) (na : NoAttr K CG "ways") (h : EvM K CG te σ G L ws es) : EvD K (tFld K te "ways") σ G (.tuple (ws.map wayT)) := fun H s Q q => h H s _ fun g G1 H1 n ⟨dx, v1, v2, v3, h0, h1, h2, h3⟩ =>
  ⟨g, CG, dx, _, v2, rfl, n.gh _ _ h0, O.cl, na, look_ways, q v2 G1 H1 n h2⟩
theorem ed_me (O : OwnC K CG) (na : NoAttr K CG "ends") (h : EvM K CG te σ G L ws es) : EvD K (tFld K te "ends") σ G (.tuple (nsD es)) := fun H s Q q => h H s _ fun g G1 H1 n ⟨dx, v1, v2, v3, h0, h1, h2, h3⟩ =>
  ⟨g, CG, dx, _, v3, rfl, n.gh _ _ h0, O.cl, na, look_ends, q v3 G1 H1 n h3⟩
end
section
variable {P : Program} {w : World} {K : PySem.W.Frag} {mg : Str → Option Value} {base : Heap} {f : Addr} {fd : FuncData} {CG CB fB : Addr}
def spWM (K : PySem.W.Frag) (CG : Addr) : Sp := fun vs H Q _ => ∃ (G : Hp) (g : Addr) (L : Nat) (ws : List (List (Option Nat))) (es : List Nat), Same G H ∧ vs = [.ref g] ∧ MacAt K CG G g L ws es ∧ ∀ G' H', Nx G H G' H' → Q .non H'
theorem ok_want_machine (D : DefAt K mg "want_machine" s_want_machine P_want_machine f fd) (T : Bt mg) (t_BadMachine : PySem.SupX.SupTxt P K mg "BadMachine" "part" CB fB) (g_Machine : mg "Machine" = some (.ref CG)) (O : OwnC K CG) : OkX P w K mg base "want_machine" s_want_machine P_want_machine 3 (spWM K CG) := by
  refine D.okX (D.F.okX sc_want_machine (fun vs H Q E h => ?_) fun cdv A outer s H vs Q E hr h => ?_)
  · obtain ⟨G, g, L, ws, es, _, rfl, _⟩ := h; rfl
  have S := sc_want_machine
  obtain ⟨G, g, L, ws, es, hs, rfl, hg, q⟩ := h
  obtain ⟨dx, v1, v2, v3, hi, _⟩ := hg
  refine ⟨_, (pss_one (ps_if (pt_not (pt_val (pe_callB (q_isi K rfl) (by rfl) T.isinstance (by decide +kernel) (pa_cons (pv 0) (pa_cons (pe_glob (v := .ref CG) (by rfl) g_Machine rfl) pa_nil))))) (pss_one (ps_raise rfl (takes_of rfl rfl rfl rfl) (pmk_sup t_BadMachine hr (pa_cons pe_non pa_nil) (by rfl)))) pss_nil)), ?_⟩
  exact (eb_not (eb_B (ed_isiC (K := K) (G := G) (i := 0) (σ := L2.start N_want_machine [.ref g]) rfl (fun H s => O.tyx (s _ _ hi)) O.me))) H hs _ fun G1 H1 n1 => if_off rfl (nx_of (q G1 H1 n1))
end
end Gw
namespace Gw
open PySem PySem.Spec PyProof.Rows L2 LamX
/-! ### rows, one number on -/
abbrev Led := List Nat × Nat
def ledD (r : Led) : PyData := .tuple [.tuple (nsD r.1), .int (r.2 : Int)]
def onF (r : List Nat) : Nat → List (Option Nat) → List Led
  | _, [] => []
  | i, none :: w => onF r (i + 1) w
  | i, some k :: w => (r ++ [i], k) :: onF r (i + 1) w
theorem onF_app (r : List Nat) : ∀ (w u : List (Option Nat)) (i : Nat), onF r i (w ++ u) = onF r i w ++ onF r (i + w.length) u
  | [], u, i => rfl
  | none :: w, u, i => by
    show onF r (i + 1) (w ++ u) = onF r (i + 1) w ++ _
    rw [onF_app r w u (i + 1), List.length_cons, show i + 1 + w.length = i + (w.length + 1) by omega]
  | some k :: w, u, i => by
    show (r ++ [i], k) :: onF r (i + 1) (w ++ u) = (r ++ [i], k) :: onF r (i + 1) w ++ _
    rw [onF_app r w u (i + 1), List.length_cons, show i + 1 + w.length = i + (w.length + 1) by omega]
    rfl
theorem onF_len (r : List Nat) : ∀ (w : List (Option Nat)) (i : Nat), (onF r i w).length ≤ w.length
  | [], i => Nat.le_refl _
  | none :: w, i => Nat.le_trans (onF_len r w (i + 1)) (Nat.le_succ _)
  | some k :: w, i => Nat.succ_le_succ (onF_len r w (i + 1))
def stepL (ws : List (List (Option Nat))) (led : List Led) : List Led := (led.map fun r => onF r.1 0 (ws.getD r.2 [])).flatten
theorem stepL_snoc (ws : List (List (Option Nat))) (led : List Led) (r : Led) : stepL ws (led ++ [r]) = stepL ws led ++ onF r.1 0 (ws.getD r.2 []) := by
  unfold stepL
  rw [List.map_append, List.flatten_append]
  simp
theorem stepL_take (ws : List (List (Option Nat))) (led : List Led) (k : Nat) : (stepL ws (led.take k)).length ≤ (stepL ws led).length := by
  have e : stepL ws led = stepL ws (led.take k) ++ stepL ws (led.drop k) := by
    unfold stepL
    rw [← List.flatten_append, ← List.map_append, List.take_append_drop]
  rw [e, List.length_append]
  omega
structure LedOk (ws : List (List (Option Nat))) (led : List Led) : Prop where
  n : led.length ≤ 3000
  r : ∀ r ∈ led, r.2 < ws.length ∧ r.1.length ≤ 1000
def spON (K : PySem.W.Frag) (CM : Addr) : Sp := fun vs H Q E => ∃ (G : Hp) (vw vl : V) (ws : List (List (Option Nat))) (led : List Led), Same G H ∧ vs = [vw, vl] ∧ Dp K G vw (.tuple (ws.map wayT)) ∧ Dp K G vl (.list (led.map ledD)) ∧ LedOk ws led ∧ (∀ w ∈ ws, w.length ≤ 169) ∧
  ((stepL ws led).length ≤ 3000 → ∀ p xs G' H', Nx G H G' H' → H p = none → G' p = some (.lst xs) → DpAll K G' xs ((stepL ws led).map ledD) → Q (.ref p) H') ∧ (3000 < (stepL ws led).length → ∀ d H', Same H H' → H' d = some (.xd [(("most" : Str), .int 3000)]) → E (.ref CM) (some d) H')
section
variable {P : Program} {w : World} {K : PySem.W.Frag} {mg : Str → Option Value} {base : Heap} {f : Addr} {fd : FuncData} {CM fM : Addr}
theorem ok_one_number_on (D : DefAt K mg "one_number_on" s_one_number_on P_one_number_on f fd) (T : Bt mg) (t_TooMany : PySem.SupX.SupTxt P K mg "TooMany" "most" CM fM) {t3k : Tok} (c_MOST_ROWS : mg "MOST_ROWS" = some (.int 3000 t3k)) : OkX P w K mg base "one_number_on" s_one_number_on P_one_number_on 3 (spON K CM) := by
  refine D.okX (D.F.okX sc_one_number_on (fun vs H Q E h => ?_) fun cdv A outer s H vs Q E hr h => ?_)
  · obtain ⟨G, vw, vl, ws, led, _, rfl, _⟩ := h; rfl
  have S := sc_one_number_on
  obtain ⟨G, vw, vl, ws, led, hs, rfl, hw, hl, LO, l169, q1, q2⟩ := h
  refine ⟨_, (pss_cons (ps_set (i := 2) S.nd rfl (by first | exact .inl rfl | exact .inr rfl) (pe_lst pa_nil))
  (pss_cons (ps_for PassesOwn.leaving rfl (q_iL K rfl (pv 1)) (q_gT K 2 rfl rfl (pgs_cons (pg_name (i := 3) S.nd rfl (by first | exact .inl rfl | exact .inr rfl)) (pgs_cons (pg_name (i := 4) S.nd rfl (by first | exact .inl rfl | exact .inr rfl)) pgs_nil))) (pss_cons (ps_for PassesOwn.leaving rfl (q_iEnT K rfl (by rfl) T.enumerate (pa_cons (pe_ix (q_ixT K rfl) (pv 0) (pv 4) (fun _ _ => rfl)) pa_nil)) (q_gT K 2 rfl rfl (pgs_cons (pg_name (i := 5) S.nd rfl (by first | exact .inl rfl | exact .inr rfl)) (pgs_cons (pg_name (i := 6) S.nd rfl (by first | exact .inl rfl | exact .inr rfl)) pgs_nil))) (pss_one (ps_if (pt_cmpR op_notN (pv 6) pe_non (nomark _)) (pss_one (ps_expr (pe_bm PySem.F.plainAttrs_list PySem.F.slot_list_append PySem.F.type_list_append mt_append (pv 2) (pa_cons (pe_tup (pa_cons (pe_op (q_catT K rfl) (pv 3) (pe_tup (pa_cons (pv 5) pa_nil))) (pa_cons (pv 6) pa_nil))) pa_nil)))) pss_nil)))
  (pss_one (ps_if (pt_cmpR op_gt (pe_callB (q_len K rfl) (by rfl) T.len PySem.boot_len (pa_cons (pv 2) pa_nil)) (pe_glob (v := .int 3000) (by rfl) c_MOST_ROWS ⟨_, rfl⟩) (nomark _)) (pss_one (ps_raise rfl (takes_of rfl rfl rfl rfl) (pmk_sup t_TooMany hr (pa_cons (pe_glob (v := .int 3000) (by rfl) c_MOST_ROWS ⟨_, rfl⟩) pa_nil) (by rfl)))) pss_nil))))
  (pss_one (ps_ret (pv 2))))), ?_⟩
  have big : 2000000 ≤ sizeLine := by decide
  refine ⟨Nat.zero_le _, fun p hp => ?_⟩
  have g0 := Grow.start (K := K) hs hp
  cases hl with
  | @lst a xs _ hsq hxa =>
  have lx : xs.length = led.length := by rw [dpa_length hxa, List.length_map]
  have n3k := LO.n
  refine ⟨_, rfl, a, rfl, ⟨xs, g0.n.gh.seq hsq⟩, for_list (K := K) (a := a) (xs := xs) (fun k σ Hc => ∃ y3 y4 y5 y6 Gi, σ = [some vw, some (.ref a), some (.ref p), y3, y4, y5, y6] ∧ Grow K G H p ((stepL ws (led.take k)).map ledD) Gi Hc ∧ (stepL ws (led.take k)).length ≤ 3000) ⟨_, _, _, _, G, rfl, g0, Nat.zero_le _⟩ (fun k σ Hc _ hP => ?_) (fun k v σ Hc hk hP => ?_) fun σ Hc hP => ?_⟩
  · obtain ⟨_, _, _, _, Gi, _, gr, _⟩ := hP
    exact (gr.n.gg.trans gr.n.gh).seq hsq
  · obtain ⟨y3, y4, y5, y6, Gi, rfl, gr, l3⟩ := hP
    obtain ⟨x', hx', hxd⟩ := dpa_get hxa hk
    rw [List.getElem?_map] at hx'
    obtain ⟨⟨r, st⟩, hr', rfl⟩ := Option.map_eq_some_iff.mp hx'
    obtain ⟨hst, hrl⟩ := LO.r _ (List.mem_of_getElem? hr')
    have hst : st < ws.length := hst
    have hrl : r.length ≤ 1000 := hrl
    cases hxd with
    | @tup b ys _ hy hya =>
    obtain _ | ⟨d1, _ | ⟨d2, _ | _⟩⟩ := hya
    refine ⟨b, _, rfl, same_tup (gr.n.gg.trans gr.n.gh) hy, rfl, _, _, rfl, _, _, rfl, rfl, ?_⟩
    have hwi := dp_mono gr.n.gg _ hw
    have d1i := dp_mono gr.n.gg _ d1
    have d2i := dp_mono gr.n.gg _ d2
    have gw : (ws.map wayT)[st]? = some (wayT (ws.getD st [])) := by
      rw [List.getElem?_map, List.getElem?_eq_getElem hst, List.getD_eq_getElem?_getD, List.getElem?_eq_getElem hst]; rfl
    have lway : (ws.getD st []).length ≤ 169 := l169 _ (by rw [List.getD_eq_getElem?_getD, List.getElem?_eq_getElem hst]; exact List.getElem_mem hst)
    generalize hwy : ws.getD st [] = wy at gw lway
    have tk1 : led.take (k + 1) = led.take k ++ [(r, st)] := by rw [List.take_succ, hr']; rfl
    have hst1 : stepL ws (led.take (k + 1)) = stepL ws (led.take k) ++ onF r 0 wy := by rw [tk1, stepL_snoc, hwy]
    refine (ed_op (K := K) (G := Gi) (σ := [some vw, some (.ref a), some (.ref p), some _, some _, y5, y6]) (ed_var (i := 0) rfl hwi) (ed_var (i := 4) rfl d2i) (ro_ixT (k := st) rfl gw)) Hc gr.n.gh _ fun vwy G2 H2 n2 hdw => ?_
    have g2 := gr.step n2
    cases hdw with
    | @tup a2 xs2 _ hs2 hxa2 =>
    refine ⟨a2, xs2, rfl, same_tup n2.gh hs2, ?_⟩
    have lx2 : xs2.length = wy.length := by rw [dpa_length hxa2, List.length_map]
    refine for_it (walk_enT (K := K) (a := a2) (xs := xs2)) (fun j σ Hd => ∃ y5 y6 Gj, σ = [some vw, some (.ref a), some (.ref p), some _, some _, y5, y6] ∧ Grow K G H p ((stepL ws (led.take k) ++ onF r 0 (wy.take j)).map ledD) Gj Hd ∧ Same G2 Gj) ⟨y5, y6, G2, rfl, ?_, Same.refl _⟩ (fun j σ Hd _ hP => ?_) (fun j x σ Hd Hd' hj hP hyy => ?_) fun σ Hd hP => ?_
    · rw [show onF r 0 (wy.take 0) = [] from rfl, List.append_nil]; exact g2
    · obtain ⟨_, _, Gj, _, gj, sj⟩ := hP
      exact same_tup (sj.trans gj.n.gh) hs2
    · obtain ⟨y5', y6', Gj, rfl, gj, sj⟩ := hP
      obtain ⟨Tt, x1, x2, rfl, hT, rfl, e1, e2⟩ := hyy
      cases e1
      obtain ⟨dk, hdk, hdx⟩ := dpa_get hxa2 e2
      rw [List.getElem?_map] at hdk
      obtain ⟨o, ho, rfl⟩ := Option.map_eq_some_iff.mp hdk
      have g3 := gj.step (Nx.lay (o := .tup [.int (j : Nat), x2]) gj.n.gh hT)
      refine ⟨Tt, _, rfl, SqT.of upd_same, rfl, _, _, rfl, _, _, rfl, rfl, ?_⟩
      have hxj := dp_mono sj _ hdx
      have tkj : onF r 0 (wy.take (j + 1)) = onF r 0 (wy.take j) ++ onF r j [o] := by
        have hjl : j < wy.length := by
          rcases Nat.lt_or_ge j wy.length with z | z
          · exact z
          · rw [List.getElem?_eq_none z] at ho; cases ho
        rw [List.take_succ, ho]
        show onF r 0 (wy.take j ++ [o]) = _
        rw [onF_app, List.length_take, Nat.zero_add, Nat.min_eq_left (Nat.le_of_lt hjl)]
      cases o with
      | none =>
        refine (eb_test (K := K) (G := Gj) (b := false) (ed_op (ed_var (i := 6) (σ := [some vw, some (.ref a), some (.ref p), some _, some _, some (.int (j : Nat)), some x2]) rfl hxj) ed_non (fun G H s vx vy hx hy Q q => by rw [dp_non hx, dp_non hy]; exact ⟨rfl, q _ G H (Nx.refl s) (.bl _)⟩))) _ g3.n.gh _ fun G4 H4 n4 => iteF (nx_of ⟨_, _, G4, rfl, ?_, sj.trans n4.gg⟩)
        rw [tkj, show onF r j [none] = [] from rfl, List.append_nil]
        exact g3.step n4
      | some kk =>
        refine (eb_test (K := K) (G := Gj) (b := true) (ed_op (ed_var (i := 6) (σ := [some vw, some (.ref a), some (.ref p), some _, some _, some (.int (j : Nat)), some x2]) rfl hxj) ed_non (fun G H s vx vy hx hy Q q => by rw [dp_int hx, dp_non hy]; exact ⟨rfl, q _ G H (Nx.refl s) (.bl _)⟩))) _ g3.n.gh _ fun G4 H4 n4 => iteT ?_
        have g4 := g3.step n4
        obtain ⟨acc4, e4, _⟩ := id g4.ex
        refine ⟨_, rfl, .inl ⟨rfl, _, SqL.of e4⟩, ?_⟩
        have lrd : (nsD r).length = r.length := List.length_map _
        refine (ed_tup (K := K) (G := G4) (ds := [.tuple (nsD r ++ [.int (j : Int)]), .int (kk : Int)]) (σ := [some vw, some (.ref a), some (.ref p), some _, some _, some (.int (j : Nat)), some x2]) (ea_cons (ed_op (ed_var (i := 3) rfl (dp_mono ((n2.gg.trans sj).trans n4.gg) _ d1i)) (ed_tup (ea_cons (ed_var (i := 5) rfl (.int (j : Int))) ea_nil) (by show 1 ≤ sizeLine; omega)) (ro_cat (by rw [lrd]; show _ + 1 ≤ _; omega))) (ea_cons (ed_var (i := 6) rfl (dp_mono n4.gg _ hxj)) ea_nil)) (by show 2 ≤ sizeLine; omega)) H4 n4.gh _ fun v5 G5 H5 n5 hd5 => ?_
        have g5 := g4.step n5
        obtain ⟨acc5, e5, ha5⟩ := id g5.ex
        refine ⟨p, acc5, v5, rfl, rfl, e5, ?_, ⟨_, _, G5, rfl, ?_, (sj.trans n4.gg).trans n5.gg⟩⟩
        · have h1 := dpa_length ha5
          rw [List.length_map, List.length_append] at h1
          have h2 := onF_len r (wy.take j) 0
          rw [List.length_take] at h2
          omega
        · rw [tkj, ← List.append_assoc, List.map_append]
          refine g5.add hp ?_ e5
          show Dp K G5 v5 (.tuple [.tuple (nsD (r ++ [j])), .int (kk : Int)])
          have en : nsD (r ++ [j]) = nsD r ++ [.int (j : Int)] := List.map_append
          rw [en]
          exact hd5
    · obtain ⟨y5', y6', Gj, rfl, gj, sj⟩ := hP
      rw [lx2, List.take_length, ← hst1] at gj
      obtain ⟨acc, e, hacc⟩ := id gj.ex
      have la : acc.length = (stepL ws (led.take (k + 1))).length := by rw [dpa_length hacc, List.length_map]
      refine ⟨_, rfl, p, acc, rfl, .inl (SqL.of e), _, _, rfl, rfl, _, rfl, ?_⟩
      by_cases hbig : (3000 : Int) < (acc.length : Int)
      · refine if_on (decide_eq_true hbig) ⟨_, rfl, fun d hd => q2 ?_ d _ (gj.n.hh.trans (same_upd hd)) upd_same⟩
        have := stepL_take ws led (k + 1)
        omega
      · refine if_off (decide_eq_false hbig) (nx_of ⟨_, _, _, _, Gj, rfl, gj, by omega⟩)
  · obtain ⟨y3, y4, y5, y6, Gi, rfl, gr, l3⟩ := hP
    rw [lx, List.take_length] at gr l3
    obtain ⟨acc, e, hacc⟩ := gr.ex
    obtain ⟨m, gi⟩ := gr.n.tell hp gr.g e
    exact ⟨_, rfl, q1 l3 p acc _ Hc m hp upd_same (dpa_mono gi _ hacc)⟩
end
end Gw
namespace Gw
open PySem PySem.Spec PyProof.Rows L2 LamX
/-! ### dicts by comprehensions -/
theorem dc_it {J : It} {n : Nat} {Gd : Hp → Prop} {Y : Nat → Hp → V → Hp → Prop} (w : Walk J n Gd Y) {g : TG} {tt : TT} {tk tv : TE} {vs : List Nat} {σ : L2.St} {H1 : Hp} {D : Addr} {Qd : Hp → Prop} (Pv : Nat → Hp → Prop) (h0 : Pv 0 (upd H1 D (.dK []))) (hG : ∀ i H, i ≤ n → Pv i H → Gd H)
    (hs : ∀ i x H H', i < n → Pv i H → Y i H x H' → g x (wipe σ vs) H' fun σ2 H2 => wipe σ2 vs = wipe σ vs ∧ tt σ2 H2 fun b H3 => if b = true then tk σ2 H3 fun y H4 => tv σ2 H4 fun z H5 => ∃ kvs k, y = kV k ∧ H5 D = some (.dK kvs) ∧ kvs.length < sizeLine ∧ Pv (i + 1) (upd H5 D (.dK (putK kvs k z))) else Pv (i + 1) H3)
    (hd : ∀ H, Pv n H → Qd H) : ∃ W : Nat → Nat → Hp → Prop, (∃ m, W 0 m (upd H1 D (.dK []))) ∧ ∀ i m H, W i m H → (J.stop i H ∧ Qd H) ∨ (J.go i H ∧ ∃ Nx : Hp → Prop, (∀ H', Nx H' → ∃ m', m' < m ∧ W (i + 1) m' H') ∧
      ∀ x H', J.yld i H x H' → g x (wipe σ vs) H' fun σ2 H2 => wipe σ2 vs = wipe σ vs ∧ tt σ2 H2 fun b H3 => if b = true then tk σ2 H3 fun y H4 => tv σ2 H4 fun z H5 => ∃ kvs k, y = kV k ∧ H5 D = some (.dK kvs) ∧ kvs.length < sizeLine ∧ Nx (upd H5 D (.dK (putK kvs k z))) else Nx H3) := by
  refine ⟨fun i m H => i ≤ n ∧ m = n - i ∧ Pv i H, ⟨n, Nat.zero_le _, rfl, h0⟩, fun i m H ⟨hi, hm, hp⟩ => ?_⟩
  rcases Nat.lt_or_ge i n with z | z
  · refine .inr ⟨w.goes i H z (hG i H hi hp), Pv (i + 1), fun H' hp' => ⟨n - (i + 1), by omega, by omega, rfl, hp'⟩, fun x H' hy => hs i x H H' z hp (w.yields i H x H' z (hG i H hi hp) hy)⟩
  · have e : i = n := by omega
    subst e
    exact .inl ⟨w.stops H (hG i H hi hp), hd H hp⟩
theorem one_of {n c : Nat} (h : n + 64 < c) : n + 1 < c := by omega
theorem put_len (kvs : List (Key × V)) (k : Key) (v : V) : (putK kvs k v).length ≤ kvs.length + 1 := by
  unfold putK
  split
  · rw [List.length_map]; omega
  · rw [List.length_append]; exact Nat.le_refl _
section
variable {K : PySem.W.Frag} {σ : L2.St} {G H G1 H1 : Hp} {tl te : TE} {tt : TT} {ds : List PyData} {p : Addr} {Gi Hc : Hp}
theorem en_lcLF2 {i j : Nat} {vs : List Nat} (f : PyData → Option PyData) (h : EvD K tl σ G (.list ds)) (hw : ∀ v1 v2, wipe (((wipe σ vs).set i (some v1)).set j (some v2)) vs = wipe σ vs) (hz : ds.length ≤ sizeLine) (h3 : ∀ d ∈ ds, ∃ x y, d = .tuple [x, y])
    (ht : ∀ x y v1 v2 Gi, PyData.tuple [x, y] ∈ ds → Same G Gi → Dp K Gi v1 x → Dp K Gi v2 y → EvB K tt (((wipe σ vs).set i (some v1)).set j (some v2)) Gi (f (.tuple [x, y])).isSome)
    (he : ∀ x y e v1 v2 Gi, PyData.tuple [x, y] ∈ ds → f (.tuple [x, y]) = some e → Same G Gi → Dp K Gi v1 x → Dp K Gi v2 y → EvD K te (((wipe σ vs).set i (some v1)).set j (some v2)) Gi e) :
    EvN K (tLc (iList K tl) (gTup K 2 (gCons (gName i) (gCons (gName j) gNil))) tt te vs) σ G (ds.filterMap f) := fun H s Q q =>
  h H s _ fun v G1 H1 n1 hv => by
    cases hv with
    | @lst a xs _ hs ha =>
      refine ⟨a, rfl, ⟨xs, n1.gh.seq hs⟩, fun D hD => ?_⟩
      refine lc_list (K := K) (a := a) (xs := xs) (fun k Hc => LcI K G1 H1 D ((ds.take k).filterMap f) Hc) (LcI.start n1.gh hD) (fun k Hc _ p => ?_) (fun kk x Hc hk p => ?_) fun Hc p => ?_
      · obtain ⟨Gi, acc, n, _⟩ := p.ex
        exact (n1.gh.trans n.hh).seq hs
      · obtain ⟨dk, hdk, hdx⟩ := dpa_get ha hk
        have hm : dk ∈ ds := List.mem_of_getElem? hdk
        obtain ⟨x1, x2, rfl⟩ := h3 dk hm
        cases hdx with
        | @tup b ys _ hy hya =>
          obtain _ | ⟨d1, _ | ⟨d2, _ | _⟩⟩ := hya
          obtain ⟨Gi0, acc0, n0, _⟩ := id p.ex
          refine ⟨b, _, rfl, same_tup (n1.gh.trans n0.hh) hy, rfl, _, _, rfl, _, _, rfl, rfl, hw _ _, ?_⟩
          refine LcI.turn (b := (f (.tuple [x1, x2])).isSome) (e := (f (.tuple [x1, x2])).getD .none) hD p (Nat.lt_of_le_of_lt (List.length_filterMap_le _ _) ?_) (fun Gi g => ht x1 x2 _ _ Gi hm (n1.gg.trans g) (dp_mono g _ d1) (dp_mono g _ d2)) (fun hb Gi g => ?_) fun H' p' => ?_
          · have := (List.getElem?_eq_some_iff.mp hdk).1
            rw [List.length_take]; omega
          · obtain ⟨e, hee⟩ := Option.isSome_iff_exists.mp hb
            rw [hee]
            exact he x1 x2 e _ _ Gi hm hee (n1.gg.trans g) (dp_mono g _ d1) (dp_mono g _ d2)
          · rw [fm_take f ds kk _ hdk]
            cases hf : f (.tuple [x1, x2]) with
            | none => rw [hf] at p'; simpa using p'
            | some e => rw [hf] at p'; simpa using p'
      · rw [dpa_length ha, List.take_length] at p
        exact p.finN n1 hD q
theorem dc_tup {g : TG} {tk tv : TE} {vs : List Nat} {Q : VK} (h : EvD K te σ G (.tuple ds)) (s : Same G H)
    (k : ∀ a xs G1 H1, Nx G H G1 H1 → SqT K G1 a xs → DpAll K G1 xs ds → ∀ D, H1 D = none → ∃ W : Nat → Nat → Hp → Prop, (∃ m, W 0 m (upd H1 D (.dK []))) ∧ ∀ i m H, W i m H → ((Itt K a).stop i H ∧ Q (.ref D) H) ∨ ((Itt K a).go i H ∧ ∃ Nx : Hp → Prop, (∀ H', Nx H' → ∃ m', m' < m ∧ W (i + 1) m' H') ∧
      ∀ x H', (Itt K a).yld i H x H' → g x (wipe σ vs) H' fun σ2 H2 => wipe σ2 vs = wipe σ vs ∧ tt σ2 H2 fun b H3 => if b = true then tk σ2 H3 fun y H4 => tv σ2 H4 fun z H5 => ∃ kvs k, y = kV k ∧ H5 D = some (.dK kvs) ∧ kvs.length < sizeLine ∧ Nx (upd H5 D (.dK (putK kvs k z))) else Nx H3)) : tDc (iTup K te) g tt tk tv vs σ H Q := h H s _ fun v G1 H1 n1 hv => by
  cases hv with
  | @tup a xs _ hs ha => exact ⟨a, rfl, ⟨xs, same_tup n1.gh hs⟩, k a xs G1 H1 n1 hs ha⟩
/-- the list that grows takes another one's things -/
theorem Grow.addAll {es : List PyData} (h : Grow K G H p ds Gi Hc) (hp : H p = none) {vs : List V} (hd : DpAll K Gi vs es) {acc : List V} (e : Hc p = some (.lst acc)) : Grow K G H p (ds ++ es) Gi (upd Hc p (.lst (acc ++ vs))) := by
  obtain ⟨acc', e', ha⟩ := h.ex
  rw [e] at e'
  cases e'
  refine ⟨⟨h.n.gg, fun b u q => ?_, fun b u q => ?_, h.n.fr⟩, h.g, acc ++ vs, upd_same, dpa_append ha hd⟩
  · rw [upd_ne (ne_of_none q h.g)]; exact h.n.gh b u q
  · rw [upd_ne (ne_of_none q hp)]; exact h.n.hh b u q
theorem EvN.tellV {te : TE} {Q : VK} (h : EvN K te σ G ds) (s : Same G H) (k : ∀ p vs G1 H1, Nx G H G1 H1 → H p = none → G1 p = some (.lst vs) → DpAll K G1 vs ds → Q (.ref p) H1) : te σ H Q := h H s _ fun p vs G1 H1 n hp gp e ha => by
  obtain ⟨m, gi⟩ := n.tell hp gp e
  exact k p vs _ H1 m hp upd_same (dpa_mono gi _ ha)
theorem seq_letV {te : TE} {i : Nat} {u : TS} {D : Ends} (h : EvN K te σ G ds) (s : Same G H) (k : ∀ p vs G1 H1, Nx G H G1 H1 → H p = none → G1 p = some (.lst vs) → DpAll K G1 vs ds → u D (σ.set i (some (.ref p))) H1) : tSeq (tAsg te (gName i)) u D σ H := h.tellV s k
end
end Gw
namespace Gw
open PySem PySem.Spec PyProof.Rows L2 LamX
/-! ### all rows of a length, with their states -/
def ledN (ws : List (List (Option Nat))) : Nat → List Led
  | 0 => [([], 0)]
  | k + 1 => stepL ws (ledN ws k)
def takesD (es : List Nat) (led : List Led) : List (List Nat) := led.filterMap fun r => if r.2 ∈ es then some r.1 else none
def rowN (r : List Nat) : PyData := .tuple (nsD r)
def foundN (ws : List (List (Option Nat))) (es : List Nat) (k : Nat) : List (List Nat) := ((List.range k).map fun i => takesD es (ledN ws i)).flatten
theorem foundN_succ (ws : List (List (Option Nat))) (es : List Nat) (k : Nat) : foundN ws es (k + 1) = foundN ws es k ++ takesD es (ledN ws k) := by
  unfold foundN
  rw [List.range_succ, List.map_append, List.flatten_append]
  simp
theorem onF_mem {r : List Nat} : ∀ {w : List (Option Nat)} {i : Nat} {x : Led}, x ∈ onF r i w → ∃ j, x.1 = r ++ [j] ∧ some x.2 ∈ w
  | none :: w, i, x, h => by
    obtain ⟨j, h1, h2⟩ := onF_mem (w := w) (i := i + 1) h
    exact ⟨j, h1, List.mem_cons_of_mem _ h2⟩
  | some k :: w, i, x, h => by
    rcases List.mem_cons.mp h with rfl | h
    · exact ⟨i, rfl, List.mem_cons_self⟩
    · obtain ⟨j, h1, h2⟩ := onF_mem (w := w) (i := i + 1) h
      exact ⟨j, h1, List.mem_cons_of_mem _ h2⟩
theorem ledN_mem {L : Nat} {ws : List (List (Option Nat))} {es : List Nat} (M : MOk L ws es) : ∀ (k : Nat) {r : Led}, r ∈ ledN ws k → r.2 < ws.length ∧ r.1.length = k
  | 0, r, h => by
    have h : r ∈ [(([] : List Nat), 0)] := h
    rw [List.mem_singleton.mp h]
    exact ⟨M.n1, rfl⟩
  | k + 1, r, h => by
    have h : r ∈ ((ledN ws k).map fun r => onF r.1 0 (ws.getD r.2 [])).flatten := h
    obtain ⟨l, hl, hr⟩ := List.mem_flatten.mp h
    obtain ⟨r0, h0, rfl⟩ := List.mem_map.mp hl
    obtain ⟨i1, i2⟩ := ledN_mem M k h0
    obtain ⟨j, e1, e2⟩ := onF_mem hr
    have hw : ws.getD r0.2 [] ∈ ws := by rw [List.getD_eq_getElem?_getD, List.getElem?_eq_getElem i1]; exact List.getElem_mem i1
    refine ⟨(M.w _ hw).s _ e2, ?_⟩
    rw [e1, List.length_append, i2]; rfl
theorem ledN_ok {L : Nat} {ws : List (List (Option Nat))} {es : List Nat} (M : MOk L ws es) {k : Nat} (hk : k ≤ 1000) (h : ∀ i < k, (ledN ws (i + 1)).length ≤ 3000) : LedOk ws (ledN ws k) := by
  refine ⟨?_, fun r hr => ?_⟩
  · cases k with
    | zero => show 1 ≤ 3000; decide
    | succ k => exact h k (Nat.lt_succ_self k)
  · obtain ⟨h1, h2⟩ := ledN_mem M k hr
    exact ⟨h1, by omega⟩
def takeF (es : List Nat) : PyData → Option PyData
  | .tuple [x, y] => if (toI y).toNat ∈ es then some x else none
  | _ => none
theorem takeF_all (es : List Nat) : ∀ led : List Led, (led.map ledD).filterMap (takeF es) = (takesD es led).map rowN
  | [] => rfl
  | (r, s) :: led => by
    have ih := takeF_all es led
    have e : takeF es (ledD (r, s)) = if s ∈ es then some (rowN r) else none := rfl
    rw [List.map_cons, List.filterMap_cons, e, ih]
    unfold takesD
    rw [List.filterMap_cons]
    by_cases h : s ∈ es
    · simp [h]
    · simp [h]
theorem takesD_len (es : List Nat) (led : List Led) : (takesD es led).length ≤ led.length := List.length_filterMap_le _ _
def spRU (K : PySem.W.Frag) (CG CN CM : Addr) : Sp := fun vs H Q E => ∃ (G : Hp) (g : Addr) (vm : V) (L : Nat) (ws : List (List (Option Nat))) (es : List Nat) (x : PyData), Same G H ∧ vs = [.ref g, vm] ∧ MacAt K CG G g L ws es ∧ Dp K G vm x ∧ MOk L ws es ∧
  (inR 0 6 x = false → ∀ d H', Same H H' → H' d = some (.xd [(("part" : Str), .str "most")]) → E (.ref CN) (some d) H') ∧
  (∀ m : Nat, x = .int (m : Int) → m ≤ 6 → ((∀ k < m, (ledN ws (k + 1)).length ≤ 3000) → ∀ v G' H', Nx G H G' H' → Dp K G' v (.list ((foundN ws es (m + 1)).map rowN)) → Q v H') ∧
    ((∃ k < m, 3000 < (ledN ws (k + 1)).length) → ∀ d H', Same H H' → H' d = some (.xd [(("most" : Str), .int 3000)]) → E (.ref CM) (some d) H'))
section
variable {P : Program} {w : World} {K : PySem.W.Frag} {mg : Str → Option Value} {base : Heap} {f : Addr} {fd : FuncData} {CG CN CM fN : Addr}
theorem ok_rows_up_to (D : DefAt K mg "rows_up_to" s_rows_up_to P_rows_up_to f fd) (T : Bt mg) (t_BadNumber : PySem.SupX.SupTxt P K mg "BadNumber" "part" CN fN) (OC : OwnC K CG) (nw : NoAttr K CG "ways") (ne : NoAttr K CG "ends") (h_want_machine : OkX P w K mg base "want_machine" s_want_machine P_want_machine 3 (spWM K CG)) (h_is_number_in : Ok P w K mg base "is_number_in" P_is_number_in 2 (SpD K R_is_number_in)) (h_one_number_on : OkX P w K mg base "one_number_on" s_one_number_on P_one_number_on 3 (spON K CM)) : OkX P w K mg base "rows_up_to" s_rows_up_to P_rows_up_to 4 (spRU K CG CN CM) := by
  refine D.okX (D.F.okX sc_rows_up_to (fun vs H Q E h => ?_) fun cdv A outer s H vs Q E hr h => ?_)
  · obtain ⟨G, g, vm, L, ws, es, x, _, rfl, _⟩ := h; rfl
  have S := sc_rows_up_to
  obtain ⟨G, g, vm, L, ws, es, x, hs, rfl, hg, hm, M, q1, q2⟩ := h
  refine ⟨_, (pss_cons (ps_expr (pe_okX h_want_machine (passes_call (takes_of rfl rfl rfl rfl) fun _ _ _ _ h => h) (hr.mono (by decide)) (by rfl) (pa_cons (pv 0) pa_nil)))
  (pss_cons (ps_if (pt_not (pt_val (pe_ok h_is_number_in (hr.mono (by decide)) (by rfl) (pa_cons (pv 1) (pa_cons pe_int (pa_cons pe_int pa_nil)))))) (pss_one (ps_raise rfl (takes_of rfl rfl rfl rfl) (pmk_sup t_BadNumber hr (pa_cons pe_str pa_nil) (by rfl)))) pss_nil)
  (pss_cons (ps_set (i := 2) S.nd rfl (by first | exact .inl rfl | exact .inr rfl) (pe_dc (own := [("end", 3)]) (g := gName 3) (by rfl) S.nd (q_iT K rfl (pe_fld (pv 0) rfl)) (blkOk_by (N := N_rows_up_to) (sc := defScope s_rows_up_to) (by decide +kernel)) (fun _ _ _ _ _ => (pg_name (i := 3) S.nd rfl (by first | exact .inl rfl | exact .inr rfl))) (fun _ _ _ _ _ => pts_nil) (fun _ _ _ _ _ => pv 3) (fun _ _ _ _ _ => pe_bl)))
  (pss_cons (ps_set (i := 4) S.nd rfl (by first | exact .inl rfl | exact .inr rfl) (pe_lst pa_nil))
  (pss_cons (ps_set (i := 5) S.nd rfl (by first | exact .inl rfl | exact .inr rfl) (pe_lst (pa_cons (pe_tup (pa_cons (pe_tup pa_nil) (pa_cons pe_int pa_nil))) pa_nil)))
  (pss_cons (ps_for PassesOwn.leaving rfl (pi_range1 (by rfl) T.range (pa_cons (pe_op op_add (pv 1) pe_int) pa_nil)) (pg_name (i := 6) S.nd rfl (by first | exact .inl rfl | exact .inr rfl)) (pss_cons (ps_expr (pe_bm PySem.F.plainAttrs_list PySem.F.slot_list_extend PySem.F.type_list_extend mt_extend (pv 4) (pa_cons (pe_lc (own := [("row", 7), ("state", 8)])  (by rfl) S.nd  (q_iL K rfl (pv 5)) (blkOk_by (N := N_rows_up_to) (sc := defScope s_rows_up_to) (by decide +kernel)) (fun _ _ _ _ _ => (q_gT K 2 rfl rfl (pgs_cons (pg_name (i := 7) S.nd rfl (by first | exact .inl rfl | exact .inr rfl)) (pgs_cons (pg_name (i := 8) S.nd rfl (by first | exact .inl rfl | exact .inr rfl)) pgs_nil)))) (fun _ _ _ _ _ => (pts_one (pt_cmp (pc_din (one_of hr.units) (pv 8) (pv 2))))) (fun _ _ _ _ _ => (pv 7))) pa_nil)))
  (pss_one (ps_if (pt_cmpR op_lt (pv 6) (pv 1) (nomark _)) (pss_one (ps_set (i := 5) S.nd rfl (by first | exact .inl rfl | exact .inr rfl) (pe_okX h_one_number_on (passes_call (takes_of rfl rfl rfl rfl) fun _ _ _ _ h => h) (hr.mono (by decide)) (by rfl) (pa_cons (pe_fld (pv 0) rfl) (pa_cons (pv 5) pa_nil))))) pss_nil))))
  (pss_one (ps_ret (pv 4))))))))), ?_⟩
  have big : 2000000 ≤ sizeLine := by decide
  have l169 : ∀ w ∈ ws, w.length ≤ 169 := fun w hw => by have := (M.w w hw).l; have := M.l2; omega
  refine ⟨_, rfl, G, g, L, ws, es, hs, rfl, hg, fun G1 H1 n1 => ?_⟩
  dsimp only
  refine seq_ifB (K := K) (G := G1) (σ := L2.start N_rows_up_to [.ref g, vm]) (b := !inR 0 6 x) (eb_not (eb_B (ed_call (R := R_is_number_in) (E := E0) (ea_cons (ed_var (i := 1) rfl (dp_mono n1.gg _ hm)) (ea_cons ed_int (ea_cons ed_int ea_nil))) ⟨x, 0, 6, rfl, rfl⟩))) n1.gh (fun hb G2 H2 n2 => ⟨_, rfl, fun d hd => q1 (not_t hb) d _ ((n1.trans n2).hh.trans (same_upd hd)) upd_same⟩) fun hb G2 H2 n2 => ?_
  obtain ⟨i, rfl, hi0, hi6⟩ := inR_int (not_f hb)
  obtain ⟨m, rfl⟩ : ∃ m : Nat, i = (m : Int) := ⟨i.toNat, by omega⟩
  have hm6 : m ≤ 6 := by omega
  obtain ⟨q3, q4⟩ := q2 m rfl hm6
  have n12 := n1.trans n2
  -- ends
  refine seq_asg (dc_tup (K := K) (G := G2) (ed_me OC ne (em_var (i := 0) (σ := L2.start N_rows_up_to [.ref g, vm]) rfl (hg.mono n12.gg))) n2.gh fun a xs G3 H3 n3 hsq hxa DD hDD => ?_)
  have lxs : xs.length = es.length := by rw [dpa_length hxa, List.length_map]
  have n13 := n12.trans n3
  have gDD : G3 DD = none := n3.gh.free hDD
  refine dc_it (walk_tup (K := K) (a := a) (xs := xs)) (fun j Hc => ∃ kvs, Hc DD = some (.dK kvs) ∧ kvs.length ≤ j ∧ (∀ k : Nat, valV kvs (Sum.inl (k : Int)) = if k ∈ es.take j then some (.bl true) else none) ∧ Nx G3 H3 G3 Hc) ⟨[], upd_same, Nat.le_refl _, (fun k => by rw [List.take_zero]; rfl), Nx.lay n3.gh hDD⟩ (fun j Hc _ hP => ?_) (fun j x Hc Hc' hj hP hy => ?_) fun Hc hP => ?_
  · obtain ⟨_, _, _, _, n⟩ := hP
    exact same_tup n.gh hsq
  · obtain ⟨kvs, e1, e2, e3, n⟩ := hP
    obtain ⟨rfl, hx⟩ := hy
    obtain ⟨dx, hdx, hd⟩ := dpa_get hxa hx
    rw [List.getElem?_map] at hdx
    obtain ⟨e, hee, rfl⟩ := Option.map_eq_some_iff.mp hdx
    have ex := dp_int hd
    subst ex
    refine ⟨rfl, tyes ⟨_, rfl, kvs, Sum.inl (e : Int), rfl, e1, by have := M.z; omega, _, upd_same, ?_, fun k => ?_, ⟨n.gg, fun b u q => ?_, fun b u q => ?_, n.fr⟩⟩⟩
    · exact Nat.le_trans (put_len _ _ _) (by omega)
    · rw [valV_put, e3 k]
      have tk : es.take (j + 1) = es.take j ++ [e] := by rw [List.take_succ, hee]; rfl
      rw [tk]
      by_cases hk : k = e
      · subst hk
        rw [if_pos rfl, if_pos (List.mem_append_right _ List.mem_cons_self)]
      · rw [if_neg (fun z => hk (by have := Sum.inl.inj z; omega))]
        have : (k ∈ es.take j ++ [e]) ↔ (k ∈ es.take j) := by
          rw [List.mem_append, List.mem_singleton]
          exact ⟨fun h => h.elim id fun z => absurd z hk, .inl⟩
        simp only [this]
    · rw [upd_ne (ne_of_none q gDD)]; exact n.gh b u q
    · rw [upd_ne (ne_of_none q hDD)]; exact n.hh b u q
  obtain ⟨kvs, eK, _, hval, nD⟩ := hP
  rw [lxs, List.take_length] at hval
  obtain ⟨nD2, sD⟩ := nD.tell hDD gDD eK
  have eK4 : upd G3 DD (.dK kvs) DD = some (.dK kvs) := upd_same
  have n14 := n13.trans nD2
  clear nD nD2 hxa hsq
  generalize upd G3 DD (.dK kvs) = G4 at n14 eK4 sD
  -- found
  refine ⟨Nat.zero_le _, fun pf hpf => ?_⟩
  have g0 := Grow.start (K := K) n14.gh hpf
  have hpf0 : H pf = none := n14.hh.free hpf
  -- led
  dsimp only [gName]
  refine seq_letV (K := K) (G := G4) (ds := (ledN ws 0).map ledD) (en_lst (ea_cons (ed_tup (ea_cons (ed_tup ea_nil (Nat.zero_le _)) (ea_cons ed_int ea_nil)) (by show 2 ≤ sizeLine; omega)) ea_nil) (by show 1 ≤ sizeLine; omega)) g0.n.gh fun pl vl G5 H5 n5 hpl e5 ha5 => ?_
  have g5 := g0.step n5
  have hm4 := dp_mono n14.gg _ hm
  have mac4 := hg.mono n14.gg
  -- the lengths
  refine seq_forR (K := K) (G := G5) (n := m + 1) (fun k σ Hd => ∃ vled y3 y6 y7 y8 Gi, σ = [some (.ref g), some vm, some (.ref DD), y3, some (.ref pf), some vled, y6, y7, y8] ∧ Grow K G4 Hc pf ((foundN ws es k).map rowN) Gi Hd ∧ Dp K Gi vled (.list ((ledN ws (min k m)).map ledD)) ∧ (∀ i < min k m, (ledN ws (i + 1)).length ≤ 3000) ∧ (foundN ws es k).length ≤ 3000 * k) (EvD.cast (ed_op (ed_var (i := 1) rfl (dp_mono n5.gg _ hm4)) ed_int ro_i) (by rfl)) g5.n.gh (by omega) (fun G6 H6 n6 => ⟨.ref pl, _, _, _, _, G6, rfl, ?_, ?_, fun i hi => absurd hi (by omega), Nat.zero_le _⟩) (fun k σ Hd hk hP => ?_) fun σ Hd hP => ?_
  · exact g5.step n6
  · rw [Nat.zero_min]
    exact .lst (SqL.of (n6.gg _ _ e5)) (dpa_mono n6.gg _ ha5)
  · obtain ⟨vled, y3, y6, y7, y8, Gi, rfl, gr, hled, hsm, hlf⟩ := hP
    have hkm : min k m = k := by omega
    rw [hkm] at hled hsm
    have LO := ledN_ok M (by omega) hsm
    have l3 := LO.n
    have ek : (0 : Int) + (k : Int) = (k : Int) := by omega
    rw [ek]
    obtain ⟨acc, eacc, _⟩ := id gr.ex
    have eKi := gr.n.gg _ _ eK4
    refine ⟨_, rfl, .inl ⟨rfl, _, SqL.of eacc⟩, ?_⟩
    refine (EvN.cast (en_lcLF2 (K := K) (G := Gi) (i := 7) (j := 8) (σ := [some (.ref g), some vm, some (.ref DD), y3, some (.ref pf), some vled, some (.int (k : Int)), y7, y8]) (takeF es) (ed_var (i := 5) rfl hled) (fun _ _ => rfl) (by rw [List.length_map]; omega) (fun d hd => ?_) (fun x y v1 v2 Gk hd sg h1 h2 => ?_) fun x y e v1 v2 Gk hd hf sg h1 h2 => ?_) (takeF_all es (ledN ws k))).tellV gr.n.gh fun pz zs G6 H6 n6 hpz e6 ha6 => ?_
    · obtain ⟨r, _, rfl⟩ := List.mem_map.mp hd
      exact ⟨_, _, rfl⟩
    · obtain ⟨r, hr, er⟩ := List.mem_map.mp hd
      cases er
      have h2 := dp_int h2
      subst h2
      intro H' s' Q' q'
      refine ⟨_, rfl, _, rfl, DD, _, rfl, DGet.k (k := Sum.inl ((r.2 : Nat) : Int)) (s' _ _ (sg _ _ eKi)), _, rfl, ?_⟩
      rw [hval r.2]
      have e1 : (takeF es (.tuple [.tuple (nsD r.1), .int ((r.2 : Nat) : Int)])) = if r.2 ∈ es then some (.tuple (nsD r.1)) else none := rfl
      rw [e1] at q'
      by_cases hin : r.2 ∈ es
      · rw [if_pos hin] at q' ⊢; exact q' Gk H' (Nx.refl s')
      · rw [if_neg hin] at q' ⊢; exact q' Gk H' (Nx.refl s')
    · have hf : (if (toI y).toNat ∈ es then some x else none) = some e := hf
      split at hf
      · cases hf; exact ed_var (i := 7) rfl h1
      · cases hf
    have g6 := gr.step n6
    obtain ⟨acc6, eacc6, hacc6⟩ := id g6.ex
    have e6H := n6.gh _ _ e6
    have lac : acc6.length = (foundN ws es k).length := by rw [dpa_length hacc6, List.length_map]
    have lzs : zs.length = (takesD es (ledN ws k)).length := by rw [dpa_length ha6, List.length_map]
    have ltk := takesD_len es (ledN ws k)
    have g7 := g6.addAll hpf ha6 eacc6
    refine ⟨pf, pz, acc6, zs, rfl, rfl, eacc6, e6H, by omega, ?_⟩
    have efn : (foundN ws es (k + 1)).map rowN = (foundN ws es k).map rowN ++ (takesD es (ledN ws k)).map rowN := by rw [foundN_succ, List.map_append]
    have lfn : (foundN ws es (k + 1)).length ≤ 3000 * (k + 1) := by rw [foundN_succ, List.length_append]; omega
    rw [← efn] at g7
    generalize upd H6 pf (.lst (acc6 ++ zs)) = H7 at g7
    have hled7 := dp_mono n6.gg _ hled
    refine (eb_test (K := K) (G := G6) (ed_op (ed_var (i := 6) (σ := [some (.ref g), some vm, some (.ref DD), y3, some (.ref pf), some vled, some (.int (k : Int)), y7, y8]) rfl (.int (k : Int))) (ed_var (i := 1) rfl (dp_mono g7.n.gg _ hm4)) (ro_b (f := fun i j => decide (i < j))))) H7 g7.n.gh _ fun G8 H8 n8 => ?_
    have g8 := g7.step n8
    have hled8 := dp_mono n8.gg _ hled7
    by_cases hlt : (k : Int) < (m : Int)
    · refine if_on (decide_eq_true hlt) ?_
      dsimp only [tAsg, tCall, tCons]
      refine (ed_mw (K := K) (G := G8) OC nw (em_var (i := 0) (σ := [some (.ref g), some vm, some (.ref DD), y3, some (.ref pf), some vled, some (.int (k : Int)), y7, y8]) rfl (mac4.mono g8.n.gg))) H8 g8.n.gh _ fun vw G9 H9 n9 hw9 => ?_
      have g9 := g8.step n9
      refine ⟨_, rfl, G9, vw, vled, ws, ledN ws k, n9.gh, rfl, hw9, dp_mono n9.gg _ hled8, LO, l169, fun h3k p xs G10 H10 n10 hp10 e10 ha10 => ⟨_, _, _, _, _, G10, rfl, g9.step n10, ?_, fun i hi => ?_, lfn⟩, fun hbig d H10 s10 hd10 => q4 ⟨k, by omega, hbig⟩ d H10 ((n14.hh.trans g9.n.hh).trans s10) hd10⟩
      · rw [show min (k + 1) m = k + 1 by omega]
        exact .lst (SqL.of e10) ha10
      · by_cases hik : i = k
        · subst hik; exact h3k
        · exact hsm i (by omega)
    · refine if_off (decide_eq_false hlt) (nx_of ⟨_, _, _, _, _, G8, rfl, g8, ?_, fun i hi => hsm i (by omega), lfn⟩)
      rw [show min (k + 1) m = k by omega]
      exact hled8
  · obtain ⟨vled, y3, y6, y7, y8, Gi, rfl, gr, hled, hsm, hlf⟩ := hP
    obtain ⟨acc, eacc, hacc⟩ := gr.ex
    obtain ⟨mm, gi⟩ := gr.n.tell hpf gr.g eacc
    exact ⟨_, rfl, q3 (fun i hi => hsm i (by omega)) (.ref pf) _ Hd (n14.trans mm) (.lst (SqL.of upd_same) (dpa_mono gi _ hacc))⟩
end
end Gw
namespace Gw
open PySem PySem.Spec PyProof.Rows L2 LamX
/-! ### the law's own rows -/
def goL (ws : List (List (Option Nat))) : Option Nat → List Nat → Option Nat
  | o, [] => o
  | none, _ :: r => goL ws none r
  | some s, i :: r => goL ws ((ws.getD s []).getD i none) r
def extL (L : Nat) (r : List Nat) : List (List Nat) := (List.range L).map fun i => r ++ [i]
def rowsL (L : Nat) : Nat → List (List Nat)
  | 0 => [[]]
  | k + 1 => ((rowsL L k).map (extL L)).flatten
theorem getD_map {l : List (Option Nat)} {i : Nat} (h : i < l.length) : (l.map oD)[i]? = some (oD (l.getD i none)) := by
  rw [List.getElem?_map, List.getElem?_eq_getElem h, List.getD_eq_getElem?_getD, List.getElem?_eq_getElem h]; rfl
theorem getD_mem {l : List (Option Nat)} {i : Nat} (h : i < l.length) : l.getD i none ∈ l := by
  rw [List.getD_eq_getElem?_getD, List.getElem?_eq_getElem h]; exact List.getElem_mem h
def allL (L k : Nat) : List (List Nat) := ((List.range (k + 1)).map (rowsL L)).flatten
theorem allL_succ (L k : Nat) : allL L (k + 1) = allL L k ++ rowsL L (k + 1) := by
  unfold allL
  rw [List.range_succ, List.map_append, List.flatten_append]
  simp
section
variable {K : PySem.W.Frag} {σ : L2.St} {G H : Hp} {t1 t2 : TE} {ds es : List PyData}
theorem seq_par2 {i j : Nat} {u : TS} {D : Ends} (h1 : EvN K t1 σ G ds) (h2 : EvN K t2 σ G es) (s : Same G H) (k : ∀ p vs q us G1 H1, Nx G H G1 H1 → G1 p = some (.lst vs) → G1 q = some (.lst us) → DpAll K G1 vs ds → DpAll K G1 us es → u D ((σ.set i (some (.ref p))).set j (some (.ref q))) H1) : tSeq (tPar i j (tCons t1 (tCons t2 tNil))) u D σ H :=
  h1.tellV s fun p vs G1 H1 n1 _ e1 a1 => (h2.mono n1.gg).tellV n1.gh fun q us G2 H2 n2 _ e2 a2 => ⟨_, _, rfl, k p vs q us G2 H2 (n1.trans n2) (n2.gg _ _ e1) e2 (dpa_mono n2.gg _ a1) a2⟩
theorem en_catW {i j : Nat} {l m : Addr} {xs ys : List V} (h : σ[i]? = some (some (.ref l))) (hl : G l = some (.lst xs)) (ha : DpAll K G xs ds) (h' : σ[j]? = some (some (.ref m))) (hm : G m = some (.lst ys)) (hb : DpAll K G ys es) (hz : ds.length + es.length ≤ sizeLine) : EvN K (tOp rCat (tVar i) (tVar j)) σ G (ds ++ es) := fun H s Q q =>
  ⟨_, h, _, h', l, m, xs, ys, rfl, rfl, s _ _ hl, s _ _ hm, by rw [dpa_length ha, dpa_length hb]; exact hz, fun p2 hp2 => q p2 (xs ++ ys) G _ (Nx.lay s hp2) hp2 (s.free hp2) upd_same (dpa_append ha hb)⟩
end
section
variable {P : Program} {w : World} {K : PySem.W.Frag} {mg : Str → Option Value} {base : Heap} {f : Addr} {fd : FuncData}
def R_law_pairs_read : List PyData → PyData → Prop := fun ds d => ∃ (bs a b : List Int), ds = [wD bs, wD a, wD b] ∧ bs.length ≤ 1000 ∧ a.length ≤ 100000 ∧ b.length ≤ 100000 ∧ d = wD (prI bs.length a b)
theorem ok_law_pairs_read (D : DefAt K mg "_law_pairs_read" s_law_pairs_read P_law_pairs_read f fd) (T : Bt mg) : Ok P w K mg base "_law_pairs_read" P_law_pairs_read 1 (SpD K R_law_pairs_read) := by
  refine D.ok (okD D.F sc_law_pairs_read (fun ds d h => ?_) fun cdv A outer s H hr => ?_)
  · obtain ⟨bs, a, b, rfl, _⟩ := h; rfl
  have S := sc_law_pairs_read
  refine ⟨_, (pss_cons (ps_par (i := 3) (j := 4) rfl S.nd rfl rfl (by decide) rfl rfl (pa_cons (pe_callB (q_len K rfl) (by rfl) T.len PySem.boot_len (pa_cons (pv 0) pa_nil)) (pa_cons (pe_lst pa_nil) pa_nil)) (by rfl))
  (pss_cons (ps_for PassesOwn.never rfl (pi_range1 (by rfl) T.range (pa_cons (pe_callB (call_max2 rfl) (by rfl) T.max (by decide +kernel) (pa_cons (pe_callB (q_len K rfl) (by rfl) T.len PySem.boot_len (pa_cons (pv 1) pa_nil)) (pa_cons (pe_callB (q_len K rfl) (by rfl) T.len PySem.boot_len (pa_cons (pv 2) pa_nil)) pa_nil))) pa_nil)) (pg_name (i := 5) S.nd rfl (by first | exact .inl rfl | exact .inr rfl)) (pss_one (ps_expr (pe_bm PySem.F.plainAttrs_list PySem.F.slot_list_append PySem.F.type_list_append mt_append (pv 4) (pa_cons (pe_op op_add (pe_op op_mul (pe_ifExp (pt_cmpR op_lt (pv 5) (pe_callB (q_len K rfl) (by rfl) T.len PySem.boot_len (pa_cons (pv 1) pa_nil)) (nomark _)) (pe_ix (q_ixT K rfl) (pv 1) (pv 5) (fun _ _ => rfl)) (pv 3)) (pe_op op_add (pv 3) pe_int)) (pe_ifExp (pt_cmpR op_lt (pv 5) (pe_callB (q_len K rfl) (by rfl) T.len PySem.boot_len (pa_cons (pv 2) pa_nil)) (nomark _)) (pe_ix (q_ixT K rfl) (pv 2) (pv 5) (fun _ _ => rfl)) (pv 3))) pa_nil)))))
  (pss_one (ps_ret (pe_callTy (q_tuple K rfl) (by rfl) T.tuple (by decide +kernel) (pa_cons (pv 4) pa_nil)))))), fun G ds d vs hR ha H0 hs D' qq _ => ?_⟩
  obtain ⟨bs, a, b, rfl, lbs, la, lb, rfl⟩ := hR
  obtain _ | ⟨hb0, _ | ⟨h1, _ | ⟨h2, _ | _⟩⟩⟩ := ha
  have big : 2000000 ≤ sizeLine := by decide
  obtain ⟨ab, rfl, hsb⟩ := dp_ints_t hb0
  have lad : (a.map PyData.int).length = a.length := List.length_map _
  have lbd : (b.map PyData.int).length = b.length := List.length_map _
  refine ⟨_, rfl, ab, _, rfl, .inr (same_tup hs hsb), Nat.zero_le _, fun p hp => ⟨_, _, rfl, ?_⟩⟩
  have lbv : (bs.map V.int).length = bs.length := List.length_map _
  rw [lbv]
  have g0 := Grow.start (K := K) hs hp
  dsimp only
  generalize hm : (bs.length : Int) = m
  refine seq_forR (K := K) (G := G) (n := max a.length b.length) (fun k σ Hc => ∃ y5 Gi, σ = [some _, some _, some _, some (.int m), some (.ref p), y5] ∧ Grow K G H0 p (((List.range k).map (prAt m a b)).map .int) Gi Hc) (ed_cb (ea_cons (EvD.cast (ed_cb (ea_cons (ed_var (i := 1) rfl h1) ea_nil) rcl_len) (congrArg (fun n : Nat => PyData.int (n : Int)) lad)) (ea_cons (EvD.cast (ed_cb (ea_cons (ed_var (i := 2) rfl h2) ea_nil) rcl_len) (congrArg (fun n : Nat => PyData.int (n : Int)) lbd)) ea_nil)) rcl_max2) g0.n.gh (by omega) (fun G1 H1 n1 => ⟨_, G1, rfl, g0.step n1⟩) (fun k σ Hc hk hP => ?_) fun σ Hc hP => ?_
  · obtain ⟨y5, Gi, rfl, gr⟩ := hP
    have h1i := dp_mono gr.n.gg _ h1
    have h2i := dp_mono gr.n.gg _ h2
    have ek : (0 : Int) + (k : Int) = (k : Int) := by omega
    rw [ek]
    obtain ⟨acc3, e3, _⟩ := id gr.ex
    refine ⟨_, rfl, .inl ⟨rfl, _, SqL.of e3⟩, ?_⟩
    have cm : CMul (a.getD k m) (m + 1) := .inr ⟨by omega, by omega⟩
    have pick : ∀ {i : Nat} {c : List Int} {v : V} {σ : L2.St}, σ[i]? = some (some v) → σ[5]? = some (some (.int (k : Int))) → σ[3]? = some (some (.int m)) → Dp K Gi v (wD c) → EvD K (tIf (tTest (tOp (rI0 fun i j => V.bl (decide (i < j))) (tVar 5) (tCB (rLenQ K) (tCons (tVar i) tNil)))) (tOp (rIxT K) (tVar i) (tVar 5)) (tVar 3)) σ Gi (.int (c.getD k m)) := fun {i c v σ} hi h5 h3 hd => by
      have lc : (c.map PyData.int).length = c.length := List.length_map _
      refine ed_if (b := decide ((k : Int) < (c.length : Int))) (EvB.cast (eb_test (ed_op (ed_var (i := 5) h5 (.int (k : Int))) (EvD.cast (ed_cb (ea_cons (ed_var (i := i) hi hd) ea_nil) rcl_len) (congrArg (fun n : Nat => PyData.int (n : Int)) lc)) (ro_b (f := fun i j => decide (i < j))))) rfl) (fun z => ?_) fun z => ?_
      · have hka : k < c.length := by have := of_decide_eq_true z; omega
        refine ed_op (ed_var (i := i) hi hd) (ed_var (i := 5) h5 (.int (k : Int))) (ro_ixT (k := k) rfl ?_)
        rw [List.getElem?_map, List.getElem?_eq_getElem hka, List.getD_eq_getElem?_getD, List.getElem?_eq_getElem hka]; rfl
      · have hka : ¬ k < c.length := by have := of_decide_eq_false z; omega
        refine (ed_var (i := 3) h3 (.int m)).cast ?_
        rw [List.getD_eq_getElem?_getD, List.getElem?_eq_none (by omega)]; rfl
    refine (ed_op (K := K) (G := Gi) (σ := [some _, some _, some _, some (.int m), some (.ref p), some (.int (k : Int))]) (ed_op (pick (i := 1) rfl rfl rfl h1i) (ed_op (ed_var (i := 3) rfl (.int m)) ed_int ro_i) (ro_ic (f := fun i j => i * j) cm)) (pick (i := 2) rfl rfl rfl h2i) ro_i) Hc gr.n.gh _ fun v4 G4 H4 n4 hd4 => ?_
    have g4 := gr.step n4
    obtain ⟨acc4, e4, ha4⟩ := id g4.ex
    refine ⟨p, acc4, v4, rfl, rfl, e4, ?_, ⟨_, G4, rfl, ?_⟩⟩
    · have h1 := dpa_length ha4
      rw [List.length_map, List.length_map, List.length_range] at h1
      omega
    · rw [List.range_succ, List.map_append, List.map_append]
      exact g4.add hp hd4 e4
  · obtain ⟨y5, Gi, rfl, gr⟩ := hP
    obtain ⟨acc, e, hacc⟩ := gr.ex
    obtain ⟨m1, gi⟩ := gr.n.tell hp gr.g e
    exact (rd_ret (K := K) (G := upd Gi p (.lst acc)) (d := wD (prI m a b)) (ed_cb (ea_cons (ed_var (i := 4) rfl (.lst (SqL.of upd_same) (dpa_mono gi _ hacc))) ea_nil) rcl_tupleL)) Hc m1.gh D' fun v G2 H2 n2 hd => qq v G2 H2 (m1.trans n2) (by rw [hm]; exact hd)
def R_law_went : List PyData → PyData → Prop := fun ds d => ∃ (L : Nat) (ws : List (List (Option Nat))) (r : List Nat), ds = [.list (ws.map wayL), rowN r] ∧ 0 < ws.length ∧ (∀ w ∈ ws, WOk L ws.length w) ∧ (∀ i ∈ r, i < L) ∧ d = oD (goL ws (some 0) r)
theorem ok_law_went (D : DefAt K mg "_law_went" s_law_went P_law_went f fd) (T : Bt mg) : Ok P w K mg base "_law_went" P_law_went 1 (SpD K R_law_went) := by
  refine D.ok (okD D.F sc_law_went (fun ds d h => ?_) fun cdv A outer s H hr => ?_)
  · obtain ⟨L, ws, r, rfl, _⟩ := h; rfl
  have S := sc_law_went
  refine ⟨_, (pss_cons (ps_set (i := 2) S.nd rfl (by first | exact .inl rfl | exact .inr rfl) pe_int)
  (pss_cons (ps_for PassesOwn.never rfl (q_iT K rfl (pv 1)) (pg_name (i := 3) S.nd rfl (by first | exact .inl rfl | exact .inr rfl)) (pss_one (ps_set (i := 2) S.nd rfl (by first | exact .inl rfl | exact .inr rfl) (pe_ifExp (pt_cmpR op_isN (pv 2) pe_non (nomark _)) pe_non (pe_ix (q_ixL K rfl) (pe_ix (q_ixL K rfl) (pv 0) (pv 2) (fun _ _ => rfl)) (pv 3) (fun _ _ => rfl))))))
  (pss_one (ps_ret (pv 2))))), fun G ds d vs hR ha H0 hs D' qq _ => ?_⟩
  obtain ⟨L, ws, r, rfl, n1, W, hrL, rfl⟩ := hR
  obtain _ | ⟨h1, _ | ⟨h2, _ | _⟩⟩ := ha
  cases h2 with
  | @tup a xs _ hsq hxa =>
  have lx : xs.length = r.length := by rw [dpa_length hxa, List.length_map]
  refine seq_asg ?_
  refine ⟨_, rfl, a, rfl, ⟨xs, same_tup hs hsq⟩, for_it (walk_tup (K := K) (a := a) (xs := xs)) (fun j σ Hc => ∃ v2 y3 Gi o, σ = [some _, some (.ref a), some v2, y3] ∧ Nx G H0 Gi Hc ∧ Dp K Gi v2 (oD o) ∧ goL ws o (r.drop j) = goL ws (some 0) r ∧ ∀ s, o = some s → s < ws.length) ⟨_, _, G, some 0, rfl, Nx.refl hs, .int 0, rfl, fun s e => by cases e; exact n1⟩ (fun j σ Hc _ hP => ?_) (fun j x σ Hc Hc' hj hP hy => ?_) fun σ Hc hP => ?_⟩
  · obtain ⟨_, _, Gi, _, _, n, _⟩ := hP
    exact same_tup (hs.trans n.hh) hsq
  · obtain ⟨v2, y3, Gi, o, rfl, n, hv2, hgo, hok⟩ := hP
    obtain ⟨rfl, hx⟩ := hy
    obtain ⟨dx, hdx, hd⟩ := dpa_get hxa hx
    rw [List.getElem?_map] at hdx
    obtain ⟨i, hi, rfl⟩ := Option.map_eq_some_iff.mp hdx
    have hjr : j < r.length := by omega
    have ei : r[j] = i := by rw [List.getElem?_eq_getElem hjr] at hi; exact Option.some.inj hi
    have hdrop : r.drop j = i :: r.drop (j + 1) := by rw [List.drop_eq_getElem_cons hjr, ei]
    rw [hdrop] at hgo
    have hx0 := dp_int hd
    subst hx0
    have hiL : i < L := hrL i (List.mem_of_getElem? hi)
    have h1i := dp_mono n.gg _ h1
    cases o with
    | none =>
      dsimp only [gName]
      refine asg_let (K := K) (G := Gi) (ed_if (b := true) (d := oD none) (eb_test (ed_op (ed_var (i := 2) rfl hv2) ed_non (fun G H s vx vy hx hy Q q => by rw [dp_non hx, dp_non hy]; exact ⟨rfl, q _ G H (Nx.refl s) (.bl _)⟩))) (fun _ => ed_non) (fun z => nomatch z)) n.gh fun v3 G3 H3 n3 hv3 => ⟨v3, _, G3, none, rfl, n.trans n3, hv3, hgo, fun s e => nomatch e⟩
    | some st =>
      have hst := hok st rfl
      have g1 : (ws.map wayL)[st]? = some (wayL (ws.getD st [])) := by
        rw [List.getElem?_map, List.getElem?_eq_getElem hst, List.getD_eq_getElem?_getD, List.getElem?_eq_getElem hst]; rfl
      have hwm : ws.getD st [] ∈ ws := by rw [List.getD_eq_getElem?_getD, List.getElem?_eq_getElem hst]; exact List.getElem_mem hst
      have Wk := W _ hwm
      have hil : i < (ws.getD st []).length := by rw [Wk.l]; exact hiL
      have g2 : ((ws.getD st []).map oD)[i]? = some (oD ((ws.getD st []).getD i none)) := getD_map hil
      dsimp only [gName]
      refine asg_let (K := K) (G := Gi) (ed_if (b := false) (d := oD ((ws.getD st []).getD i none)) (eb_test (ed_op (ed_var (i := 2) rfl hv2) ed_non (fun G H s vx vy hx hy Q q => by rw [dp_int hx, dp_non hy]; exact ⟨rfl, q _ G H (Nx.refl s) (.bl _)⟩))) (fun z => nomatch z) fun _ => ed_op (ed_op (ed_var (i := 0) rfl h1i) (ed_var (i := 2) rfl hv2) (ro_ixL (k := st) rfl g1)) (ed_var (i := 3) rfl (.int (i : Int))) (ro_ixL (k := i) rfl g2)) n.gh fun v3 G3 H3 n3 hv3 => ⟨v3, _, G3, _, rfl, n.trans n3, hv3, hgo, fun s e => ?_⟩
      refine Wk.s s ?_
      rw [← e]
      exact getD_mem hil
  · obtain ⟨v2, y3, Gi, o, rfl, n, hv2, hgo, hok⟩ := hP
    rw [lx, List.drop_length] at hgo
    have : o = goL ws (some 0) r := by rw [← hgo]; cases o <;> rfl
    subst this
    exact ⟨_, rfl, qq _ Gi Hc n hv2⟩
end
end Gw
namespace Gw
open PySem PySem.Spec PyProof.Rows L2 LamX
/-! ### the law's list of all rows -/
theorem rowsL_len (L : Nat) : ∀ k, (rowsL L k).length = L ^ k
  | 0 => rfl
  | k + 1 => by
    show (((rowsL L k).map (extL L)).flatten).length = _
    have h : ∀ l : List (List Nat), ((l.map (extL L)).flatten).length = l.length * L := fun l => by
      induction l with
      | nil => simp
      | cons r l ih =>
        rw [List.map_cons, List.flatten_cons, List.length_append, ih, List.length_cons, Nat.succ_mul]
        have : (extL L r).length = L := by unfold extL; rw [List.length_map, List.length_range]
        omega
    rw [h, rowsL_len L k, Nat.pow_succ]
theorem rowsL_4 {L k : Nat} (hL : L ≤ 4) (hk : k ≤ 4) : (rowsL L k).length ≤ 256 := by
  rw [rowsL_len]
  exact Nat.le_trans (Nat.pow_le_pow_left hL k) (Nat.le_trans (Nat.pow_le_pow_right (by decide : 0 < 4) hk) (by decide))
theorem allL_4 {L : Nat} (hL : L ≤ 4) : ∀ {k : Nat}, k ≤ 4 → (allL L k).length ≤ 256 * (k + 1)
  | 0, _ => by show 1 ≤ 256; decide
  | k + 1, h => by
    rw [allL_succ, List.length_append]
    have h1 := allL_4 hL (k := k) (by omega)
    have h2 := rowsL_4 hL h
    omega
theorem rowsL_mem {L : Nat} : ∀ (k : Nat) {r : List Nat}, r ∈ rowsL L k → r.length = k ∧ ∀ i ∈ r, i < L
  | 0, r, h => by
    have h : r ∈ [([] : List Nat)] := h
    rw [List.mem_singleton.mp h]
    exact ⟨rfl, fun i z => nomatch z⟩
  | k + 1, r, h => by
    obtain ⟨l, hl, hr⟩ := List.mem_flatten.mp (show r ∈ ((rowsL L k).map (extL L)).flatten from h)
    obtain ⟨r0, h0, rfl⟩ := List.mem_map.mp hl
    obtain ⟨i1, i2⟩ := rowsL_mem k h0
    unfold extL at hr
    obtain ⟨i, hi, rfl⟩ := List.mem_map.mp hr
    refine ⟨by rw [List.length_append, i1]; rfl, fun j hj => ?_⟩
    rcases List.mem_append.mp hj with hj | hj
    · exact i2 j hj
    · rw [List.mem_singleton.mp hj]; exact List.mem_range.mp hi
theorem flat_take {α β : Type} (f : α → List β) {l : List α} {j : Nat} {x : α} (h : l[j]? = some x) : ((l.take (j + 1)).map f).flatten = ((l.take j).map f).flatten ++ f x := by
  rw [List.take_succ, h, List.map_append, List.flatten_append]
  simp
theorem flat_len {L : Nat} : ∀ {l : List (List Nat)}, ((l.map (extL L)).flatten).length = l.length * L
  | [] => by simp
  | r :: l => by
    rw [List.map_cons, List.flatten_cons, List.length_append, flat_len (l := l), List.length_cons, Nat.succ_mul]
    have : (extL L r).length = L := by unfold extL; rw [List.length_map, List.length_range]
    omega
section
variable {P : Program} {w : World} {K : PySem.W.Frag} {mg : Str → Option Value} {base : Heap} {f : Addr} {fd : FuncData}
def R_law_all : List PyData → PyData → Prop := fun ds d => ∃ (L m : Nat), ds = [.int (L : Int), .int (m : Int)] ∧ L ≤ 4 ∧ m ≤ 4 ∧ d = .list ((allL L m).map rowN)
theorem ok_law_all (D : DefAt K mg "_law_all" s_law_all P_law_all f fd) (T : Bt mg) : Ok P w K mg base "_law_all" P_law_all 1 (SpD K R_law_all) := by
  refine D.ok (okD D.F sc_law_all (fun ds d h => ?_) fun cdv A outer s H hr => ?_)
  · obtain ⟨L, m, rfl, _⟩ := h; rfl
  have S := sc_law_all
  refine ⟨_, (pss_cons (ps_par (i := 2) (j := 3) rfl S.nd rfl rfl (by decide) rfl rfl (pa_cons (pe_lst (pa_cons (pe_tup pa_nil) pa_nil)) (pa_cons (pe_lst (pa_cons (pe_tup pa_nil) pa_nil)) pa_nil)) (by rfl))
  (pss_cons (ps_for PassesOwn.never rfl (pi_range1 (by rfl) T.range (pa_cons (pv 1) pa_nil)) (pg_name (i := 4) S.nd rfl (by first | exact .inl rfl | exact .inr rfl)) (pss_cons (ps_set (i := 5) S.nd rfl (by first | exact .inl rfl | exact .inr rfl) (pe_lst pa_nil))
  (pss_cons (ps_for PassesOwn.never rfl (q_iL K rfl (pv 3)) (pg_name (i := 6) S.nd rfl (by first | exact .inl rfl | exact .inr rfl)) (pss_one (ps_set (i := 5) S.nd rfl (by first | exact .inl rfl | exact .inr rfl) (pe_op op_cat (pv 5) (pe_lc (own := [("k", 7)]) (g := gName 7) (by rfl) S.nd  (pi_range1 (by rfl) T.range (pa_cons (pv 0) pa_nil)) (blkOk_by (N := N_law_all) (sc := defScope s_law_all) (by decide +kernel)) (fun _ _ _ _ _ => (pg_name (i := 7) S.nd rfl (by first | exact .inl rfl | exact .inr rfl))) (fun _ _ _ _ _ => pts_nil) (fun _ _ _ _ _ => (pe_op (q_catT K rfl) (pv 6) (pe_tup (pa_cons (pv 7) pa_nil)))))))))
  (pss_cons (ps_set (i := 3) S.nd rfl (by first | exact .inl rfl | exact .inr rfl) (pv 5))
  (pss_one (ps_set (i := 2) S.nd rfl (by first | exact .inl rfl | exact .inr rfl) (pe_op op_cat (pv 2) (pv 5))))))))
  (pss_one (ps_ret (pv 2))))), fun G ds d vs hR ha H0 hs D' qq _ => ?_⟩
  obtain ⟨L, m, rfl, hL4, hm4, rfl⟩ := hR
  obtain _ | ⟨hL, _ | ⟨hm, _ | _⟩⟩ := ha
  have big : 2000000 ≤ sizeLine := by decide
  have one : ∀ {σ : L2.St}, EvN K (tLst (tCons (tTup tNil) tNil)) σ G ((rowsL L 0).map rowN) := fun {σ} => en_lst (ea_cons (ed_tup ea_nil (Nat.zero_le _)) ea_nil) (by show 1 ≤ sizeLine; omega)
  refine seq_par2 (K := K) (G := G) one one hs fun p xs q us G1 H1 n1 e1 e2 a1 a2 => ?_
  refine seq_forR (K := K) (G := G1) (n := m) (fun k σ Hc => ∃ pf xf ph xh y4 y5 y6 y7 Gi, σ = [some _, some _, some (.ref pf), some (.ref ph), y4, y5, y6, y7] ∧ Nx G H0 Gi Hc ∧ Gi pf = some (.lst xf) ∧ DpAll K Gi xf ((allL L k).map rowN) ∧ Gi ph = some (.lst xh) ∧ DpAll K Gi xh ((rowsL L k).map rowN)) (ed_var (i := 1) rfl (dp_mono n1.gg _ hm)) n1.gh (by omega) (fun G2 H2 n2 => ⟨p, xs, q, us, _, _, _, _, G2, rfl, n1.trans n2, n2.gg _ _ e1, dpa_mono n2.gg _ a1, n2.gg _ _ e2, dpa_mono n2.gg _ a2⟩) (fun k σ Hc hk hP => ?_) fun σ Hc hP => ?_
  · obtain ⟨pf, xf, ph, xh, y4, y5, y6, y7, Gi, rfl, n, ef, af, eh, ah⟩ := hP
    have hr4 := rowsL_4 hL4 (k := k) (by omega)
    have lxh : xh.length = (rowsL L k).length := by rw [dpa_length ah, List.length_map]
    dsimp only [gName]
    refine seq_letV (K := K) (G := Gi) (en_lst ea_nil (Nat.zero_le _)) n.gh fun pm xm G2 H2 n2 _ em am => ?_
    refine ⟨_, rfl, ph, rfl, ⟨xh, n2.gh.seq (SqL.of (n2.gg _ _ eh))⟩, for_list (K := K) (a := ph) (xs := xh) (fun j σ Hd => ∃ pm xm y6 y7 Gj, σ = [some _, some _, some (.ref pf), some (.ref ph), some (.int ((0 : Int) + (k : Int))), some (.ref pm), y6, y7] ∧ Nx G2 H2 Gj Hd ∧ Gj pm = some (.lst xm) ∧ DpAll K Gj xm (((((rowsL L k).take j).map (extL L)).flatten).map rowN)) ⟨pm, xm, _, _, G2, rfl, Nx.refl n2.gh, em, am⟩ (fun j σ Hd _ hP => ?_) (fun j x σ Hd hj hP => ?_) fun σ Hd hP => ?_⟩
    · obtain ⟨_, _, _, _, Gj, _, nj, _⟩ := hP
      exact nj.gh.seq (SqL.of (nj.gg _ _ (n2.gg _ _ eh)))
    · obtain ⟨pm', xm', y6', y7', Gj, rfl, nj, em', am'⟩ := hP
      obtain ⟨dx, hdx, hd⟩ := dpa_get ah hj
      rw [List.getElem?_map] at hdx
      obtain ⟨r, hr', rfl⟩ := Option.map_eq_some_iff.mp hdx
      have hjl := (List.getElem?_eq_some_iff.mp hr').1
      have hdj := dp_mono (n2.gg.trans nj.gg) _ hd
      have hLj := dp_mono ((n.gg.trans n2.gg).trans nj.gg) _ hL
      have lt : (((((rowsL L k).take j).map (extL L)).flatten).map rowN).length ≤ 1024 := by
        rw [List.length_map, flat_len, List.length_take]
        have : min j (rowsL L k).length * L ≤ 256 * 4 := Nat.mul_le_mul (by omega) hL4
        omega
      have hrl : r.length ≤ 1000000 := by have := (rowsL_mem k (List.mem_of_getElem? hr')).1; omega
      have e3 : (List.range (L : Int).toNat).map (fun i => rowN (r ++ [i])) = (extL L r).map rowN := by
        rw [Int.toNat_natCast]; unfold extL; rw [List.map_map]; rfl
      have lx3 : ((extL L r).map rowN).length ≤ 4 := by rw [List.length_map]; unfold extL; rw [List.length_map, List.length_range]; exact hL4
      dsimp only [gName]
      refine (en_catV (K := K) (G := Gj) (i := 5) rfl em' am' (EvN.cast (en_lcR1 (i := 7) (m := (L : Int)) (fun i => rowN (r ++ [i])) (ed_var (i := 0) rfl hLj) (fun _ => rfl) (by omega) (by omega) fun i Gk hi sg => ?_) e3) (by omega)).tellV nj.gh fun pn xn G5 H5 n5 _ e5 a5 => ⟨pn, xn, _, _, G5, rfl, nj.trans n5, e5, ?_⟩
      · have en : rowN (r ++ [i]) = .tuple (nsD r ++ [.int (i : Int)]) := congrArg PyData.tuple List.map_append
        rw [en]
        exact ed_op (ed_var (i := 6) rfl (dp_mono sg _ hdj)) (ed_tup (ea_cons (ed_var (i := 7) rfl (.int (i : Int))) ea_nil) (by show 1 ≤ sizeLine; omega)) (ro_cat (by rw [show (nsD r).length = r.length from List.length_map _]; show _ + 1 ≤ _; omega))
      · rw [flat_take (extL L) hr', List.map_append]
        exact a5
    · obtain ⟨pm', xm', y6', y7', Gj, rfl, nj, em', am'⟩ := hP
      rw [lxh, List.take_length] at am'
      have n3 := (n.trans n2).trans nj
      have s3 := n2.gg.trans nj.gg
      have l1 := allL_4 hL4 (k := k) (by omega)
      have l2 := rowsL_4 hL4 (k := k + 1) (by omega)
      dsimp only
      refine seq_asg (te := tVar 5) (i := 3) ⟨_, rfl, ?_⟩
      dsimp only [tAsg, gName]
      refine (en_catW (K := K) (G := Gj) (i := 2) (j := 5) (σ := [some _, some _, some (.ref pf), some (.ref pm'), some _, some (.ref pm'), y6', y7']) rfl (s3 _ _ ef) (dpa_mono s3 _ af) rfl em' am' (by rw [List.length_map, List.length_map]; show _ + (rowsL L (k + 1)).length ≤ _; omega)).tellV nj.gh fun pn xn G5 H5 n5 _ e5 a5 => ⟨pn, xn, pm', xm', _, _, _, _, G5, rfl, n3.trans n5, e5, ?_, n5.gg _ _ em', dpa_mono n5.gg _ am'⟩
      rw [allL_succ, List.map_append]
      exact a5
  · obtain ⟨pf, xf, ph, xh, y4, y5, y6, y7, Gi, rfl, n, ef, af, eh, ah⟩ := hP
    exact ⟨_, rfl, qq _ Gi Hc n (.lst (SqL.of ef) af)⟩
end
end Gw
namespace Gw
open PySem PySem.Spec PyProof.Rows L2 LamX
/-! ### which rows are pair rows -/
def goodLine (m : Int) (A : List Int) : Prop := ∀ k, k + 1 < A.length → ¬ (A.getD k 0 = m ∧ A.getD (k + 1) 0 < m)
def flt (m : Int) (A : List Int) : List Int := A.filter fun y => decide (y < m)
theorem flt_len (m : Int) (A : List Int) : (flt m A).length ≤ A.length := List.length_filter_le _ _
theorem flt_lt {m y : Int} {A : List Int} (h : y ∈ flt m A) : y < m := of_decide_eq_true (List.mem_filter.mp h).2
theorem good_tail {m a : Int} {A : List Int} (h : goodLine m (a :: A)) : goodLine m A := fun k hk z => h (k + 1) (by rw [List.length_cons]; omega) z
theorem all_m {m : Int} : ∀ {A : List Int}, goodLine m (m :: A) → (∀ a ∈ A, a ≤ m) → ∀ a ∈ A, a = m
  | [], _, _, a, h => nomatch h
  | x :: A, g, le, a, h => by
    have hx : x = m := by
      have h1 := g 0 (by simp)
      have h2 := le x List.mem_cons_self
      have h3 : ¬ (m = m ∧ x < m) := h1
      have : ¬ x < m := fun z => h3 ⟨rfl, z⟩
      omega
    subst hx
    rcases List.mem_cons.mp h with rfl | h
    · rfl
    · exact all_m (good_tail g) (fun b hb => le b (List.mem_cons_of_mem _ hb)) a h
theorem good_flt {m : Int} : ∀ {A : List Int}, goodLine m A → (∀ a ∈ A, a ≤ m) → ∀ k, k < A.length → A.getD k 0 = (flt m A).getD k m
  | [], _, _, k, hk => absurd hk (Nat.not_lt_zero _)
  | a :: A, g, le, k, hk => by
    by_cases ha : a < m
    · have e : flt m (a :: A) = a :: flt m A := by unfold flt; rw [List.filter_cons, decide_eq_true ha]; rfl
      rw [e]
      cases k with
      | zero => rfl
      | succ k =>
        have := good_flt (good_tail g) (fun b hb => le b (List.mem_cons_of_mem _ hb)) k (by rw [List.length_cons] at hk; omega)
        exact this
    · have hm : a = m := by have := le a List.mem_cons_self; omega
      subst hm
      have al := all_m g (fun b hb => le b (List.mem_cons_of_mem _ hb))
      have e : flt a (a :: A) = [] := by
        unfold flt
        rw [List.filter_eq_nil_iff]
        intro b hb z
        have z := of_decide_eq_true z
        rcases List.mem_cons.mp hb with rfl | hb
        · omega
        · have := al b hb; omega
      rw [e]
      have mem : (a :: A).getD k 0 ∈ a :: A := by rw [List.getD_eq_getElem?_getD, List.getElem?_eq_getElem hk]; exact List.getElem_mem hk
      rcases List.mem_cons.mp mem with h | h
      · rw [h]; rfl
      · rw [al _ h]; rfl
theorem flt_good {m : Int} {A : List Int} (h : ∀ k, k < A.length → A.getD k 0 = (flt m A).getD k m) : goodLine m A := by
  rintro k hk ⟨h1, h2⟩
  have e1 := h k (by omega)
  have e2 := h (k + 1) hk
  have big : (flt m A).length ≤ k := by
    rcases Nat.lt_or_ge k (flt m A).length with z | z
    · have : (flt m A).getD k m ∈ flt m A := by rw [List.getD_eq_getElem?_getD, List.getElem?_eq_getElem z]; exact List.getElem_mem z
      have := flt_lt this
      omega
    · exact z
  have e3 : (flt m A).getD (k + 1) m = m := by rw [List.getD_eq_getElem?_getD, List.getElem?_eq_none (by omega)]; rfl
  omega
theorem dig {m a b : Int} (hm : 0 ≤ m) (hb : 0 ≤ b ∧ b ≤ m) : (a * (m + 1) + b).fdiv (m + 1) = a ∧ (a * (m + 1) + b).fmod (m + 1) = b := by
  have hp : 0 < m + 1 := by omega
  rw [Int.fdiv_eq_ediv_of_nonneg _ (Int.le_of_lt hp), Int.fmod_eq_emod_of_nonneg _ (Int.le_of_lt hp)]
  constructor
  · rw [Int.add_comm, Int.add_mul_ediv_right _ _ (by omega), Int.ediv_eq_zero_of_lt hb.1 (by omega)]; omega
  · rw [Int.add_comm, Int.add_mul_emod_self_right, Int.emod_eq_of_lt hb.1 (by omega)]
theorem undig {m x : Int} (hm : 0 ≤ m) : x = x.fdiv (m + 1) * (m + 1) + x.fmod (m + 1) := by
  have hp : 0 < m + 1 := by omega
  rw [Int.fdiv_eq_ediv_of_nonneg _ (Int.le_of_lt hp), Int.fmod_eq_emod_of_nonneg _ (Int.le_of_lt hp)]
  have := Int.emod_add_mul_ediv x (m + 1)
  rw [Int.mul_comm] at this
  omega
theorem dig_in {m x : Int} (hm : 0 ≤ m) (h0 : 0 ≤ x) (h1 : x < (m + 1) * (m + 1)) : (0 ≤ x.fdiv (m + 1) ∧ x.fdiv (m + 1) ≤ m) ∧ (0 ≤ x.fmod (m + 1) ∧ x.fmod (m + 1) ≤ m) := by
  have hp : 0 < m + 1 := by omega
  rw [Int.fdiv_eq_ediv_of_nonneg _ (Int.le_of_lt hp), Int.fmod_eq_emod_of_nonneg _ (Int.le_of_lt hp)]
  have h2 := Int.emod_nonneg x (by omega : m + 1 ≠ 0)
  have h3 := Int.emod_lt_of_pos x hp
  have h4 := Int.ediv_nonneg h0 (Int.le_of_lt hp)
  have h5 := Int.ediv_lt_of_lt_mul hp h1
  omega
def divs (m : Int) (r : List Int) : List Int := r.map fun x => x.fdiv (m + 1)
def mods (m : Int) (r : List Int) : List Int := r.map fun x => x.fmod (m + 1)
theorem getD_map0 {f : Int → Int} {r : List Int} {k : Nat} (h : k < r.length) : (r.map f).getD k 0 = f (r.getD k 0) := by
  rw [List.getD_eq_getElem?_getD, List.getElem?_map, List.getElem?_eq_getElem h, List.getD_eq_getElem?_getD, List.getElem?_eq_getElem h]; rfl
theorem prI_get {m : Int} {a b : List Int} {k : Nat} (h : k < max a.length b.length) : (prI m a b).getD k 0 = a.getD k m * (m + 1) + b.getD k m := by
  unfold prI
  rw [List.getD_eq_getElem?_getD, List.getElem?_map, List.getElem?_range h]
  rfl
theorem prI_at {m : Int} {a b : List Int} {k : Nat} (h : k < (prI m a b).length) : (prI m a b)[k] = a.getD k m * (m + 1) + b.getD k m := by
  have h2 : k < max a.length b.length := by unfold prI at h; rw [List.length_map, List.length_range] at h; exact h
  have h3 := prI_get (m := m) h2
  rw [List.getD_eq_getElem?_getD, List.getElem?_eq_getElem h] at h3
  exact h3
theorem pr_iff {m : Int} (hm : 0 ≤ m) {r : List Int} (hr : ∀ x ∈ r, 0 ≤ x ∧ x < (m + 1) * (m + 1)) :
    prI m (poA m r) (poB m r) = r ↔ (∀ x ∈ r, x < (m + 1) * (m + 1) - 1) ∧ goodLine m (divs m r) ∧ goodLine m (mods m r) := by
  have eA : poA m r = flt m (divs m r) := rfl
  have eB : poB m r = flt m (mods m r) := rfl
  have lA : (divs m r).length = r.length := List.length_map _
  have lB : (mods m r).length = r.length := List.length_map _
  have fA := flt_len m (divs m r)
  have fB := flt_len m (mods m r)
  rw [eA, eB]
  have leA : ∀ a ∈ divs m r, a ≤ m := fun a ha => by
    obtain ⟨x, hx, rfl⟩ := List.mem_map.mp ha
    exact (dig_in hm (hr x hx).1 (hr x hx).2).1.2
  have leB : ∀ a ∈ mods m r, a ≤ m := fun a ha => by
    obtain ⟨x, hx, rfl⟩ := List.mem_map.mp ha
    exact (dig_in hm (hr x hx).1 (hr x hx).2).2.2
  have memr : ∀ k, k < r.length → r.getD k 0 ∈ r := fun k hk => by rw [List.getD_eq_getElem?_getD, List.getElem?_eq_getElem hk]; exact List.getElem_mem hk
  have full : m * (m + 1) + m = (m + 1) * (m + 1) - 1 := by rw [Int.add_mul]; omega
  constructor
  · intro e
    have len : max (flt m (divs m r)).length (flt m (mods m r)).length = r.length := by
      have := congrArg List.length e
      unfold prI at this
      rw [List.length_map, List.length_range] at this
      exact this
    have at_ : ∀ k, k < r.length → (flt m (divs m r)).getD k m * (m + 1) + (flt m (mods m r)).getD k m = r.getD k 0 := fun k hk => by
      have h1 : (prI m (flt m (divs m r)) (flt m (mods m r))).getD k 0 = r.getD k 0 := by rw [e]
      rw [← h1]
      exact (prI_get (by omega)).symm
    have nb : ∀ k, 0 ≤ (flt m (mods m r)).getD k m ∧ (flt m (mods m r)).getD k m ≤ m := fun k => by
      rcases Nat.lt_or_ge k (flt m (mods m r)).length with z | z
      · have hmem : (flt m (mods m r)).getD k m ∈ flt m (mods m r) := by rw [List.getD_eq_getElem?_getD, List.getElem?_eq_getElem z]; exact List.getElem_mem z
        have h1 := flt_lt hmem
        have h2 := (List.mem_filter.mp hmem).1
        obtain ⟨x, hx, ex⟩ := List.mem_map.mp h2
        have := (dig_in hm (hr x hx).1 (hr x hx).2).2.1
        omega
      · rw [List.getD_eq_getElem?_getD, List.getElem?_eq_none z]
        exact ⟨hm, Int.le_refl _⟩
    have dA : ∀ k, k < (divs m r).length → (divs m r).getD k 0 = (flt m (divs m r)).getD k m := fun k hk => by
      rw [lA] at hk
      show (r.map fun x => x.fdiv (m + 1)).getD k 0 = _
      rw [getD_map0 (f := fun x => x.fdiv (m + 1)) hk, ← at_ k hk]
      exact (dig hm (nb k)).1
    have dB : ∀ k, k < (mods m r).length → (mods m r).getD k 0 = (flt m (mods m r)).getD k m := fun k hk => by
      rw [lB] at hk
      show (r.map fun x => x.fmod (m + 1)).getD k 0 = _
      rw [getD_map0 (f := fun x => x.fmod (m + 1)) hk, ← at_ k hk]
      exact (dig hm (nb k)).2
    refine ⟨fun x hx => ?_, flt_good dA, flt_good dB⟩
    obtain ⟨k, hk, rfl⟩ := List.getElem_of_mem hx
    have ex : r.getD k 0 = r[k] := by rw [List.getD_eq_getElem?_getD, List.getElem?_eq_getElem hk]; rfl
    have hb := (hr _ hx).2
    rcases Int.lt_or_le (r[k]) ((m + 1) * (m + 1) - 1) with z | z
    · exact z
    · exfalso
      have e9 : r[k] = m * (m + 1) + m := by omega
      have d1 := dA k (by rw [lA]; exact hk)
      have d2 := dB k (by rw [lB]; exact hk)
      rw [show (divs m r).getD k 0 = m by
        show (r.map fun x => x.fdiv (m + 1)).getD k 0 = _
        rw [getD_map0 (f := fun x => x.fdiv (m + 1)) hk, ex, e9]; exact (dig hm ⟨hm, Int.le_refl _⟩).1] at d1
      rw [show (mods m r).getD k 0 = m by
        show (r.map fun x => x.fmod (m + 1)).getD k 0 = _
        rw [getD_map0 (f := fun x => x.fmod (m + 1)) hk, ex, e9]; exact (dig hm ⟨hm, Int.le_refl _⟩).2] at d2
      have no : ∀ l : List Int, m = (flt m l).getD k m → (flt m l).length ≤ k := fun l h => by
        rcases Nat.lt_or_ge k (flt m l).length with z | z
        · have hmem : (flt m l).getD k m ∈ flt m l := by rw [List.getD_eq_getElem?_getD, List.getElem?_eq_getElem z]; exact List.getElem_mem z
          have := flt_lt hmem
          omega
        · exact z
      have := no _ d1
      have := no _ d2
      omega
  · rintro ⟨h1, gA, gB⟩
    have dA := good_flt gA leA
    have dB := good_flt gB leB
    have at_ : ∀ k, k < r.length → (flt m (divs m r)).getD k m * (m + 1) + (flt m (mods m r)).getD k m = r.getD k 0 := fun k hk => by
      rw [← dA k (by rw [lA]; exact hk), ← dB k (by rw [lB]; exact hk)]
      show (r.map fun x => x.fdiv (m + 1)).getD k 0 * (m + 1) + (r.map fun x => x.fmod (m + 1)).getD k 0 = _
      rw [getD_map0 (f := fun x => x.fdiv (m + 1)) hk, getD_map0 (f := fun x => x.fmod (m + 1)) hk]
      exact (undig hm).symm
    have len : max (flt m (divs m r)).length (flt m (mods m r)).length = r.length := by
      rcases Nat.lt_or_ge (max (flt m (divs m r)).length (flt m (mods m r)).length) r.length with z | z
      · exfalso
        have hk : r.length - 1 < r.length := by omega
        have h2 := at_ _ hk
        rw [show (flt m (divs m r)).getD (r.length - 1) m = m by rw [List.getD_eq_getElem?_getD, List.getElem?_eq_none (by omega)]; rfl, show (flt m (mods m r)).getD (r.length - 1) m = m by rw [List.getD_eq_getElem?_getD, List.getElem?_eq_none (by omega)]; rfl] at h2
        have := h1 _ (memr _ hk)
        omega
      · omega
    refine List.ext_getElem (by unfold prI; rw [List.length_map, List.length_range, len]) fun k h2 h3 => ?_
    have := at_ k h3
    rw [List.getD_eq_getElem?_getD (l := r), List.getElem?_eq_getElem h3] at this
    rw [prI_at h2]
    exact this
end Gw
namespace Gw
open PySem PySem.Spec PyProof.Rows L2 LamX
/-! ### the law's own judge of pair rows -/
theorem pr_all {m : Nat} {x : PyData} : isPR m x = true ↔ ∃ r : List Int, x = wD r ∧ (∀ y ∈ r, 0 ≤ y ∧ y < ((m : Int) + 1) * ((m : Int) + 1) - 1) ∧ goodLine m (divs m r) ∧ goodLine m (mods m r) := by
  have e2 : (((m + 1) ^ 2 : Nat) : Int) = ((m : Int) + 1) * ((m : Int) + 1) := by
    rw [Nat.pow_two]; push_cast; rfl
  constructor
  · intro h
    unfold isPR at h
    rw [Bool.and_eq_true] at h
    obtain ⟨r, rfl, lr⟩ := row_ints h.1
    have h2 := of_decide_eq_true h.2
    rw [toWs_ints] at h2
    have hr : ∀ y ∈ r, 0 ≤ y ∧ y < ((m : Int) + 1) * ((m : Int) + 1) := fun y hy => by
      have := lr y hy
      rw [e2] at this
      exact this
    obtain ⟨h3, h4, h5⟩ := (pr_iff (Int.natCast_nonneg m) hr).mp h2
    exact ⟨r, rfl, fun y hy => ⟨(hr y hy).1, h3 y hy⟩, h4, h5⟩
  · rintro ⟨r, rfl, h3, h4, h5⟩
    unfold isPR
    rw [Bool.and_eq_true, toWs_ints]
    refine ⟨?_, decide_eq_true ((pr_iff (Int.natCast_nonneg m) fun y hy => ⟨(h3 y hy).1, by have := (h3 y hy).2; omega⟩).mpr ⟨fun y hy => (h3 y hy).2, h4, h5⟩)⟩
    show (r.map PyData.int).all (inR 0 ((((m + 1) ^ 2 : Nat) : Int) - 1)) = true
    rw [e2, List.all_eq_true]
    intro d hd
    obtain ⟨y, hy, rfl⟩ := List.mem_map.mp hd
    have := h3 y hy
    show (decide (0 ≤ y) && decide (y ≤ _)) = true
    rw [Bool.and_eq_true, decide_eq_true_eq, decide_eq_true_eq]
    omega
theorem pr_no {m : Nat} {x : PyData} (h : ¬ ∃ r : List Int, x = wD r ∧ (∀ y ∈ r, 0 ≤ y ∧ y < ((m : Int) + 1) * ((m : Int) + 1) - 1) ∧ goodLine m (divs m r) ∧ goodLine m (mods m r)) : isPR m x = false := by
  cases e : isPR m x with
  | false => rfl
  | true => exact absurd (pr_all.mp e) h
def lineF (m : Int) (A : List Int) (k : Nat) : Option PyData := if A.getD k 0 = m ∧ A.getD (k + 1) 0 < m then some (.int (1 + (k : Int))) else none
theorem good_fm (m : Int) (A : List Int) : goodLine m A ↔ ((List.range (A.length - 1)).all fun k => (lineF m A k).isNone) = true := by
  rw [List.all_eq_true]
  constructor
  · intro h k hk
    have := h k (by have := List.mem_range.mp hk; omega)
    unfold lineF
    rw [if_neg this]; rfl
  · intro h k hk z
    have := h k (List.mem_range.mpr (by omega))
    unfold lineF at this
    rw [if_pos z] at this
    cases this
theorem shaped_is {ds : List PyData} (h : ∀ d ∈ ds, ∃ i, d = .int i) : SeqAt.shaped (.list ds) = true := by
  have e : ds = (ds.map toI).map .int := by
    rw [List.map_map]
    refine (List.map_id ds).symm.trans (List.map_congr_left fun d hd => ?_)
    obtain ⟨i, rfl⟩ := h d hd
    rfl
  rw [e]
  exact shaped_ints _
theorem fm_nil {α : Type} (f : α → Option PyData) : ∀ l : List α, PyData.eqv (.list (l.filterMap f)) (.list []) = l.all fun a => (f a).isNone
  | [] => rfl
  | a :: l => by
    rw [List.filterMap_cons, List.all_cons]
    cases h : f a with
    | none => show PyData.eqv (.list (l.filterMap f)) (.list []) = _; rw [fm_nil f l]; rfl
    | some e => rfl
section
variable {K : PySem.W.Frag} {σ : L2.St} {G : Hp} {tl te t1 t2 : TE} {tt : TT}
theorem eb_neT {α : Type} {l : List α} {f : α → Option PyData} (h : EvN K tl σ G (l.filterMap f)) (hi : ∀ a e, f a = some e → ∃ i, e = .int i) : EvB K (tTest (tOp (rNeD K) tl (tLst tNil))) σ G (!l.all fun a => (f a).isNone) :=
  EvB.cast (eb_test (ed_op (EvN.toD h) (ed_lst ea_nil (Nat.zero_le _)) (ro_neD (shaped_is fun d hd => by
    obtain ⟨a, _, e⟩ := List.mem_filterMap.mp hd
    exact hi a d e) (by decide)))) (by rw [fm_nil])
theorem en_lcR2 {i : Nat} {vs : List Nat} {lo hi : Int} (f : Nat → Option PyData) (h1 : EvD K t1 σ G (.int lo)) (h2 : EvD K t2 σ G (.int hi)) (hw : ∀ v, wipe ((wipe σ vs).set i (some v)) vs = wipe σ vs) (hb : -(2 ^ 62) ≤ lo ∧ lo < 2 ^ 62 ∧ -(2 ^ 62) ≤ hi ∧ hi < 2 ^ 62) (hz : (hi - lo).toNat ≤ sizeLine)
    (ht : ∀ k Gi, k < (hi - lo).toNat → Same G Gi → EvB K tt ((wipe σ vs).set i (some (.int (lo + (k : Int))))) Gi (f k).isSome)
    (he : ∀ k e Gi, k < (hi - lo).toNat → f k = some e → Same G Gi → EvD K te ((wipe σ vs).set i (some (.int (lo + (k : Int))))) Gi e) : EvN K (tLc (iRng2 (tCons t1 (tCons t2 tNil))) (gName i) tt te vs) σ G ((List.range (hi - lo).toNat).filterMap f) := fun H s Q q =>
  h1 H s _ fun v1 G0 H0 n0 hv1 => (h2.mono n0.gg) H0 n0.gh _ fun v2 G1 H1 m1 hv2 => by
    have n1 := n0.trans m1
    rw [dp_int hv1, dp_int hv2]
    refine ⟨lo, hi, rfl, hb, fun D hD => ?_⟩
    refine lc_range (lo := lo) (n := (hi - lo).toNat) (fun k Hc => LcI K G1 H1 D ((List.range k).filterMap f) Hc) (LcI.start n1.gh hD) (fun k Hc hk p => ?_) fun Hc p => ?_
    · refine ⟨hw _, ?_⟩
      refine LcI.turn (b := (f k).isSome) (e := (f k).getD .none) hD p (Nat.lt_of_le_of_lt (List.length_filterMap_le _ _) (by rw [List.length_range]; omega)) (fun Gi g => ht k Gi hk (n1.gg.trans g)) (fun hb Gi g => ?_) fun H' p' => ?_
      · obtain ⟨e, hee⟩ := Option.isSome_iff_exists.mp hb
        rw [hee]
        exact he k e Gi hk hee (n1.gg.trans g)
      · rw [List.range_succ, List.filterMap_append]
        cases hf : f k with
        | none => rw [hf] at p'; simpa [List.filterMap_cons, hf] using p'
        | some e => rw [hf] at p'; simpa [List.filterMap_cons, hf] using p'
    · exact p.finN n1 hD q
end
theorem num_int {d : PyData} (h : isNum d = true) : ∃ i, d = .int i := by
  cases d with
  | int i => exact ⟨i, rfl⟩
  | _ => cases h
def numF (d : PyData) : Option PyData := if isNum d then none else some (.int 1)
def rngF (m : Nat) (d : PyData) : Option PyData := if 0 ≤ toI d ∧ toI d < ((m : Int) + 1) * ((m : Int) + 1) - 1 then none else some (.int 1)
section
variable {P : Program} {w : World} {K : PySem.W.Frag} {mg : Str → Option Value} {base : Heap} {f : Addr} {fd : FuncData}
def R_law_is_pair_row : List PyData → PyData → Prop := fun ds d => ∃ (bs : List Int) (x : PyData), ds = [wD bs, x] ∧ bs.length ≤ 12 ∧ (∀ ys, x = .tuple ys → ys.length ≤ 100000) ∧ d = .bool (isPR bs.length x)
theorem ok_law_is_pair_row (D : DefAt K mg "_law_is_pair_row" s_law_is_pair_row P_law_is_pair_row f fd) (T : Bt mg) : Ok P w K mg base "_law_is_pair_row" P_law_is_pair_row 1 (SpD K R_law_is_pair_row) := by
  refine D.ok (okD D.F sc_law_is_pair_row (fun ds d h => ?_) fun cdv A outer s H hr => ?_)
  · obtain ⟨bs, x, rfl, _⟩ := h; rfl
  have S := sc_law_is_pair_row
  refine ⟨_, (pss_cons (ps_set (i := 2) S.nd rfl (by first | exact .inl rfl | exact .inr rfl) (pe_callB (q_len K rfl) (by rfl) T.len PySem.boot_len (pa_cons (pv 0) pa_nil)))
  (pss_cons (ps_if (PW.pt (pw_or (pt_not (pt_val (pe_callB (q_isi K rfl) (by rfl) T.isinstance (by decide +kernel) (pa_cons (pv 1) (pa_cons (pe_bltn (v := .ty "tuple") (by rfl) T.tuple (by decide +kernel) rfl) pa_nil))))) (pw_or1 (pt_cmpR (q_neD K rfl hr.units) (pe_lc (own := [("item", 3)]) (g := gName 3) (by rfl) S.nd  (q_iT K rfl (pv 1)) (blkOk_by (N := N_law_is_pair_row) (sc := defScope s_law_is_pair_row) (by decide +kernel)) (fun _ _ _ _ _ => (pg_name (i := 3) S.nd rfl (by first | exact .inl rfl | exact .inr rfl))) (fun _ _ _ _ _ => (pts_one (PW.pt (pw_or (pt_val (pe_callB (q_isi K rfl) (by rfl) T.isinstance (by decide +kernel) (pa_cons (pv 3) (pa_cons (pe_bltn (v := .ty "bool") (by rfl) T.bool (by decide +kernel) rfl) pa_nil)))) (pw_or1 (pt_not (pt_val (pe_callB (q_isi K rfl) (by rfl) T.isinstance (by decide +kernel) (pa_cons (pv 3) (pa_cons (pe_bltn (v := .ty "int") (by rfl) T.int (by decide +kernel) rfl) pa_nil)))))))))) (fun _ _ _ _ _ => pe_int)) (pe_lst pa_nil) (nomark _))))) (pss_one (ps_ret pe_bl)) pss_nil)
  (pss_cons (ps_if (pt_cmpR (q_neD K rfl hr.units) (pe_lc (own := [("item", 3)]) (g := gName 3) (by rfl) S.nd  (q_iT K rfl (pv 1)) (blkOk_by (N := N_law_is_pair_row) (sc := defScope s_law_is_pair_row) (by decide +kernel)) (fun _ _ _ _ _ => (pg_name (i := 3) S.nd rfl (by first | exact .inl rfl | exact .inr rfl))) (fun _ _ _ _ _ => (pts_one (pt_not (pt_chain op_le op_lt pe_int (pv 3) (pe_op op_sub (pe_op op_mul (pe_op op_add (pv 2) pe_int) (pe_op op_add (pv 2) pe_int)) pe_int))))) (fun _ _ _ _ _ => pe_int)) (pe_lst pa_nil) (nomark _)) (pss_one (ps_ret pe_bl)) pss_nil)
  (pss_cons (ps_par (i := 4) (j := 5) rfl S.nd rfl rfl (by decide) rfl rfl (pa_cons (pe_lc (own := [("item", 3)]) (g := gName 3) (by rfl) S.nd  (q_iT K rfl (pv 1)) (blkOk_by (N := N_law_is_pair_row) (sc := defScope s_law_is_pair_row) (by decide +kernel)) (fun _ _ _ _ _ => (pg_name (i := 3) S.nd rfl (by first | exact .inl rfl | exact .inr rfl))) (fun _ _ _ _ _ => pts_nil) (fun _ _ _ _ _ => (pe_op op_fdivN (pv 3) (pe_op op_add (pv 2) pe_int)))) (pa_cons (pe_lc (own := [("item", 3)]) (g := gName 3) (by rfl) S.nd  (q_iT K rfl (pv 1)) (blkOk_by (N := N_law_is_pair_row) (sc := defScope s_law_is_pair_row) (by decide +kernel)) (fun _ _ _ _ _ => (pg_name (i := 3) S.nd rfl (by first | exact .inl rfl | exact .inr rfl))) (fun _ _ _ _ _ => pts_nil) (fun _ _ _ _ _ => (pe_op op_modN (pv 3) (pe_op op_add (pv 2) pe_int)))) pa_nil)) (by rfl))
  (pss_cons (ps_for PassesOwn.never rfl (q_iL K rfl (pe_lst (pa_cons (pv 4) (pa_cons (pv 5) pa_nil)))) (pg_name (i := 6) S.nd rfl (by first | exact .inl rfl | exact .inr rfl)) (pss_one (ps_if (pt_cmpR (q_neD K rfl hr.units) (pe_lc (own := [("k", 7)]) (g := gName 7) (by rfl) S.nd  (pi_range2 (by rfl) T.range (pa_cons pe_int (pa_cons (pe_callB (q_len K rfl) (by rfl) T.len PySem.boot_len (pa_cons (pv 6) pa_nil)) pa_nil))) (blkOk_by (N := N_law_is_pair_row) (sc := defScope s_law_is_pair_row) (by decide +kernel)) (fun _ _ _ _ _ => (pg_name (i := 7) S.nd rfl (by first | exact .inl rfl | exact .inr rfl))) (fun _ _ _ _ _ => (pts_one (PW.pt (pw_and (pt_cmpR op_eq (pe_ix (q_ixL K rfl) (pv 6) (pe_op op_sub (pv 7) pe_int) (fun _ _ => rfl)) (pv 2) (nomark _)) (pw_and1 (pt_cmpR op_lt (pe_ix (q_ixL K rfl) (pv 6) (pv 7) (fun _ _ => rfl)) (pv 2) (nomark _))))))) (fun _ _ _ _ _ => (pv 7))) (pe_lst pa_nil) (nomark _)) (pss_one (ps_ret pe_bl)) pss_nil)))
  (pss_one (ps_ret pe_bl))))))), fun G ds d vs hR ha H0 hs D' qq _ => ?_⟩
  obtain ⟨bs, x, rfl, lb, hz, rfl⟩ := hR
  obtain _ | ⟨hb, _ | ⟨hx, _ | _⟩⟩ := ha
  have big : 100000 ≤ sizeLine := by decide
  have lbd : (bs.map PyData.int).length = bs.length := List.length_map _
  refine rd_set (K := K) (G := G) (e := .int (bs.length : Int)) (EvD.cast (ed_cb (ea_cons (ed_var (i := 0) rfl hb) ea_nil) rcl_len) (congrArg (fun n : Nat => PyData.int (n : Int)) lbd)) (fun v2 G1 s1 hv2 => ?_) H0 hs D' qq
  generalize bs.length = m at *
  have hx1 := dp_mono s1 _ hx
  by_cases ht : isTupK x = true
  case neg =>
    have ht : isTupK x = false := by simpa using ht
    refine rd_seqIf (b := true) (EvB.cast (eb_or (a := true) (b := true) (eb_not (b := false) (eb_B (EvD.cast (ed_isi (ed_var (i := 1) rfl hx1) (kit_tup _)) (by rw [ht])))) fun z => nomatch z) (by rfl)) (fun _ => (rd_ret ed_bl).cast ?_) fun z => nomatch z
    rw [pr_no]
    rintro ⟨r, rfl, _⟩
    cases ht
  obtain ⟨ys, rfl⟩ : ∃ ys, x = .tuple ys := by
    cases x with
    | tuple ys => exact ⟨ys, rfl⟩
    | _ => cases ht
  have lys : ys.length ≤ sizeLine := Nat.le_trans (hz ys rfl) big
  refine rd_seqIf (b := !ys.all fun a => (numF a).isNone) (EvB.cast (eb_or (a := false) (eb_not (b := true) (eb_B (ed_isi (ed_var (i := 1) rfl hx1) (kit_tup _)))) fun _ => eb_neT (en_lcT (i := 3) numF (ed_var (i := 1) rfl hx1) (fun _ => rfl) lys (fun d u Gi hm g hd => ?_) fun d u e Gi hm he g hd => ?_) fun a e he => ?_) (by rfl)) (fun hb => ?_) fun hb => ?_
  · refine EvB.cast (eb_or (eb_B (ed_isi (ed_var (i := 3) rfl hd) (kit_bool d))) fun _ => eb_not (eb_B (ed_isi (ed_var (i := 3) rfl hd) (kit_int d)))) ?_
    cases d <;> rfl
  · unfold numF at he
    split at he
    · cases he
    · cases he; exact ed_int
  · unfold numF at he
    split at he
    · cases he
    · cases he; exact ⟨_, rfl⟩
  · refine (rd_ret ed_bl).cast ?_
    rw [pr_no]
    rintro ⟨r, e, _⟩
    cases e
    have := not_t hb
    rw [List.all_eq_false] at this
    obtain ⟨d, hd, z⟩ := this
    obtain ⟨y, _, rfl⟩ := List.mem_map.mp hd
    exact z rfl
  have hall := not_f hb
  obtain ⟨r, rfl⟩ : ∃ r : List Int, ys = r.map .int := by
    refine ⟨ys.map toI, ?_⟩
    rw [List.map_map]
    refine (List.map_id ys).symm.trans (List.map_congr_left fun d hd => ?_)
    have h9 : (numF d).isNone = true := List.all_eq_true.mp hall d hd
    unfold numF at h9
    split at h9
    · rename_i z
      obtain ⟨i, rfl⟩ := num_int z
      rfl
    · cases h9
  clear hall hb ht hz
  have lr : r.length ≤ sizeLine := by rwa [List.length_map] at lys
  have cm : CMul ((m : Int) + 1) ((m : Int) + 1) := .inr ⟨by omega, by omega⟩
  have hm : ∀ {Gi : Hp}, Same G1 Gi → Dp K Gi v2 (.int (m : Int)) := fun g => dp_mono g _ hv2
  refine rd_seqIf (b := !(r.map PyData.int).all fun a => (rngF m a).isNone) (eb_neT (en_lcT (i := 3) (rngF m) (ed_var (i := 1) rfl hx1) (fun _ => rfl) lys (fun d u Gi hd g hdv => ?_) fun d u e Gi hd he g hdv => ?_) fun a e he => ?_) (fun hb => ?_) fun hb => ?_
  · obtain ⟨y, _, rfl⟩ := List.mem_map.mp hd
    refine EvB.cast (eb_not (eb_test (ed_chain ed_int (ed_var (i := 3) rfl hdv) (ro_b (f := fun i j => decide (i ≤ j))) (fun _ => ed_op (ed_op (ed_op (ed_var (i := 2) rfl (hm g)) ed_int ro_i) (ed_op (ed_var (i := 2) rfl (hm g)) ed_int ro_i) (ro_ic (f := fun i j => i * j) cm)) ed_int ro_i) (fun _ => ro_b (f := fun i j => decide (i < j)))))) ?_
    show (!(decide (0 ≤ y) && decide (y < ((m : Int) + 1) * ((m : Int) + 1) - 1))) = (if 0 ≤ y ∧ y < ((m : Int) + 1) * ((m : Int) + 1) - 1 then none else some (PyData.int 1)).isSome
    by_cases z : 0 ≤ y ∧ y < ((m : Int) + 1) * ((m : Int) + 1) - 1
    · rw [if_pos z, decide_eq_true z.1, decide_eq_true z.2]; rfl
    · rw [if_neg z]
      have : (decide (0 ≤ y) && decide (y < ((m : Int) + 1) * ((m : Int) + 1) - 1)) = false := by
        rw [Bool.and_eq_false_iff, decide_eq_false_iff_not, decide_eq_false_iff_not]
        by_cases z0 : 0 ≤ y
        · exact .inr fun z1 => z ⟨z0, z1⟩
        · exact .inl z0
      rw [this]; rfl
  · unfold rngF at he
    split at he
    · cases he
    · cases he; exact ed_int
  · unfold rngF at he
    split at he
    · cases he
    · cases he; exact ⟨_, rfl⟩
  · refine (rd_ret ed_bl).cast ?_
    rw [pr_no]
    rintro ⟨r', e, h9, _⟩
    have e : r.map PyData.int = r'.map PyData.int := by injection e
    have := not_t hb
    rw [e, List.all_eq_false] at this
    obtain ⟨d, hd, z⟩ := this
    obtain ⟨y, hy, rfl⟩ := List.mem_map.mp hd
    apply z
    show (if 0 ≤ y ∧ y < ((m : Int) + 1) * ((m : Int) + 1) - 1 then none else some (PyData.int 1)).isNone = true
    rw [if_pos (h9 y hy)]; rfl
  have hrg : ∀ y ∈ r, 0 ≤ y ∧ y < ((m : Int) + 1) * ((m : Int) + 1) - 1 := fun y hy => by
    have h9 : (rngF m (.int y)).isNone = true := List.all_eq_true.mp (not_f hb) _ (List.mem_map_of_mem hy)
    unfold rngF at h9
    split at h9
    · rename_i z; exact z
    · cases h9
  clear hb
  intro H1 n1 D2 q2
  have cmn : ((m : Int) + 1) ≠ 0 := by omega
  refine seq_par2 (K := K) (G := G1) (EvN.cast (en_lcT1 (i := 3) (fun d => .int ((toI d).fdiv ((m : Int) + 1))) (ed_var (i := 1) rfl hx1) (fun _ => rfl) lys fun d u Gi hd g hdv => ?_) (es := (divs m r).map .int) (by unfold divs; rw [List.map_map, List.map_map]; rfl)) (EvN.cast (en_lcT1 (i := 3) (fun d => .int ((toI d).fmod ((m : Int) + 1))) (ed_var (i := 1) rfl hx1) (fun _ => rfl) lys fun d u Gi hd g hdv => ?_) (es := (mods m r).map .int) (by unfold mods; rw [List.map_map, List.map_map]; rfl)) n1 fun p xs q us G2 H2 n2 e1 e2 a1 a2 => ?_
  · obtain ⟨y, _, rfl⟩ := List.mem_map.mp hd
    exact ed_op (ed_var (i := 3) rfl hdv) (ed_op (ed_var (i := 2) rfl (hm g)) ed_int ro_i) (ro_ic (f := fun i j => i.fdiv j) (show CDivN y ((m : Int) + 1) from ⟨by omega, by omega⟩))
  · obtain ⟨y, _, rfl⟩ := List.mem_map.mp hd
    exact ed_op (ed_var (i := 3) rfl hdv) (ed_op (ed_var (i := 2) rfl (hm g)) ed_int ro_i) (ro_ic (f := fun i j => i.fmod j) cmn)
  have d1 : Dp K G2 (.ref p) (.list ((divs m r).map .int)) := .lst (SqL.of e1) a1
  have d2 : Dp K G2 (.ref q) (.list ((mods m r).map .int)) := .lst (SqL.of e2) a2
  refine seq_forN (K := K) (G := G2) (en_lst (ea_cons (ed_var (i := 4) rfl d1) (ea_cons (ed_var (i := 5) rfl d2) ea_nil)) (by show 2 ≤ sizeLine; omega)) n2.gh fun t vs G3 H3 n3 _ e3 a3 => ?_
  have lvs : vs.length = 2 := by rw [dpa_length a3]; rfl
  have n3' := n2.trans n3
  refine ⟨t, rfl, ⟨vs, SqL.of e3⟩, for_list (K := K) (a := t) (xs := vs) (fun i σ Hd => ∃ y6 y7 Gi, σ = [some _, some _, some v2, none, some (.ref p), some (.ref q), y6, y7] ∧ Nx G3 H3 Gi Hd ∧ (0 < i → goodLine m (divs m r)) ∧ (1 < i → goodLine m (mods m r))) ⟨_, _, G3, rfl, Nx.refl n3.gh, fun z => absurd z (by decide), fun z => absurd z (by decide)⟩ (fun i σ Hd _ hP => ?_) (fun i y σ Hd hi hP => ?_) fun σ Hd hP => ?_⟩
  · obtain ⟨_, _, Gi, _, nj, _⟩ := hP
    exact nj.hh.seq (SqL.of e3)
  · obtain ⟨y6, y7, Gi, rfl, nj, g0, g1⟩ := hP
    have hi2 := (List.getElem?_eq_some_iff.mp hi).1
    obtain ⟨C, hC, lC, hCd⟩ : ∃ C : List Int, Dp K Gi y (.list (C.map .int)) ∧ C.length = r.length ∧ ((i = 0 ∧ C = divs m r) ∨ (i = 1 ∧ C = mods m r)) := by
      obtain ⟨dx, hdx, hd⟩ := dpa_get a3 hi
      match i, hi2 with
      | 0, _ =>
        have hdx : some (PyData.list ((divs m r).map .int)) = some dx := hdx
        cases hdx
        exact ⟨_, dp_mono nj.gg _ hd, by unfold divs; rw [List.length_map], .inl ⟨rfl, rfl⟩⟩
      | 1, _ =>
        have hdx : some (PyData.list ((mods m r).map .int)) = some dx := hdx
        cases hdx
        exact ⟨_, dp_mono nj.gg _ hd, by unfold mods; rw [List.length_map], .inr ⟨rfl, rfl⟩⟩
      | i + 2, z => exact absurd z (by omega)
    have lCd : (C.map PyData.int).length = C.length := List.length_map _
    have hmi := hm ((n2.gg.trans n3.gg).trans nj.gg)
    have s61 : sizeLine ≤ 2 ^ 61 := by decide
    have eN : ((C.length : Int) - 1).toNat = C.length - 1 := by omega
    have gk : ∀ k : Nat, k < C.length → (C.map PyData.int)[k]? = some (.int (C.getD k 0)) := fun k hk => by
      rw [List.getElem?_map, List.getElem?_eq_getElem hk, List.getD_eq_getElem?_getD, List.getElem?_eq_getElem hk]; rfl
    dsimp only [gName]
    refine (eb_neT (en_lcR2 (i := 7) (lineF m C) ed_int (EvD.cast (ed_cb (ea_cons (ed_var (i := 6) rfl hC) ea_nil) rcl_lenL) (congrArg (fun n : Nat => PyData.int (n : Int)) lCd)) (fun _ => rfl) ⟨by decide, by decide, by omega, by omega⟩ (by omega) (fun k Gk hk g => ?_) fun k e Gk hk he g => ?_) fun a e he => ?_) Hd nj.gh _ fun G5 H5 n5 => ?_
    · have e1 : (1 : Int) + (k : Int) - 1 = ((k : Nat) : Int) := by omega
      have e2 : (1 : Int) + (k : Int) = ((k + 1 : Nat) : Int) := by omega
      refine EvB.cast (eb_and (eb_test (ed_op (ed_op (ed_var (i := 6) rfl (dp_mono g _ hC)) (ed_op (ed_var (i := 7) rfl (.int _)) ed_int ro_i) (ro_ixL (k := k) e1 (gk k (by omega)))) (ed_var (i := 2) rfl (dp_mono g _ hmi)) ro_eqI)) fun _ => eb_test (ed_op (ed_op (ed_var (i := 6) rfl (dp_mono g _ hC)) (ed_var (i := 7) rfl (.int _)) (ro_ixL (k := k + 1) e2 (gk (k + 1) (by omega)))) (ed_var (i := 2) rfl (dp_mono g _ hmi)) (ro_b (f := fun i j => decide (i < j))))) ?_
      unfold lineF
      by_cases z : C.getD k 0 = (m : Int) ∧ C.getD (k + 1) 0 < (m : Int)
      · rw [if_pos z, decide_eq_true z.1, decide_eq_true z.2]; rfl
      · rw [if_neg z]
        rw [Bool.and_eq_false_iff.mpr]
        · rfl
        · rw [decide_eq_false_iff_not, decide_eq_false_iff_not]
          by_cases z0 : C.getD k 0 = (m : Int)
          · exact .inr fun z1 => z ⟨z0, z1⟩
          · exact .inl z0
    · unfold lineF at he
      split at he
      · cases he; exact ed_var (i := 7) rfl (.int _)
      · cases he
    · unfold lineF at he
      split at he
      · cases he; exact ⟨_, rfl⟩
      · cases he
    rw [eN]
    have gf := good_fm (m : Int) C
    cases hg : (List.range (C.length - 1)).all fun k => (lineF m C k).isNone with
    | true =>
      have gg := gf.mpr hg
      refine if_off rfl (nx_of ⟨_, _, G5, rfl, nj.trans n5, fun _ => ?_, fun z => ?_⟩)
      · rcases hCd with ⟨rfl, rfl⟩ | ⟨rfl, rfl⟩
        · exact gg
        · exact g0 (by decide)
      · rcases hCd with ⟨rfl, rfl⟩ | ⟨rfl, rfl⟩
        · exact absurd z (by decide)
        · exact gg
    | false =>
      refine if_on rfl ?_
      refine rd_ret (K := K) (G := G5) (σ := [some _, some _, some v2, none, some (.ref p), some (.ref q), some y, y7]) ed_bl H5 n5.gh _ fun v6 G6 H6 n6 hd6 => q2 _ G6 H6 (((n2.trans n3).trans (nj.trans n5)).trans n6) ?_
      suffices e0 : isPR m (.tuple (r.map PyData.int)) = false by rw [e0]; exact hd6
      rw [pr_no]
      rintro ⟨r', e, _, ga, gb⟩
      have e : r.map PyData.int = r'.map PyData.int := by injection e
      have e : r = r' := by
        have := congrArg (List.map toI) e
        rw [List.map_map, List.map_map] at this
        have id' : ∀ l : List Int, l.map (toI ∘ PyData.int) = l := fun l => (List.map_congr_left fun x _ => rfl).trans (List.map_id l)
        rwa [id', id'] at this
      subst e
      have : goodLine m C := by
        rcases hCd with ⟨_, rfl⟩ | ⟨_, rfl⟩
        · exact ga
        · exact gb
      rw [gf.mp this] at hg
      cases hg
  · obtain ⟨y6, y7, Gi, rfl, nj, g0, g1⟩ := hP
    rw [lvs] at g0 g1
    refine q2 (.bl true) Gi Hd ((n2.trans n3).trans nj) ?_
    rw [pr_all.mpr ⟨r, rfl, hrg, g0 (by decide), g1 (by decide)⟩]
    exact .bl true
end
end Gw
namespace Gw
open PySem PySem.Spec PyProof.Rows L2 LamX
/-! ### machines drawn -/
section
variable {K : PySem.W.Frag} {TQ : List (Addr × Str)} {d l c : Addr} {G H G1 H1 : Hp}
theorem Mv.told {p : Addr} {xs : List V} (m : Mv K TQ d l c G H G1 H1) (h0 : H p = none) (g : G1 p = none) (e : H1 p = some (.lst xs)) (n1 : p ≠ d) (n2 : p ≠ l) (n3 : p ≠ c) : Mv K TQ d l c G H (upd G1 p (.lst xs)) H1 := by
  obtain ⟨v, s⟩ := Mv.tell m.vw m.tb g e n1 n2 n3
  exact ⟨v, m.tb, fun h => dp_mono s _ (m.dp h), fun h => s _ _ (m.is h), m.ls, fun h p1 p2 g1 => by
    rw [upd_ne (fun z => by rw [z, h0] at h; cases h)]; exact m.no h p1 p2 g1, fun n h => s _ _ (m.lv n h)⟩
theorem Gr.told {p q : Addr} {ds : List PyData} {o : HO} (r : Gr K d l c G H q ds) (hne : q ≠ p) (g : G p = none) : Gr K d l c (upd G p o) H q ds := by
  obtain ⟨acc, e, ha⟩ := r.ex
  exact ⟨(upd_ne hne).trans r.g, r.nd, r.nl, r.nc, acc, e, dpa_mono (fun b u z => by rw [upd_ne (ne_of_none z g)]; exact z) _ ha⟩
theorem Gr.off {p q : Addr} {ds : List PyData} {o : HO} (r : Gr K d l c G H q ds) (hne : q ≠ p) : Gr K d l c G (upd H p o) q ds := by
  obtain ⟨acc, e, ha⟩ := r.ex
  exact ⟨r.g, r.nd, r.nl, r.nc, acc, (upd_ne hne).trans e, ha⟩
theorem Mv.put {p : Addr} {ds es : List PyData} {xs : List V} (m : Mv K TQ d l c G H G1 H1) (h0 : H p = none) (r : Gr K d l c G1 H1 p ds) (ha : DpAll K G1 xs es) : Mv K TQ d l c G H G1 (upd H1 p (.lst xs)) ∧ Gr K d l c G1 (upd H1 p (.lst xs)) p es := by
  obtain ⟨r1, _, r3, r4⟩ := r.put m.vw m.tb ha
  exact ⟨⟨r3, r4, m.dp, m.is, fun h p1 p2 => by rw [upd_ne (fun z => by rw [z, h0] at h; cases h)]; exact m.ls h p1 p2, m.no, m.lv⟩, r1⟩
end
def spSk (K : PySem.W.Frag) : Sp := fun vs H Q _ => ∃ (G : Hp) (TQ : List (Addr × Str)) (d l c : Addr) (L m : Nat), vs = [.ref d, .int (L : Int), .int (m : Int)] ∧ Vw G H d l c ∧ Tabs TQ H ∧ 1 ≤ L ∧ L ≤ 4 ∧ 1 ≤ m ∧ m ≤ 4 ∧
  ∀ v G' H' ws es, MOk L ws es → ws.length ≤ 4 → Mv K TQ d l c G H G' H' → Dp K G' v (.tuple [.list (ws.map wayL), .list (nsD es)]) → Q v H'
section
variable {P : Program} {w : World} {K : PySem.W.Frag} {mg : Str → Option Value} {base : Heap} {f : Addr} {fd : FuncData}
theorem ok_law_machine_sketch (D : DefAt K mg "_law_machine_sketch" s_law_machine_sketch P_law_machine_sketch f fd) (T : Bt mg) (h__law_take : Ok P w K mg base "_law_take" P_law_take 2 spTake) (h__law_pick : Ok P w K mg base "_law_pick" P_law_pick 3 (spPick K)) : Ok P w K mg base "_law_machine_sketch" P_law_machine_sketch 4 (spSk K) := by
  refine D.ok (D.F.ok sc_law_machine_sketch (fun vs H Q E h => ?_) fun cdv A outer s H vs Q E hr h => ?_)
  · obtain ⟨G, TQ, d, l, c, L, m, rfl, _⟩ := h; rfl
  have S := sc_law_machine_sketch
  obtain ⟨G, TQ, d, l, c, L, m, rfl, vw, tb, hL1, hL4, hm1, hm4, q⟩ := h
  refine ⟨_, (pss_cons (ps_set (i := 3) S.nd rfl (by first | exact .inl rfl | exact .inr rfl) (pe_op op_add pe_int (pe_ok h__law_take (hr.mono (by decide)) (by rfl) (pa_cons (pv 0) (pa_cons (pv 2) pa_nil)))))
  (pss_cons (ps_set (i := 4) S.nd rfl (by first | exact .inl rfl | exact .inr rfl) (pe_lst pa_nil))
  (pss_cons (ps_for PassesOwn.never rfl (pi_range1 (by rfl) T.range (pa_cons (pv 3) pa_nil)) (pg_name (i := 5) S.nd rfl (by first | exact .inl rfl | exact .inr rfl)) (pss_one (ps_expr (pe_bm PySem.F.plainAttrs_list PySem.F.slot_list_append PySem.F.type_list_append mt_append (pv 4) (pa_cons (pe_lc (own := [("k", 6)]) (g := gName 6) (by rfl) S.nd  (pi_range1 (by rfl) T.range (pa_cons (pv 1) pa_nil)) (blkOk_by (N := N_law_machine_sketch) (sc := defScope s_law_machine_sketch) (by decide +kernel)) (fun _ _ _ _ _ => (pg_name (i := 6) S.nd rfl (by first | exact .inl rfl | exact .inr rfl))) (fun _ _ _ _ _ => pts_nil) (fun _ _ _ _ _ => (pe_ok h__law_pick (hr.mono (by decide)) (by rfl) (pa_cons (pv 0) (pa_cons (pe_lst (pa_cons pe_non (pa_cons (pe_ok h__law_take (hr.mono (by decide)) (by rfl) (pa_cons (pv 0) (pa_cons (pv 3) pa_nil))) (pa_cons (pe_ok h__law_take (hr.mono (by decide)) (by rfl) (pa_cons (pv 0) (pa_cons (pv 3) pa_nil))) pa_nil)))) pa_nil))))) pa_nil)))))
  (pss_one (ps_ret (pe_tup (pa_cons (pv 4) (pa_cons (pe_lc (own := [("state", 5)]) (g := gName 5) (by rfl) S.nd  (pi_range1 (by rfl) T.range (pa_cons (pv 3) pa_nil)) (blkOk_by (N := N_law_machine_sketch) (sc := defScope s_law_machine_sketch) (by decide +kernel)) (fun _ _ _ _ _ => (pg_name (i := 5) S.nd rfl (by first | exact .inl rfl | exact .inr rfl))) (fun _ _ _ _ _ => (pts_one (pt_cmpR op_eq (pe_ok h__law_take (hr.mono (by decide)) (by rfl) (pa_cons (pv 0) (pa_cons pe_int pa_nil))) pe_int (nomark _)))) (fun _ _ _ _ _ => (pv 5))) pa_nil)))))))), ?_⟩
  have big : 2000000 ≤ sizeLine := by decide
  refine ⟨_, rfl, _, rfl, d, l, c, (m : Int), rfl, vw.dr, by omega, by omega, fun k H1 hk0 hk1 n1 D1 => ⟨_, _, rfl, rfl, ?_⟩⟩
  obtain ⟨n, hn⟩ : ∃ n : Nat, (1 : Int) + k = (n : Int) := ⟨(1 + k).toNat, by omega⟩
  have hn' : (fun (i j : Int) => V.int (i + j)) 1 k = V.int (n : Int) := congrArg V.int hn
  rw [hn']
  have m1 := Mv.nd (K := K) vw tb n1 D1
  refine ⟨Nat.zero_le _, fun p hp => ?_⟩
  obtain ⟨gp, vp, sp⟩ := Gr.start (K := K) m1.vw hp
  have m2 := Mv.same (K := K) m1.vw m1.tb sp
  refine ⟨_, rfl, (n : Int), rfl, by omega, by omega, for_range (lo := 0) (n := (n : Int).toNat) (fun i σ Hc => ∃ y5 y6 Gi ws, σ = [some (.ref d), some (.int (L : Int)), some (.int (m : Int)), some (.int (n : Int)), some (.ref p), y5, y6] ∧ Mv K TQ d l c G H1 Gi Hc ∧ Gr K d l c Gi Hc p (ws.map wayL) ∧ ws.length = i ∧ ∀ w ∈ ws, WOk L n w) ⟨_, _, G, [], rfl, m2, gp, rfl, fun w z => nomatch z⟩ (fun i σ Hc hi hP => ?_) fun σ Hc hP => ?_⟩
  · obtain ⟨y5, y6, Gi, ws, rfl, mv, gr, lw, hw⟩ := hP
    dsimp only [gName]
    obtain ⟨acc, eacc, _⟩ := id gr.ex
    refine ⟨_, rfl, .inl ⟨rfl, _, SqL.of eacc⟩, ?_⟩
    refine ⟨_, rfl, (L : Int), rfl, by omega, by omega, fun q1 hq1 => ?_⟩
    obtain ⟨gq, vq, sq⟩ := Gr.start (K := K) mv.vw hq1
    have mq := Mv.same (K := K) mv.vw mv.tb sq
    have grq := gr.mv mq
    have hpq : p ≠ q1 := fun z => by rw [z, hq1] at eacc; cases eacc
    refine lc_range (lo := 0) (n := (L : Int).toNat) (fun k Hd => ∃ w : List (Option Nat), Mv K TQ d l c Gi Hc Gi Hd ∧ Gr K d l c Gi Hd p (ws.map wayL) ∧ Gr K d l c Gi Hd q1 (w.map oD) ∧ w.length = k ∧ ∀ s, some s ∈ w → s < n) ⟨[], mq, grq, gq, rfl, fun s z => nomatch z⟩ (fun k Hd hk hP => ?_) fun Hd hP => ?_
    · obtain ⟨w, mw, gw, gqw, lw2, hs⟩ := hP
      refine ⟨rfl, tyes ?_⟩
      refine ⟨_, rfl, ?_⟩
      refine ⟨_, rfl, _, rfl, d, l, c, (n : Int), rfl, mw.vw.dr, by omega, by omega, fun a H3 ha0 ha1 n3 D3 => ?_⟩
      refine ⟨_, rfl, _, rfl, d, l, c, (n : Int), rfl, D3, by omega, by omega, fun b H4 hb0 hb1 n4 D4 => ?_⟩
      refine ⟨by show 3 ≤ sizeLine; omega, fun t ht => ?_⟩
      obtain ⟨t1, t2, t3⟩ := D4.off ht
      have D4' := D4.upd (o := .lst [.non, .int a, .int b]) t1 t2 t3
      refine ⟨d, l, c, t, _, rfl, D4', t2, SqL.of upd_same, by show 0 < 3; omega, by show 3 < 1000000; omega, fun v H5 hv n5 D5 => ?_⟩
      obtain ⟨o, ho, hso⟩ : ∃ o : Option Nat, Dp K Gi v (oD o) ∧ ∀ s, o = some s → s < n := by
        have ia : (a.toNat : Int) = a := by omega
        have ib : (b.toNat : Int) = b := by omega
        rcases List.mem_cons.mp hv with rfl | hv
        · exact ⟨none, .non, fun s z => nomatch z⟩
        rcases List.mem_cons.mp hv with rfl | hv
        · exact ⟨some a.toNat, by show Dp K Gi (.int a) (.int (a.toNat : Int)); rw [ia]; exact .int a, fun s z => by cases z; omega⟩
        · rw [List.mem_singleton.mp hv]
          exact ⟨some b.toNat, by show Dp K Gi (.int b) (.int (b.toNat : Int)); rw [ib]; exact .int b, fun s z => by cases z; omega⟩
      have n45 := ((n3.trans n4).trans (Nd.of (same_upd ht))).trans n5
      have m5' := Mv.nd (K := K) mw.vw mw.tb n45 D5
      have m5 := mw.trans m5'
      have g5 := gw.mv m5'
      have gq5 := gqw.mv m5'
      obtain ⟨acq, eq, aq⟩ := id gq5.ex
      obtain ⟨mf, gf⟩ := m5.put hq1 gq5 (dpa_append aq (.cons ho .nil))
      refine ⟨acq, eq, ?_, w ++ [o], mf, g5.off hpq, ?_, ?_, fun s hsm => ?_⟩
      · have := dpa_length aq
        rw [List.length_map, lw2] at this
        omega
      · rw [List.map_append]; exact gf
      · rw [List.length_append, lw2]; rfl
      · rcases List.mem_append.mp hsm with z | z
        · exact hs s z
        · exact hso s (List.mem_singleton.mp z).symm
    · obtain ⟨w, mw, gw, gqw, lw2, hs⟩ := hP
      obtain ⟨acq, eq, aq⟩ := id gqw.ex
      have mt := mw.told hq1 gqw.g eq gqw.nd gqw.nl gqw.nc
      have gt := gw.told (o := .lst acq) hpq gqw.g
      have sg : Same Gi (upd Gi q1 (.lst acq)) := fun b u z => by rw [upd_ne (ne_of_none z gqw.g)]; exact z
      have dq : Dp K (upd Gi q1 (.lst acq)) (.ref q1) (wayL w) := .lst (SqL.of upd_same) (dpa_mono sg _ aq)
      obtain ⟨ac2, e2, a2⟩ := id gt.ex
      obtain ⟨mf, gf⟩ := (mv.trans mt).put hp gt (dpa_append a2 (.cons dq .nil))
      refine ⟨p, ac2, _, rfl, rfl, e2, ?_, ⟨_, _, _, ws ++ [w], rfl, mf, ?_, ?_, fun x hx => ?_⟩⟩
      · have := dpa_length a2
        rw [List.length_map, lw] at this
        omega
      · rw [List.map_append]; exact gf
      · rw [List.length_append, lw]; rfl
      · rcases List.mem_append.mp hx with z | z
        · exact hw x z
        · rw [List.mem_singleton.mp z]
          exact ⟨by omega, hs⟩
  · obtain ⟨y5, y6, Gi, ws, rfl, mv, gr, lw, hw⟩ := hP
    obtain ⟨acc, eacc, _⟩ := id gr.ex
    refine ⟨_, rfl, ?_⟩
    refine ⟨_, rfl, (n : Int), rfl, by omega, by omega, fun p2 hp2 => ?_⟩
    obtain ⟨gq, vq, sq⟩ := Gr.start (K := K) mv.vw hp2
    have mq := Mv.same (K := K) mv.vw mv.tb sq
    have grq := gr.mv mq
    have hpq : p ≠ p2 := fun z => by rw [z, hp2] at eacc; cases eacc
    refine lc_range (lo := 0) (n := (n : Int).toNat) (fun k Hd => ∃ es : List Nat, Mv K TQ d l c Gi Hc Gi Hd ∧ Gr K d l c Gi Hd p (ws.map wayL) ∧ Gr K d l c Gi Hd p2 (nsD es) ∧ es.Pairwise (· < ·) ∧ (∀ e ∈ es, e < k) ∧ es.length ≤ k) ⟨[], mq, grq, gq, List.Pairwise.nil, (fun e z => nomatch z), Nat.le_refl _⟩ (fun k Hd hk hP => ?_) fun Hd hP => ?_
    · obtain ⟨es, mw, gw, ge, pw, le, ln⟩ := hP
      refine ⟨rfl, ?_⟩
      refine ⟨_, rfl, d, l, c, 2, rfl, mw.vw.dr, by decide, by decide, fun a H3 ha0 ha1 n3 D3 => ⟨rfl, _, rfl, ?_⟩⟩
      have m5' := Mv.nd (K := K) mw.vw mw.tb n3 D3
      have m5 := mw.trans m5'
      have g5 := gw.mv m5'
      have gq5 := ge.mv m5'
      generalize decide (V.int a = V.int 0) = bb
      cases bb with
      | false => exact iteF ⟨es, m5, g5, gq5, pw, fun e he => Nat.lt_succ_of_lt (le e he), Nat.le_succ_of_le ln⟩
      | true =>
        refine iteT ?_
        obtain ⟨acq, eq, aq⟩ := id gq5.ex
        have ek : (0 : Int) + (k : Int) = (k : Int) := by omega
        obtain ⟨mf, gf⟩ := m5.put hp2 gq5 (dpa_append aq (.cons (K := K) (.int (k : Int)) .nil))
        refine ⟨_, rfl, acq, eq, ?_, es ++ [k], ?_, ?_, ?_, ?_, fun e he => ?_, ?_⟩
        · have := dpa_length aq
          rw [List.length_map] at this
          omega
        · rw [ek]; exact mf
        · rw [ek]; exact g5.off hpq
        · rw [ek, show nsD (es ++ [k]) = nsD es ++ [PyData.int (k : Int)] from List.map_append]; exact gf
        · rw [List.pairwise_append]
          exact ⟨pw, List.pairwise_singleton _ _, fun a ha b hb => by rw [List.mem_singleton.mp hb]; exact le a ha⟩
        · rcases List.mem_append.mp he with z | z
          · exact Nat.lt_succ_of_lt (le e z)
          · rw [List.mem_singleton.mp z]; exact Nat.lt_succ_self _
        · rw [List.length_append, List.length_singleton]; omega
    · obtain ⟨es, mw, gw, ge, pw, le, ln⟩ := hP
      obtain ⟨ac2, e2, a2⟩ := id ge.ex
      have mt := mw.told hp2 ge.g e2 ge.nd ge.nl ge.nc
      have gt := gw.told (o := .lst ac2) hpq ge.g
      have s2 : Same Gi (upd Gi p2 (.lst ac2)) := fun b u z => by rw [upd_ne (ne_of_none z ge.g)]; exact z
      obtain ⟨ac3, e3, a3⟩ := id gt.ex
      have mu := (mv.trans mt).told hp gt.g e3 gt.nd gt.nl gt.nc
      have s3 : Same (upd Gi p2 (.lst ac2)) (upd (upd Gi p2 (.lst ac2)) p (.lst ac3)) := fun b u z => by rw [upd_ne (ne_of_none z gt.g)]; exact z
      refine ⟨by show 2 ≤ sizeLine; omega, fun t ht => ?_⟩
      have nt := Nx.new (o := .tup [.ref p, .ref p2]) mu.vw.gh ht
      have mt2 := mu.trans (Mv.nx (K := K) mu.vw mu.tb nt)
      have d1 : Dp K (upd (upd Gi p2 (.lst ac2)) p (.lst ac3)) (.ref p) (.list (ws.map wayL)) := .lst (SqL.of upd_same) (dpa_mono s3 _ a3)
      have d2 : Dp K (upd (upd Gi p2 (.lst ac2)) p (.lst ac3)) (.ref p2) (.list (nsD es)) := dp_mono s3 _ (.lst (SqL.of upd_same) (dpa_mono s2 _ a2))
      refine q _ _ _ ws es ⟨hL1, by omega, by omega, by omega, fun x hx => ?_, fun e he => ?_, fun i hi => ?_, by omega⟩ (by omega) (m1.trans mt2) (.tup (SqT.of upd_same) (.cons (dp_mono nt.gg _ d1) (.cons (dp_mono nt.gg _ d2) .nil)))
      · rw [lw, Int.toNat_natCast]; exact hw x hx
      · rw [lw]; exact le e he
      · rw [List.getD_eq_getElem?_getD, List.getElem?_eq_getElem (by omega), List.getD_eq_getElem?_getD, List.getElem?_eq_getElem hi]
        exact List.pairwise_iff_getElem.mp pw i (i + 1) (by omega) hi (by omega)
end
end Gw
namespace Gw
open PySem PySem.Spec PyProof.Rows L2 LamX
/-! ### the program's rows are the law's -/
theorem goL_none (ws : List (List (Option Nat))) : ∀ r : List Nat, goL ws none r = none
  | [] => rfl
  | i :: r => goL_none ws r
theorem goL_snoc (ws : List (List (Option Nat))) (i : Nat) : ∀ (r : List Nat) (o : Option Nat), goL ws o (r ++ [i]) = (goL ws o r).bind fun s => (ws.getD s []).getD i none
  | [], none => rfl
  | [], some s => rfl
  | j :: r, none => goL_snoc ws i r none
  | j :: r, some s => goL_snoc ws i r _
theorem onF_rng (r : List Nat) (F : Nat → Option Led) : ∀ (w : List (Option Nat)) (i : Nat), (∀ j, j < w.length → F (i + j) = (w.getD j none).map fun k => (r ++ [i + j], k)) → onF r i w = (List.range' i w.length).filterMap F
  | [], i, h => rfl
  | o :: w, i, h => by
    have ih := onF_rng r F w (i + 1) fun j hj => by
      have h1 := h (j + 1) (by rw [List.length_cons]; omega)
      rw [show i + (j + 1) = i + 1 + j by omega] at h1
      exact h1
    have h0 : F i = o.map fun k => (r ++ [i], k) := h 0 (by rw [List.length_cons]; omega)
    rw [List.length_cons, List.range'_succ, List.filterMap_cons, h0]
    cases o with
    | none => exact ih
    | some k => exact congrArg _ ih
def gF (ws : List (List (Option Nat))) (r : List Nat) : Option Led := (goL ws (some 0) r).map fun s => (r, s)
theorem onF_ext {ws : List (List (Option Nat))} {L s : Nat} {r : List Nat} (h : goL ws (some 0) r = some s) (hl : (ws.getD s []).length = L) : onF r 0 (ws.getD s []) = (extL L r).filterMap (gF ws) := by
  rw [onF_rng r (fun i => gF ws (r ++ [i])) (ws.getD s []) 0 fun j hj => ?_]
  · unfold extL
    rw [List.filterMap_map, hl, List.range_eq_range']
    rfl
  · unfold gF
    rw [goL_snoc, h, Nat.zero_add]
    rfl
theorem ext_none {ws : List (List (Option Nat))} {L : Nat} {r : List Nat} (h : goL ws (some 0) r = none) : (extL L r).filterMap (gF ws) = [] := by
  rw [List.filterMap_eq_nil_iff]
  intro x hx
  unfold extL at hx
  obtain ⟨i, _, rfl⟩ := List.mem_map.mp hx
  unfold gF
  rw [goL_snoc, h]
  rfl
theorem stepL_rows {ws : List (List (Option Nat))} {L : Nat} : ∀ l : List (List Nat), (∀ r ∈ l, ∀ s, goL ws (some 0) r = some s → (ws.getD s []).length = L) → stepL ws (l.filterMap (gF ws)) = ((l.map (extL L)).flatten).filterMap (gF ws)
  | [], _ => rfl
  | r :: l, h => by
    have ih := stepL_rows l fun x hx => h x (List.mem_cons_of_mem _ hx)
    rw [List.map_cons, List.flatten_cons, List.filterMap_append, ← ih, List.filterMap_cons]
    cases hg : goL ws (some 0) r with
    | none =>
      have e : gF ws r = none := by unfold gF; rw [hg]; rfl
      rw [e, ext_none hg]; rfl
    | some s =>
      have e : gF ws r = some (r, s) := by unfold gF; rw [hg]; rfl
      rw [e, ← onF_ext hg (h r List.mem_cons_self s hg)]
      rfl
theorem ledN_rows {L : Nat} {ws : List (List (Option Nat))} {es : List Nat} (M : MOk L ws es) : ∀ k, ledN ws k = (rowsL L k).filterMap (gF ws)
  | 0 => rfl
  | k + 1 => by
    have ih := ledN_rows M k
    show stepL ws (ledN ws k) = _
    rw [ih, stepL_rows (L := L) _ fun r hr s hs => ?_]
    · rfl
    · have hm : (r, s) ∈ ledN ws k := by
        rw [ih]
        exact List.mem_filterMap.mpr ⟨r, hr, by unfold gF; rw [hs]; rfl⟩
      have h1 := (ledN_mem M k hm).1
      have h2 : ws.getD s [] ∈ ws := by rw [List.getD_eq_getElem?_getD, List.getElem?_eq_getElem h1]; exact List.getElem_mem h1
      exact (M.w _ h2).l
theorem ledN_le {L : Nat} {ws : List (List (Option Nat))} {es : List Nat} (M : MOk L ws es) (k : Nat) : (ledN ws k).length ≤ L ^ k := by
  rw [ledN_rows M, ← rowsL_len]
  exact List.length_filterMap_le _ _
def inE (ws : List (List (Option Nat))) (es : List Nat) (r : List Nat) : Bool := match goL ws (some 0) r with | some s => decide (s ∈ es) | none => false
theorem takesD_rows (ws : List (List (Option Nat))) (es : List Nat) : ∀ l : List (List Nat), takesD es (l.filterMap (gF ws)) = l.filter (inE ws es)
  | [] => rfl
  | r :: l => by
    have ih := takesD_rows ws es l
    rw [List.filterMap_cons, List.filter_cons, ← ih]
    unfold gF inE
    cases hg : goL ws (some 0) r with
    | none => rfl
    | some s =>
      show takesD es ((r, s) :: l.filterMap (gF ws)) = _
      unfold takesD
      rw [List.filterMap_cons]
      by_cases h : s ∈ es
      · simp [h]; rfl
      · simp [h]; rfl
theorem foundN_all {L : Nat} {ws : List (List (Option Nat))} {es : List Nat} (M : MOk L ws es) (m : Nat) : foundN ws es (m + 1) = (allL L m).filter (inE ws es) := by
  unfold foundN allL
  rw [List.filter_flatten, List.map_map]
  refine congrArg List.flatten (List.map_congr_left fun i _ => ?_)
  rw [ledN_rows M, takesD_rows]
  rfl
/-! ### machines of one state -/
def oneS (n : Nat) : List (List (Option Nat)) := [List.replicate n (some 0)]
theorem oneS_go {n : Nat} : ∀ r : List Nat, (∀ i ∈ r, i < n) → goL (oneS n) (some 0) r = some 0
  | [], _ => rfl
  | i :: r, h => by
    have hi := h i List.mem_cons_self
    have e : ((oneS n).getD 0 []).getD i none = some 0 := by
      show (List.replicate n (some 0)).getD i none = some 0
      rw [List.getD_eq_getElem?_getD, List.getElem?_replicate, if_pos hi]; rfl
    show goL (oneS n) (((oneS n).getD 0 []).getD i none) r = some 0
    rw [e]
    exact oneS_go r fun j hj => h j (List.mem_cons_of_mem _ hj)
theorem oneS_ok {n : Nat} {es : List Nat} (h1 : 1 ≤ n) (h2 : n ≤ 169) (he : es = [] ∨ es = [0]) : MOk n (oneS n) es := by
  refine ⟨h1, h2, Nat.le_refl _, by show 1 ≤ 2000; omega, fun w hw => ?_, fun k hk => ?_, fun i hi => ?_, ?_⟩
  · rw [List.mem_singleton.mp hw]
    refine ⟨List.length_replicate, fun k hk => ?_⟩
    have := List.eq_of_mem_replicate hk
    cases this
    exact Nat.zero_lt_one
  · rcases he with rfl | rfl
    · cases hk
    · rw [List.mem_singleton.mp hk]; exact Nat.zero_lt_one
  · rcases he with rfl | rfl
    · exact absurd hi (by simp)
    · exact absurd hi (by simp)
  · rcases he with rfl | rfl <;> simp
theorem oneS_led {n : Nat} {es : List Nat} (M : MOk n (oneS n) es) (k : Nat) : (ledN (oneS n) k).length = n ^ k := by
  rw [ledN_rows M, ← rowsL_len]
  have : ∀ l : List (List Nat), (∀ r ∈ l, ∀ i ∈ r, i < n) → (l.filterMap (gF (oneS n))).length = l.length := fun l => by
    induction l with
    | nil => intro _; rfl
    | cons r l ih =>
      intro h
      have e : gF (oneS n) r = some (r, 0) := by unfold gF; rw [oneS_go r (h r List.mem_cons_self)]; rfl
      rw [List.filterMap_cons, e, List.length_cons, List.length_cons, ih fun x hx => h x (List.mem_cons_of_mem _ hx)]
  exact this _ fun r hr => (rowsL_mem k hr).2
theorem wide_len : (foundN (oneS 14) [0] 4).length = 2955 := by
  have M := oneS_ok (n := 14) (es := [0]) (by decide) (by decide) (.inr rfl)
  rw [show (4 : Nat) = 3 + 1 from rfl, foundN_all M 3]
  have e : (allL 14 3).filter (inE (oneS 14) [0]) = allL 14 3 := by
    rw [List.filter_eq_self]
    intro r hr
    unfold allL at hr
    obtain ⟨l, hl, hr⟩ := List.mem_flatten.mp hr
    obtain ⟨k, _, rfl⟩ := List.mem_map.mp hl
    unfold inE
    rw [oneS_go r (rowsL_mem k hr).2]
    rfl
  rw [e, allL_succ, allL_succ, allL_succ, List.length_append, List.length_append, List.length_append, rowsL_len, rowsL_len, rowsL_len]
  rfl
theorem wide_led {k : Nat} (hk : k < 3) : (ledN (oneS 14) (k + 1)).length ≤ 3000 := by
  rw [oneS_led (oneS_ok (es := [0]) (by decide) (by decide) (.inr rfl))]
  have : 14 ^ (k + 1) ≤ 14 ^ 3 := Nat.pow_le_pow_right (by decide) (by omega)
  omega
theorem great_led : ∃ k < 3, 3000 < (ledN (oneS 15) (k + 1)).length := ⟨2, by decide, by
  rw [oneS_led (oneS_ok (es := []) (by decide) (by decide) (.inl rfl))]
  decide⟩
theorem great_led2 {k : Nat} (hk : k < 2) : (ledN (oneS 15) (k + 1)).length ≤ 3000 := by
  rw [oneS_led (oneS_ok (es := []) (by decide) (by decide) (.inl rfl))]
  have : 15 ^ (k + 1) ≤ 15 ^ 2 := Nat.pow_le_pow_right (by decide) (by omega)
  omega
theorem great_none : foundN (oneS 15) [] 3 = [] := by
  rw [show (3 : Nat) = 2 + 1 from rfl, foundN_all (oneS_ok (es := []) (by decide) (by decide) (.inl rfl)) 2, List.filter_eq_nil_iff]
  intro r _
  unfold inE
  cases goL (oneS 15) (some 0) r with
  | none => simp
  | some s => simp
theorem small_led {L : Nat} {ws : List (List (Option Nat))} {es : List Nat} (M : MOk L ws es) (hL : L ≤ 4) {m k : Nat} (hm : m ≤ 4) (hk : k < m) : (ledN ws (k + 1)).length ≤ 3000 := by
  have h1 := ledN_le M (k + 1)
  have h2 : L ^ (k + 1) ≤ 4 ^ 4 := Nat.le_trans (Nat.pow_le_pow_left hL _) (Nat.pow_le_pow_right (by decide) (by omega))
  omega
end Gw
namespace Gw
open PySem PySem.Spec PyProof.Rows L2 LamX
/-! ### rows that may be shown -/
def rowD (r : List Int) : PyData := .tuple (r.map .int)
theorem small_len {x : Int} (h : 0 ≤ x ∧ x < 12) : (PyData.shown (.int x)).length ≤ 2 := by
  have e : ∀ k : Fin 12, (PyData.shown (.int (k.val : Int))).length ≤ 2 := by decide +kernel
  have := e ⟨x.toNat, by omega⟩
  rwa [show ((x.toNat : Nat) : Int) = x by omega] at this
theorem piled_small : ∀ {ws : List Int}, Letters 12 ws → piled (PyData.shownAll (ws.map .int)) ≤ 4 * ws.length
  | [], _ => by simp [PyData.shownAll, piled]
  | x :: ws, h => by
    have h1 := small_len (h x List.mem_cons_self)
    have h2 := piled_small (ws := ws) fun y hy => h y (List.mem_cons_of_mem _ hy)
    rw [List.map_cons, PyData.shownAll]
    simp only [piled, List.map_cons, List.sum_cons, List.length_cons] at h2 ⊢
    omega
theorem tuple_len (ts : List Str) : (tupleText ts).length ≤ piled ts + 3 := by
  have hl : ∀ b : Bool, ((if b = true then ",)" else ")" : String) : Str).length ≤ 2 := fun b => by cases b <;> decide
  unfold tupleText
  rw [strLen_append, strLen_append]
  have h1 : ((("(" : String) : Str)).length = 1 := by decide
  have h2 := hl (ts.length == 1)
  cases ts with
  | nil =>
    have : (Str.join ", " []).length = 0 := by decide
    omega
  | cons t r =>
    have := join_length_add (t :: r) (by simp)
    omega
theorem shown_row {ws : List Int} (h : Letters 12 ws) : (rowD ws).shown.length ≤ 4 * ws.length + 3 := by
  have h1 := piled_small h
  have h2 := tuple_len (PyData.shownAll (ws.map .int))
  show (tupleText (PyData.shownAll (ws.map .int))).length ≤ _
  omega
theorem showable_row : ∀ {ws : List Int}, Letters 12 ws → PyData.showableAll (ws.map .int) = true
  | [], _ => by simp [PyData.showableAll]
  | x :: ws, h => by
    have hx := h x List.mem_cons_self
    have h2 := showable_row (ws := ws) fun y hy => h y (List.mem_cons_of_mem _ hy)
    rw [List.map_cons, PyData.showableAll, h2, Bool.and_true]
    show decide (x.natAbs.log2 < 1920) = true
    refine decide_eq_true ?_
    have : x.natAbs.log2 ≤ x.natAbs := Nat.log2_le_self _
    omega
theorem nodict_row : ∀ (ws : List Int), PyData.hasDictAll (ws.map .int) = false
  | [] => by simp [PyData.hasDictAll]
  | x :: ws => by
    rw [List.map_cons, PyData.hasDictAll, nodict_row ws]
    simp [PyData.hasDict]
theorem depth_row : ∀ (ws : List Int), PyData.depthAll (ws.map .int) = 0
  | [] => rfl
  | x :: ws => by
    rw [List.map_cons, PyData.depthAll, depth_row ws]
    rfl
theorem showy_row {ws : List Int} (h : Letters 12 ws) (hl : ws.length ≤ 1000) : Showy (rowD ws) where
  s := by
    show (PyData.tuple (ws.map .int)).showable = true
    simp only [PyData.showable]
    exact showable_row h
  n := by
    show (PyData.tuple (ws.map .int)).hasDict = false
    simp only [PyData.hasDict]
    exact nodict_row ws
  z := by
    have := shown_row h
    exact Nat.le_trans (by omega : _ ≤ 5000) (by decide)
  p := by
    show (PyData.tuple (ws.map .int)).depth ≤ 60
    rw [PyData.depth, depth_row]
    omega
theorem textFrom_le : ∀ (ts : List Str) (k : Nat) (acc : Str), (textFrom k acc ts).length ≤ acc.length + piled ts
  | [], k, acc => Nat.le_add_right _ _
  | t :: r, k, acc => by
    have h := textFrom_le r (k + 1) (acc ++ (if k > 0 then ", " else "" : String) ++ t)
    have e : (acc ++ (if k > 0 then ", " else "" : String) ++ t).length ≤ acc.length + 2 + t.length := by
      rw [strLen_append, strLen_append]
      have : (((if k > 0 then ", " else "" : String) : String) : Str).length ≤ 2 := by
        split <;> decide
      omega
    show (textFrom (k + 1) (acc ++ (if k > 0 then ", " else "" : String) ++ t) r).length ≤ _
    simp only [piled, List.map_cons, List.sum_cons] at h ⊢
    omega
theorem showy_two {u v : List Int} (hu : Letters 12 u) (hv : Letters 12 v) (lu : u.length ≤ 1000) (lv : v.length ≤ 1000) : Showy (.list [rowD u, rowD v]) where
  s := by
    have a := (showy_row hu lu).s
    have b := (showy_row hv lv).s
    simp only [PyData.showable, PyData.showableAll, a, b, Bool.and_self]
  n := by
    have a := (showy_row hu lu).n
    have b := (showy_row hv lv).n
    simp only [PyData.hasDict, PyData.hasDictAll, a, b, Bool.or_self]
  z := by
    have a := shown_row hu
    have b := shown_row hv
    show (listText (PyData.shownAll [rowD u, rowD v])).length ≤ _
    unfold listText
    rw [strLen_append]
    have h := textFrom_le (PyData.shownAll [rowD u, rowD v]) 0 "["
    have h1 : ((("[" : String) : Str)).length = 1 := by decide
    have h2 : ((("]" : String) : Str)).length = 1 := by decide
    have e : PyData.shownAll [rowD u, rowD v] = [(rowD u).shown, (rowD v).shown] := by simp only [PyData.shownAll]
    rw [e] at h ⊢
    simp only [piled, List.map_cons, List.map_nil, List.sum_cons, List.sum_nil] at h
    exact Nat.le_trans (by omega : _ ≤ 10000) (by decide)
  p := by
    have a := (showy_row hu lu).p
    have b := (showy_row hv lv).p
    have a : (rowD u).depth ≤ 1 := by
      show (PyData.tuple (u.map .int)).depth ≤ 1
      rw [PyData.depth, depth_row]
      omega
    have b : (rowD v).depth ≤ 1 := by
      show (PyData.tuple (v.map .int)).depth ≤ 1
      rw [PyData.depth, depth_row]
      omega
    simp only [PyData.depth, PyData.depthAll]
    omega
theorem log_small {k : Nat} (h : k ≤ 100000) : k.log2 < 1920 := by
  by_cases h0 : k = 0
  · subst h0; decide
  · exact (Nat.log2_lt h0).mpr (Nat.lt_of_le_of_lt h (by decide))
structure Cmp (n p : Nat) (d : PyData) : Prop where
  s : d.showable = true
  nd : d.hasDict = false
  z : d.shown.length ≤ n
  p : d.depth ≤ p
theorem Cmp.showy {n p : Nat} {d : PyData} (h : Cmp n p d) (hn : n ≤ 1000000) (hp : p ≤ 60) : Showy d := ⟨h.s, h.nd, Nat.le_trans h.z (Nat.le_trans hn (by decide)), Nat.le_trans h.p hp⟩
theorem Cmp.mono {n p n' p' : Nat} {d : PyData} (h : Cmp n p d) (hn : n ≤ n') (hp : p ≤ p') : Cmp n' p' d := ⟨h.s, h.nd, Nat.le_trans h.z hn, Nat.le_trans h.p hp⟩
theorem cmp_all {n p : Nat} : ∀ {ds : List PyData}, (∀ d ∈ ds, Cmp n p d) → PyData.showableAll ds = true ∧ PyData.hasDictAll ds = false ∧ piled (PyData.shownAll ds) ≤ ds.length * (n + 2) ∧ PyData.depthAll ds ≤ p
  | [], _ => ⟨by simp [PyData.showableAll], by simp [PyData.hasDictAll], by simp [PyData.shownAll, piled], by simp [PyData.depthAll]⟩
  | x :: ds, h => by
    obtain ⟨h1, h2, h3, h4⟩ := cmp_all (ds := ds) fun d hd => h d (List.mem_cons_of_mem _ hd)
    have hx := h x List.mem_cons_self
    refine ⟨by rw [PyData.showableAll, hx.s, h1]; rfl, by rw [PyData.hasDictAll, hx.nd, h2]; rfl, ?_, ?_⟩
    · have e : piled (PyData.shownAll (x :: ds)) = (x.shown.length + 2) + piled (PyData.shownAll ds) := by simp [PyData.shownAll, piled]
      have := hx.z
      rw [e, List.length_cons, Nat.succ_mul]
      omega
    · have := hx.p
      rw [PyData.depthAll]
      omega
theorem cmp_tup {n p : Nat} {ds : List PyData} (h : ∀ d ∈ ds, Cmp n p d) : Cmp (ds.length * (n + 2) + 3) (p + 1) (.tuple ds) := by
  obtain ⟨h1, h2, h3, h4⟩ := cmp_all h
  refine ⟨by rw [PyData.showable]; exact h1, by rw [PyData.hasDict]; exact h2, ?_, ?_⟩
  · have := tuple_len (PyData.shownAll ds)
    show (tupleText (PyData.shownAll ds)).length ≤ _
    omega
  · rw [PyData.depth]; omega
theorem cmp_lst {n p : Nat} {ds : List PyData} (h : ∀ d ∈ ds, Cmp n p d) : Cmp (ds.length * (n + 2) + 3) (p + 1) (.list ds) := by
  obtain ⟨h1, h2, h3, h4⟩ := cmp_all h
  refine ⟨by rw [PyData.showable]; exact h1, by rw [PyData.hasDict]; exact h2, ?_, ?_⟩
  · have h5 := textFrom_le (PyData.shownAll ds) 0 "["
    have h6 : ((("[" : String) : Str)).length = 1 := by decide
    have h7 : ((("]" : String) : Str)).length = 1 := by decide
    show (listText (PyData.shownAll ds)).length ≤ _
    unfold listText
    rw [strLen_append]
    omega
  · rw [PyData.depth]; omega
theorem cmp_int {i : Int} (h : i.natAbs ≤ 100000) : Cmp 1921 0 (.int i) :=
  have e : i.natAbs.log2 < 1920 := log_small h
  ⟨by rw [PyData.showable]; exact decide_eq_true e, by rw [PyData.hasDict], by rw [PyData.shown_int]; exact int_text_len_1921 e, by rw [PyData.depth]; exact Nat.le_refl _⟩
theorem cmp_bl {b : Bool} : Cmp 1921 0 (.bool b) := ⟨by rw [PyData.showable], by rw [PyData.hasDict], by cases b <;> decide, by rw [PyData.depth]; exact Nat.le_refl _⟩
theorem cmp_non : Cmp 1921 0 .none := ⟨by rw [PyData.showable], by rw [PyData.hasDict], by decide, by rw [PyData.depth]; exact Nat.le_refl _⟩
theorem cmp_word {ws : List Int} (h : Letters 12 ws) (hl : ws.length ≤ 1000) : Cmp 5000 1 (wD ws) := by
  have s := showy_row h hl
  refine ⟨s.s, s.n, ?_, ?_⟩
  · have := shown_row h
    show (rowD ws).shown.length ≤ _
    omega
  · show (rowD ws).depth ≤ 1
    unfold rowD
    rw [PyData.depth, depth_row]; omega
/-! ### a pick of what a def handed back -/
def spPickG (K : PySem.W.Frag) : Sp := fun vs H Q _ => ∃ d l c a xs, vs = [.ref d, .ref a] ∧ Drw H d l c ∧ SqL K H a xs ∧ (∀ H', Nd d l H H' → SqL K H' a xs) ∧ 0 < xs.length ∧ xs.length < 1000000 ∧ ∀ v H', v ∈ xs → Nd d l H H' → Drw H' d l c → Q v H'
section
variable {P : Program} {w : World} {K : PySem.W.Frag} {mg : Str → Option Value} {base : Heap} {f : Addr} {fd : FuncData}
theorem ok_law_pickG (D : DefAt K mg "_law_pick" s_law_pick P_law_pick f fd) (T : Bt mg) (h__law_take : Ok P w K mg base "_law_take" P_law_take 2 spTake) : Ok P w K mg base "_law_pick" P_law_pick 3 (spPickG K) := by
  refine D.ok (D.F.ok sc_law_pick (fun vs H Q E h => ?_) fun cdv A outer s H vs Q E hr h => ?_)
  · obtain ⟨d, l, c, a, xs, rfl, _⟩ := h; rfl
  have S := sc_law_pick
  obtain ⟨d, l, c, a, xs, rfl, Dw, hS, hN, hx0, hx1, q⟩ := h
  refine ⟨_, (pss_one (ps_ret (pe_ix (q_ixL K rfl) (pv 1) (pe_ok h__law_take (hr.mono (by decide)) (by rfl) (pa_cons (pv 0) (pa_cons (pe_callB (q_len K rfl) (by rfl) T.len PySem.boot_len (pa_cons (pv 1) pa_nil)) pa_nil))) (fun _ _ => rfl)))), ?_⟩
  refine ⟨_, rfl, _, rfl, _, rfl, a, xs, rfl, .inl hS, d, l, c, (xs.length : Int), rfl, Dw, by omega, by omega, fun k H2 hk0 hk1 n2 D2 => ?_⟩
  obtain ⟨j, rfl⟩ : ∃ j : Nat, k = (j : Int) := ⟨k.toNat, by omega⟩
  have hj : j < xs.length := by omega
  exact ⟨a, xs, (j : Int), xs[j], rfl, rfl, hN H2 n2, atI_nat (List.getElem?_eq_getElem hj), q _ _ (List.getElem_mem hj) n2 D2⟩
theorem sqL_nd {G H H' : Hp} {d l c a : Addr} {xs : List V} (v : Vw G H d l c) (h : SqL K G a xs) (n : Nd d l H H') : SqL K H' a xs := by
  have go : ∀ {o : HO}, G a = some o → H' a = some o := fun {o} e => n.hh a o (fun z => by rw [z, v.gd] at e; cases e) (fun z => by rw [z, v.gl] at e; cases e) (v.gh a o e)
  rcases h with (e | ⟨o, e⟩) | e
  · exact SqL.of (go e)
  · exact .inl (.inr ⟨o, go e⟩)
  · exact .inr e
/-- picked over a view -/
theorem pickG_go {G H : Hp} {d l c a : Addr} {xs : List V} {Q : VK} {E : XK} (v : Vw G H d l c) (h : SqL K G a xs) (h0 : 0 < xs.length) (h1 : xs.length < 1000000) (q : ∀ v H', v ∈ xs → Nd d l H H' → Drw H' d l c → Q v H') : spPickG K [.ref d, .ref a] H Q E :=
  ⟨d, l, c, a, xs, rfl, v.dr, v.gh.seq h, fun H' n => sqL_nd v h n, h0, h1, q⟩
end
/-! ### what was caught -/
section
variable {K : PySem.W.Frag} {CB ae d : Addr} {H : Hp} {σ : L2.St} {i : Nat} {t : TS} {D : Ends} {p : Str}
theorem chk_part (h : σ[i]? = some (some (.ref ae))) (ha : H ae = some (ErrO (.ref CB) (some d) ae)) (hd : H d = some (.xd [(("part" : Str), .str p)])) (EB : ExcC K CB) (kB : PySem.W.kitOne K (.ref CB) (.ref CB) = some true) (k : D.nx σ H) :
    tIfS (tOr (tNot (tB (tCB (rIsC2 K) (tCons (tVar i) (tCons (tC (.ref CB)) tNil))))) (tTest (tOp rNe (tErrFld CB "part" (tVar i)) (tC (.str p))))) t tNext D σ H := by
  refine ⟨_, h, .inr ⟨ae, CB, CB, some d, true, rfl, ha, fun dd e => by cases e; exact ⟨_, hd⟩, EB, kB, true, rfl, ?_⟩⟩
  show if (!true) = true then _ else _
  refine iteF ?_
  refine ⟨_, h, ae, d, .str p, rfl, ha, hd, rfl, _, rfl, if_off ?_ (nx_of k)⟩
  simp
end
section
variable {K : PySem.W.Frag} {G : Hp}
theorem shaped_list {ds : List PyData} (h : ∀ d ∈ ds, d.canLay0 = true ∧ d.depth ≤ 3) : SeqAt.shaped (.list ds) = true := by
  have e1 : ∀ ds : List PyData, (∀ d ∈ ds, d.canLay0 = true ∧ d.depth ≤ 3) → PyData.canLayAll0 ds = true ∧ PyData.depthAll ds ≤ 3 := fun ds => by
    induction ds with
    | nil => exact fun _ => ⟨rfl, by simp [PyData.depthAll]⟩
    | cons z zs ih =>
      intro h
      obtain ⟨h1, h2⟩ := ih fun d hd => h d (List.mem_cons_of_mem _ hd)
      obtain ⟨h3, h4⟩ := h z List.mem_cons_self
      exact ⟨by rw [PyData.canLayAll0, h1, h3]; rfl, by rw [PyData.depthAll]; omega⟩
  obtain ⟨h1, h2⟩ := e1 ds h
  unfold SeqAt.shaped
  rw [Bool.and_eq_true]
  refine ⟨by rw [PyData.canLay0]; exact h1, decide_eq_true ?_⟩
  rw [PyData.depth]
  omega
theorem lay_word (ws : List Int) : (wD ws).canLay0 = true ∧ (wD ws).depth ≤ 1 := by
  have e1 : ∀ zs : List Int, PyData.canLayAll0 (zs.map .int) = true ∧ PyData.depthAll (zs.map .int) = 0 := fun zs => by
    induction zs with
    | nil => exact ⟨rfl, rfl⟩
    | cons z zs ih => exact ⟨by rw [List.map_cons, PyData.canLayAll0, ih.1]; rfl, by rw [List.map_cons, PyData.depthAll, ih.2]; rfl⟩
  exact ⟨by rw [PyData.canLay0]; exact (e1 ws).1, by rw [PyData.depth, (e1 ws).2]; omega⟩
end
/-! ### what is no word -/
def wrongs (n : Int) : List PyData := [.none, .int 5, .list [.int 0], .tuple [.int n], .tuple [.int (-1)], .tuple [.bool true], .str "0"]
theorem off_rows {n : Nat} {x : PyData} (h : x ∈ wrongs (n : Int)) : isRow n x = false ∧ Sized x := by
  unfold wrongs at h
  simp only [List.mem_cons, List.not_mem_nil, or_false] at h
  have one : ∀ d : PyData, Sized (.tuple [d]) := fun d => by show 1 ≤ sizeLine; decide
  rcases h with rfl | rfl | rfl | rfl | rfl | rfl | rfl
  · exact ⟨rfl, trivial⟩
  · exact ⟨rfl, trivial⟩
  · exact ⟨rfl, trivial⟩
  · refine ⟨?_, one _⟩
    show ((decide (0 ≤ (n : Int)) && decide ((n : Int) ≤ (n : Int) - 1)) && true) = false
    rw [decide_eq_false (by omega : ¬ (n : Int) ≤ (n : Int) - 1)]
    simp
  · refine ⟨?_, one _⟩
    show ((decide (0 ≤ (-1 : Int)) && decide ((-1 : Int) ≤ (n : Int) - 1)) && true) = false
    simp
  · exact ⟨rfl, one _⟩
  · exact ⟨rfl, trivial⟩
def spTr0 : Unit := ()
def g03 {α : Type} : List α → List α → List α
  | [], [x, y, z] => [z, y, x]
  | _, _ => []
theorem g03_rel {vs : List V} {us : List Value} {zs : List V} {ws : List Value} (h : Vals vs us) (h' : Vals zs ws) : Vals (g03 vs zs) (g03 us ws) := by
  match vs, us, h, zs, ws, h' with
  | _, _, .nil, _, _, .cons x (.cons y (.cons z .nil)) => exact .cons z (.cons y (.cons x .nil))
  | _, _, .cons _ _, _, _, _ => exact .nil
  | _, _, .nil, _, _, .nil => exact .nil
  | _, _, .nil, _, _, .cons _ .nil => exact .nil
  | _, _, .nil, _, _, .cons _ (.cons _ .nil) => exact .nil
  | _, _, .nil, _, _, .cons _ (.cons _ (.cons _ (.cons _ _))) => exact .nil
theorem kw03 {x p1 p2 p3 : Str} {st : Stmt} (h : ∀ (kV doc pm : Value) (an : Option Addr) (cdv ct a b c : Value), bindArgs (PySem.W.fnOf x x (defArgs st) (defBody st) (defScope st) .none kV doc pm an cdv ct) ⟨[], [(p3, c), (p2, b), (p1, a)]⟩ = pure [(p1, a), (p2, b), (p3, c)]) :
    KwOf x st [p1, p2, p3] [p3, p2, p1] g03 g03 := fun K f fd F => by
  obtain ⟨oc, od, kV, doc, pm, an, cdv, ct, osl, rfl, lk, hcd⟩ := F.ex
  refine ⟨fun s us ws _ hl => ?_, fun r r' => g03_rel r r'⟩
  match us, ws, hl with
  | [], [c, b, a], _ => exact .of_eq (h kV doc pm an cdv ct a b c)
section
variable {P : Program} {w : World} {K : PySem.W.Frag} {mg : Str → Option Value} {base : Heap} {f : Addr} {fd : FuncData}
def spTr : Sp := fun vs H Q _ => ∃ a b : Bool, vs = [.bl a, .bl b] ∧ Q (.bl (a == b)) H
theorem ok_law_is_truth (D : DefAt K mg "_law_is_truth" s_law_is_truth P_law_is_truth f fd) (T : Bt mg) : Ok P w K mg base "_law_is_truth" P_law_is_truth 1 spTr := by
  refine D.ok (D.F.ok sc_law_is_truth (fun vs H Q E h => ?_) fun cdv A outer s H vs Q E hr h => ?_)
  · obtain ⟨a, b, rfl, _⟩ := h; rfl
  have S := sc_law_is_truth
  obtain ⟨a, b, rfl, q⟩ := h
  refine ⟨_, (pss_one (ps_ret (pe_ifExp (pt_val (pv 1)) (pe_cmpR op_isBl (pv 0) pe_bl (nomark _)) (pe_cmpR op_isBl (pv 0) pe_bl (nomark _))))), ?_⟩
  cases b with
  | true => exact ⟨_, rfl, true, rfl, iteT ⟨_, rfl, a, true, rfl, rfl, by cases a <;> exact q⟩⟩
  | false => exact ⟨_, rfl, false, rfl, iteF ⟨_, rfl, a, false, rfl, rfl, by cases a <;> exact q⟩⟩
end
section
variable {K : PySem.W.Frag} {σ : L2.St} {G : Hp} {D ae : Addr} {j : Nat}
theorem ed_isc2 (h : σ[j]? = some (some (.ref ae))) (ha : G ae = some (ErrO (.ref D) none ae)) (T : ExcC K D) (hk : PySem.W.kitOne K (.ref D) (.ref D) = some true) : EvD K (tCB (rIsC2 K) (tCons (tVar j) (tCons (tC (.ref D)) tNil))) σ G (.bool true) := fun H s Q q =>
  ⟨_, h, .inr ⟨ae, D, D, none, true, rfl, s _ _ ha, (fun _ z => nomatch z), T, hk, q _ G H (Nx.refl s) (.bl _)⟩⟩
theorem ed_isc1 (h : σ[j]? = some (some (.ref ae))) (ha : G ae = some (ErrO (.ref D) none ae)) (T : ExcC K D) (hk : PySem.W.kitOne K (.ref D) (.ref D) = some true) : EvD K (tCB (rIsC K) (tCons (tVar j) (tCons (tC (.ref D)) tNil))) σ G (.bool true) := fun H s Q q =>
  ⟨_, h, .inr ⟨ae, D, D, true, rfl, s _ _ ha, T, hk, q _ G H (Nx.refl s) (.bl _)⟩⟩
end

theorem kb_rows_up_to : KwOf "rows_up_to" s_rows_up_to P_rows_up_to ["most", "machine"] g21 g21 := by unfold P_rows_up_to; exact kw21 fun _ _ _ _ _ _ _ _ => rfl
theorem kb_words_of : KwOf "words_of" s_words_of P_words_of ["row", "back"] g21 g21 := by unfold P_words_of; exact kw21 fun _ _ _ _ _ _ _ _ => rfl
theorem kb_is_pair_row : KwOf "is_pair_row" s_is_pair_row P_is_pair_row ["thing", "back"] g21 g21 := by unfold P_is_pair_row; exact kw21 fun _ _ _ _ _ _ _ _ => rfl
theorem kb_pair_row : KwOf "pair_row" s_pair_row P_pair_row ["other", "one", "back"] g03 g03 := by unfold P_pair_row; exact kw03 fun _ _ _ _ _ _ _ _ _ => rfl
/-! ### the program's defs over a view -/
section
variable {K : PySem.W.Frag} {CG CN CM CK CW : Addr} {σ : L2.St} {G : Hp} {E : XK} {g : Addr} {i j k : Nat} {v1 v2 v3 : V} {te : TE} {L m : Nat} {ws : List (List (Option Nat))} {es : List Nat} {bs a b : List Int} {x : PyData}
theorem no06 {m : Nat} (h : m ≤ 6) (z : inR 0 6 (.int (m : Int)) = false) : False := by
  have : (decide (0 ≤ (m : Int)) && decide ((m : Int) ≤ 6)) = false := z
  rw [decide_eq_true (by omega : 0 ≤ (m : Int)), decide_eq_true (by omega : (m : Int) ≤ 6)] at this
  cases this
theorem ed_ru (hi : σ[i]? = some (some (.ref g))) (hg : MacAt K CG G g L ws es) (M : MOk L ws es) (h2 : EvD K te σ G (.int (m : Int))) (h6 : m ≤ 6) (hl : ∀ k < m, (ledN ws (k + 1)).length ≤ 3000) : EvD K (tCall (spRU K CG CN CM) [] E (tCons (tVar i) (tCons te tNil))) σ G (.list ((foundN ws es (m + 1)).map rowN)) := fun H s Q q =>
  ⟨_, hi, h2 H s _ fun v G1 H1 n1 hv => ⟨G1, g, v, L, ws, es, .int (m : Int), n1.gh, rfl, hg.mono n1.gg, hv, M, fun z => (no06 h6 z).elim, fun m' e l6 => by
    have e : (m : Int) = (m' : Int) := by injection e
    have e : m = m' := by omega
    subst e
    exact ⟨fun _ v2 G2 H2 n2 hd => q v2 G2 H2 (n1.trans n2) hd, fun ⟨k, hk, z⟩ => absurd (hl k hk) (by omega)⟩⟩⟩
theorem ed_ruK (hi : σ[i]? = some (some (.ref g))) (hg : MacAt K CG G g L ws es) (M : MOk L ws es) (h2 : EvD K te σ G (.int (m : Int))) (h6 : m ≤ 6) (hl : ∀ k < m, (ledN ws (k + 1)).length ≤ 3000) : EvD K (tCallK (spRU K CG CN CM) g21 E tNil (tCons te (tCons (tVar i) tNil))) σ G (.list ((foundN ws es (m + 1)).map rowN)) := fun H s Q q =>
  h2 H s _ fun v G1 H1 n1 hv => ⟨_, hi, ⟨G1, g, v, L, ws, es, .int (m : Int), n1.gh, rfl, hg.mono n1.gg, hv, M, fun z => (no06 h6 z).elim, fun m' e l6 => by
    have e : (m : Int) = (m' : Int) := by injection e
    have e : m = m' := by omega
    subst e
    exact ⟨fun _ v2 G2 H2 n2 hd => q v2 G2 H2 (n1.trans n2) hd, fun ⟨k, hk, z⟩ => absurd (hl k hk) (by omega)⟩⟩⟩
theorem ru_bad {H : Hp} {Q : VK} (s : Same G H) (hg : MacAt K CG G g L ws es) (M : MOk L ws es) (h2 : Dp K G v2 x) (hn : inR 0 6 x = false) (q : ∀ d H', Same H H' → H' d = some (.xd [(("part" : Str), .str "most")]) → E (.ref CN) (some d) H') : spRU K CG CN CM [.ref g, v2] H Q E :=
  ⟨G, g, v2, L, ws, es, x, s, rfl, hg, h2, M, fun _ => q, fun m e l6 => by
    subst e
    exact (no06 l6 hn).elim⟩
theorem ru_many {H : Hp} {Q : VK} (s : Same G H) (hg : MacAt K CG G g L ws es) (M : MOk L ws es) (h2 : Dp K G v2 (.int (m : Int))) (h6 : m ≤ 6) (hm : ∃ k < m, 3000 < (ledN ws (k + 1)).length) (q : ∀ d H', Same H H' → H' d = some (.xd [(("most" : Str), .int 3000)]) → E (.ref CM) (some d) H') : spRU K CG CN CM [.ref g, v2] H Q E :=
  ⟨G, g, v2, L, ws, es, .int (m : Int), s, rfl, hg, h2, M, fun z => (no06 h6 z).elim, fun m' e l6 => by
    have e : (m : Int) = (m' : Int) := by injection e
    have e : m = m' := by omega
    subst e
    obtain ⟨k, hk, z⟩ := hm
    exact ⟨fun h => absurd (h k hk) (by omega), fun _ => q⟩⟩
theorem isRow_let {n : Nat} {r : List Int} (h : Letters n r) : isRow n (wD r) = true := by
  show (r.map PyData.int).all (inR 0 ((n : Int) - 1)) = true
  rw [List.all_eq_true]
  intro d hd
  obtain ⟨y, hy, rfl⟩ := List.mem_map.mp hd
  have := h y hy
  show (decide (0 ≤ y) && decide (y ≤ _)) = true
  rw [Bool.and_eq_true, decide_eq_true_eq, decide_eq_true_eq]
  omega
theorem sz_word {r : List Int} (h : r.length ≤ 100000) : Sized (wD r) := by
  show (r.map PyData.int).length ≤ sizeLine
  rw [List.length_map]
  exact Nat.le_trans h (by decide)
structure Bk (bs : List Int) : Prop where
  is : isBackD (wD bs) = true
  l : bs.length ≤ 12
theorem Bk.no (B : Bk bs) (z : isBackD (wD bs) = false) : False := by rw [B.is] at z; cases z
theorem Bk.sz (B : Bk bs) : Sized (wD bs) := sz_word (Nat.le_trans B.l (by decide))
theorem prw_core {H : Hp} {Q : VK} (s : Same G H) (B : Bk bs) (h1 : Dp K G v1 (wD bs)) (h2 : Dp K G v2 (wD a)) (h3 : Dp K G v3 (wD b)) (la : Letters bs.length a) (lb : Letters bs.length b) (za : a.length ≤ 100000) (zb : b.length ≤ 100000) (q : ∀ v G' H', Nx G H G' H' → Dp K G' v (wD (prI bs.length a b)) → Q v H') : spPRW K CK CW [v1, v2, v3] H Q E :=
  ⟨G, v1, v2, v3, wD bs, wD a, wD b, s, rfl, h1, B.sz, h2, sz_word za, h3, sz_word zb, fun z => (B.no z).elim, fun bs' e hb => by
    have e : bs = bs' := by
      have := congrArg toWs e
      rwa [toWs_ints, toWs_ints] at this
    subst e
    refine ⟨fun z => ?_, fun a' b' e1 e2 _ _ => ?_⟩
    · rw [isRow_let la, isRow_let lb] at z; cases z
    · have e1 : a = a' := by
        have := congrArg toWs e1
        rwa [toWs_ints, toWs_ints] at this
      have e2 : b = b' := by
        have := congrArg toWs e2
        rwa [toWs_ints, toWs_ints] at this
      subst e1 e2
      exact ⟨za, zb, q⟩⟩
theorem prw_bad {H : Hp} {Q : VK} {x1 x2 : PyData} (s : Same G H) (B : Bk bs) (h1 : Dp K G v1 (wD bs)) (h2 : Dp K G v2 x1) (h3 : Dp K G v3 x2) (z1 : Sized x1) (z2 : Sized x2) (hn : (isRow bs.length x1 && isRow bs.length x2) = false) (q : ∀ G' H', Nx G H G' H' → E (.ref CW) none H') : spPRW K CK CW [v1, v2, v3] H Q E :=
  ⟨G, v1, v2, v3, wD bs, x1, x2, s, rfl, h1, B.sz, h2, z1, h3, z2, fun z => (B.no z).elim, fun bs' e hb => by
    have e : bs = bs' := by
      have := congrArg toWs e
      rwa [toWs_ints, toWs_ints] at this
    subst e
    refine ⟨fun _ => q, fun a' b' e1 e2 r1 r2 => ?_⟩
    rw [r1, r2] at hn
    cases hn⟩
theorem ed_prw (B : Bk bs) (hi : σ[i]? = some (some v1)) (h1 : Dp K G v1 (wD bs)) (hj : σ[j]? = some (some v2)) (h2 : Dp K G v2 (wD a)) (hk : σ[k]? = some (some v3)) (h3 : Dp K G v3 (wD b)) (la : Letters bs.length a) (lb : Letters bs.length b) (za : a.length ≤ 100000) (zb : b.length ≤ 100000) : EvD K (tCall (spPRW K CK CW) [] E (tCons (tVar i) (tCons (tVar j) (tCons (tVar k) tNil)))) σ G (wD (prI bs.length a b)) := fun H s Q q =>
  ⟨_, hi, _, hj, _, hk, prw_core s B h1 h2 h3 la lb za zb q⟩
theorem ed_prwK (B : Bk bs) (hi : σ[i]? = some (some v1)) (h1 : Dp K G v1 (wD bs)) (hj : σ[j]? = some (some v2)) (h2 : Dp K G v2 (wD a)) (hk : σ[k]? = some (some v3)) (h3 : Dp K G v3 (wD b)) (la : Letters bs.length a) (lb : Letters bs.length b) (za : a.length ≤ 100000) (zb : b.length ≤ 100000) : EvD K (tCallK (spPRW K CK CW) g03 E tNil (tCons (tVar k) (tCons (tVar j) (tCons (tVar i) tNil)))) σ G (wD (prI bs.length a b)) := fun H s Q q =>
  ⟨_, hk, _, hj, _, hi, prw_core s B h1 h2 h3 la lb za zb q⟩
theorem lenOf_w (bs : List Int) : lenOf (wD bs) = bs.length := List.length_map _
theorem wo_core {H : Hp} {Q : VK} (s : Same G H) (B : Bk bs) (h1 : Dp K G v1 (wD bs)) (h2 : Dp K G v2 x) (hz : ∀ ys, x = .tuple ys → ys.length ≤ 100000) (qn : isPR bs.length x = false → ∀ G' H', Nx G H G' H' → E (.ref CW) none H') (qs : isPR bs.length x = true → ∀ v G' H', Nx G H G' H' → Dp K G' v (.tuple [wD (poA bs.length (toWs x)), wD (poB bs.length (toWs x))]) → Q v H') : spWO K CK CW [v1, v2] H Q E :=
  ⟨G, v1, v2, wD bs, x, s, rfl, h1, B.sz, h2, hz, fun z => (B.no z).elim, fun _ => by rw [lenOf_w]; exact ⟨qn, qs⟩⟩
theorem ed_wo (B : Bk bs) (hi : σ[i]? = some (some v1)) (h1 : Dp K G v1 (wD bs)) (hj : σ[j]? = some (some v2)) (h2 : Dp K G v2 x) (hz : ∀ ys, x = .tuple ys → ys.length ≤ 100000) (hp : isPR bs.length x = true) : EvD K (tCall (spWO K CK CW) [] E (tCons (tVar i) (tCons (tVar j) tNil))) σ G (.tuple [wD (poA bs.length (toWs x)), wD (poB bs.length (toWs x))]) := fun H s Q q =>
  ⟨_, hi, _, hj, wo_core s B h1 h2 hz (fun z => by rw [hp] at z; cases z) fun _ => q⟩
theorem ed_woK (B : Bk bs) (hi : σ[i]? = some (some v1)) (h1 : Dp K G v1 (wD bs)) (hj : σ[j]? = some (some v2)) (h2 : Dp K G v2 x) (hz : ∀ ys, x = .tuple ys → ys.length ≤ 100000) (hp : isPR bs.length x = true) : EvD K (tCallK (spWO K CK CW) g21 E tNil (tCons (tVar j) (tCons (tVar i) tNil))) σ G (.tuple [wD (poA bs.length (toWs x)), wD (poB bs.length (toWs x))]) := fun H s Q q =>
  ⟨_, hj, _, hi, wo_core s B h1 h2 hz (fun z => by rw [hp] at z; cases z) fun _ => q⟩
theorem ed_ipr (B : Bk bs) (hi : σ[i]? = some (some v1)) (h1 : Dp K G v1 (wD bs)) (hj : σ[j]? = some (some v2)) (h2 : Dp K G v2 x) (hz : ∀ ys, x = .tuple ys → ys.length ≤ 100000) : EvD K (tCall (spIPR K) [] E (tCons (tVar i) (tCons (tVar j) tNil))) σ G (.bool (isPR bs.length x)) := fun H s Q q =>
  ⟨_, hi, _, hj, G, v1, v2, bs, x, s, rfl, h1, B.is, B.l, h2, hz, fun G' H' n => q _ G' H' n (.bl _)⟩
theorem ed_iprK (B : Bk bs) (hi : σ[i]? = some (some v1)) (h1 : Dp K G v1 (wD bs)) (hj : σ[j]? = some (some v2)) (h2 : Dp K G v2 x) (hz : ∀ ys, x = .tuple ys → ys.length ≤ 100000) : EvD K (tCallK (spIPR K) g21 E tNil (tCons (tVar j) (tCons (tVar i) tNil))) σ G (.bool (isPR bs.length x)) := fun H s Q q =>
  ⟨_, hj, _, hi, G, v1, v2, bs, x, s, rfl, h1, B.is, B.l, h2, hz, fun G' H' n => q _ G' H' n (.bl _)⟩
theorem ed_tr {ta tb : TE} {a b : Bool} (h1 : EvD K ta σ G (.bool a)) (h2 : EvD K tb σ G (.bool b)) : EvD K (tCall spTr [] E (tCons ta (tCons tb tNil))) σ G (.bool (a == b)) := fun H s Q q =>
  h1 H s _ fun v G1 H1 n1 hv => (h2.mono n1.gg) H1 n1.gh _ fun w G2 H2 n2 hw => ⟨a, b, by rw [dp_bl hv, dp_bl hw]; rfl, q _ G2 H2 (n1.trans n2) (.bl _)⟩
end
section
variable {K : PySem.W.Frag} {CG : Addr} {TQ : List (Addr × Str)} {d l c : Addr} {G H G1 H1 : Hp} {g : Addr} {L : Nat} {ws : List (List (Option Nat))} {es : List Nat}
theorem MacAt.mv (h : MacAt K CG G g L ws es) (m : Mv K TQ d l c G H G1 H1) : MacAt K CG G1 g L ws es := by
  obtain ⟨dx, v1, v2, v3, h0, h1, h2, h3⟩ := h
  exact ⟨dx, v1, v2, v3, m.is h0, m.dp h1, m.dp h2, m.dp h3⟩
theorem MacAt.noT (h : MacAt K CG G g L ws es) : MacAt K CG (noT G) g L ws es := by
  obtain ⟨dx, v1, v2, v3, h0, h1, h2, h3⟩ := h
  exact ⟨dx, v1, v2, v3, noT_of h0 (fun _ z => nomatch z), dp_noT _ h1, dp_noT _ h2, dp_noT _ h3⟩
end
/-! ### what is compared -/
theorem cmp_rowN {r : List Nat} (hl : r.length ≤ 6) (h : ∀ i ∈ r, i < 12) : Cmp 5000 1 (rowN r) := by
  have e : rowN r = wD (r.map fun (k : Nat) => (k : Int)) := by
    show PyData.tuple (nsD r) = PyData.tuple ((r.map fun (k : Nat) => (k : Int)).map PyData.int)
    rw [List.map_map]; rfl
  rw [e]
  refine cmp_word (fun y hy => ?_) (by rw [List.length_map]; omega)
  obtain ⟨k, hk, rfl⟩ := List.mem_map.mp hy
  have := h k hk
  omega
theorem shaped_rowsN (l : List (List Nat)) : SeqAt.shaped (.list (l.map rowN)) = true := shaped_list fun d hd => by
  obtain ⟨r, _, rfl⟩ := List.mem_map.mp hd
  have e : rowN r = wD (r.map fun (k : Nat) => (k : Int)) := by
    show PyData.tuple (nsD r) = PyData.tuple ((r.map fun (k : Nat) => (k : Int)).map PyData.int)
    rw [List.map_map]; rfl
  rw [e]
  obtain ⟨h1, h2⟩ := lay_word (r.map fun (k : Nat) => (k : Int))
  exact ⟨h1, by omega⟩
end Gw
namespace Gw
open PySem PySem.Spec PyProof.Rows L2 LamX
/-! ### what the law is due */ -/
theorem ed_m1 {K : PySem.W.Frag} {σ : L2.St} {G : Hp} : EvD K (tUn (rU fun i => V.int (-i)) (tC (.int 1))) σ G (.int (-1)) := fun H s Q q => ⟨1, rfl, q _ G H (Nx.refl s) (.int _)⟩
theorem eqv_row {r : List Nat} : PyData.eqv (rowN r) (rowN r) = true := PySem.SeqAt.eqv_refl _ (by
  have e : rowN r = wD (r.map fun (k : Nat) => (k : Int)) := by
    show PyData.tuple (nsD r) = PyData.tuple ((r.map fun (k : Nat) => (k : Int)).map PyData.int)
    rw [List.map_map]; rfl
  rw [e]; exact (lay_word _).1)
theorem eqvAll_rowsN : ∀ l : List (List Nat), PyData.eqvAll (l.map rowN) (l.map rowN) = true
  | [] => by simp [PyData.eqvAll]
  | r :: l => by rw [List.map_cons, PyData.eqvAll, eqv_row, eqvAll_rowsN l]; rfl
theorem eqv_rowsN (l : List (List Nat)) : PyData.eqv (.list (l.map rowN)) (.list (l.map rowN)) = true := by rw [PyData.eqv]; exact eqvAll_rowsN l
theorem any_in (o : Option Nat) : ∀ es : List Nat, ((nsD es).any fun e => PyData.eqv e (oD o)) = (match o with | some s => decide (s ∈ es) | none => false)
  | [] => by cases o <;> simp
  | e :: es => by
    have ih := any_in o es
    rw [show nsD (e :: es) = PyData.int (e : Int) :: nsD es from rfl, List.any_cons, ih]
    cases o with
    | none =>
      have : PyData.eqv (.int (e : Int)) (oD none) = false := rfl
      rw [this]; rfl
    | some s =>
      have e1 : PyData.eqv (.int (e : Int)) (oD (some s)) = decide (e = s) := by
        show PyData.eqv (.int (e : Int)) (.int (s : Int)) = _
        rw [PyData.eqv]
        by_cases h : e = s
        · subst h; simp
        · have : ¬ (e : Int) = (s : Int) := by omega
          simp [h, this]
      rw [e1]
      show (decide (e = s) || decide (s ∈ es)) = decide (s ∈ e :: es)
      by_cases h : e = s
      · subst h; simp
      · have h2 : ¬ s = e := fun z => h z.symm
        simp [h, h2]
def natsOf (d : PyData) : List Nat := (toWs d).map Int.toNat
theorem natsOf_row (r : List Nat) : natsOf (rowN r) = r := by
  show ((nsD r).map toI).map Int.toNat = r
  rw [List.map_map, List.map_map]
  exact (List.map_congr_left fun x _ => by show ((x : Int)).toNat = x; omega).trans (List.map_id r)
def dueF (ws : List (List (Option Nat))) (es : List Nat) (d : PyData) : Option PyData := if inE ws es (natsOf d) = true then some d else none
theorem due_eq (ws : List (List (Option Nat))) (es : List Nat) : ∀ l : List (List Nat), (l.map rowN).filterMap (dueF ws es) = (l.filter (inE ws es)).map rowN
  | [] => rfl
  | r :: l => by
    have ih := due_eq ws es l
    rw [List.map_cons, List.filterMap_cons, List.filter_cons]
    have e : dueF ws es (rowN r) = if inE ws es r = true then some (rowN r) else none := by unfold dueF; rw [natsOf_row]
    rw [e]
    by_cases h : inE ws es r = true
    · rw [if_pos h, if_pos h, List.map_cons, ← ih]
    · rw [if_neg h, if_neg h]; exact ih
theorem allL_mem {L m : Nat} {r : List Nat} (h : r ∈ allL L m) : r.length ≤ m ∧ ∀ i ∈ r, i < L := by
  unfold allL at h
  obtain ⟨l, hl, hr⟩ := List.mem_flatten.mp h
  obtain ⟨k, hk, rfl⟩ := List.mem_map.mp hl
  obtain ⟨h1, h2⟩ := rowsL_mem k hr
  have := List.mem_range.mp hk
  exact ⟨by omega, h2⟩
theorem found_mem {L m : Nat} {ws : List (List (Option Nat))} {es : List Nat} (M : MOk L ws es) {r : List Nat} (h : r ∈ foundN ws es (m + 1)) : r.length ≤ m ∧ ∀ i ∈ r, i < L := by
  rw [foundN_all M] at h
  exact allL_mem (List.mem_filter.mp h).1
theorem found_len {L m : Nat} {ws : List (List (Option Nat))} {es : List Nat} (M : MOk L ws es) (hL : L ≤ 4) (hm : m ≤ 4) : (foundN ws es (m + 1)).length ≤ 1280 := by
  rw [foundN_all M]
  have h1 := List.length_filter_le (inE ws es) (allL L m)
  have h2 := allL_4 hL hm
  have h3 : 256 * (m + 1) ≤ 256 * 5 := Nat.mul_le_mul (Nat.le_refl _) (by omega)
  omega
theorem found_show {L m : Nat} {ws : List (List (Option Nat))} {es : List Nat} (M : MOk L ws es) (hL : L ≤ 4) (hm : m ≤ 4) : Showy (.list ((foundN ws es (m + 1)).map rowN)) := by
  have h := cmp_lst (n := 700) (p := 1) (ds := (foundN ws es (m + 1)).map rowN) fun d hd => by
    obtain ⟨r, hr, rfl⟩ := List.mem_map.mp hd
    obtain ⟨h1, h2⟩ := found_mem M hr
    have e : rowN r = wD (r.map fun (k : Nat) => (k : Int)) := by
      show PyData.tuple (nsD r) = PyData.tuple ((r.map fun (k : Nat) => (k : Int)).map PyData.int)
      rw [List.map_map]; rfl
    have lt : Letters 12 (r.map fun (k : Nat) => (k : Int)) := fun y hy => by
      obtain ⟨k, hk, rfl⟩ := List.mem_map.mp hy
      have := h2 k hk
      omega
    have c := cmp_word lt (by rw [List.length_map]; omega)
    have z := shown_row lt
    rw [List.length_map] at z
    rw [e]
    exact ⟨c.s, c.nd, by show (rowD _).shown.length ≤ _; omega, c.p⟩
  refine h.showy ?_ (by decide)
  have := found_len M hL hm
  rw [List.length_map]
  have : (foundN ws es (m + 1)).length * 702 ≤ 1280 * 702 := Nat.mul_le_mul this (Nat.le_refl _)
  omega
/-- what is no number of rows -/
def badsD : List PyData := [.none, .int (-1), .int 7, .bool true, .str "2"]
theorem bads_off {x : PyData} (h : x ∈ badsD) : inR 0 6 x = false := by
  unfold badsD at h
  simp only [List.mem_cons, List.not_mem_nil, or_false] at h
  rcases h with rfl | rfl | rfl | rfl | rfl <;> first | rfl | decide
end Gw
namespace Gw
open PySem PySem.Spec PyProof.Rows L2 LamX
/-! ### pairs read and written again -/
theorem fill_flt {m : Int} : ∀ (a : List Int) (n : Nat), a.length ≤ n → (∀ x ∈ a, x < m) → ((List.range n).map fun k => a.getD k m).filter (fun y => decide (y < m)) = a
  | [], n, _, _ => by
    rw [List.filter_eq_nil_iff]
    intro x hx
    obtain ⟨k, _, rfl⟩ := List.mem_map.mp hx
    simp
  | x :: a, 0, h, _ => absurd h (by simp)
  | x :: a, n + 1, h, hm => by
    have ih := fill_flt a n (by simpa using h) fun y hy => hm y (List.mem_cons_of_mem _ hy)
    have hx := hm x List.mem_cons_self
    rw [List.range_succ_eq_map, List.map_cons, List.map_map, List.filter_cons]
    have e0 : (x :: a).getD 0 m = x := rfl
    have e1 : ((fun k => (x :: a).getD k m) ∘ Nat.succ) = fun k => a.getD k m := funext fun k => rfl
    rw [e0, e1, ih, decide_eq_true hx]
    rfl
theorem getD_lt {m : Nat} {b : List Int} (h : Letters m b) (k : Nat) : 0 ≤ b.getD k m ∧ b.getD k m ≤ m := by
  rcases Nat.lt_or_ge k b.length with z | z
  · have hm : b.getD k m ∈ b := by rw [List.getD_eq_getElem?_getD, List.getElem?_eq_getElem z]; exact List.getElem_mem z
    have := h _ hm
    omega
  · rw [List.getD_eq_getElem?_getD, List.getElem?_eq_none z]
    exact ⟨Int.natCast_nonneg m, Int.le_refl _⟩
theorem poA_prI {m : Nat} {a b : List Int} (la : Letters m a) (lb : Letters m b) : poA m (prI m a b) = a := by
  unfold poA prI
  rw [List.map_map]
  have e : ((fun x => x.fdiv ((m : Int) + 1)) ∘ prAt m a b) = fun k => a.getD k m := funext fun k => (dig (Int.natCast_nonneg m) (getD_lt lb k)).1
  rw [e]
  exact fill_flt a _ (Nat.le_max_left _ _) fun x hx => (la x hx).2
theorem poB_prI {m : Nat} {a b : List Int} (lb : Letters m b) : poB m (prI m a b) = b := by
  unfold poB prI
  rw [List.map_map]
  have e : ((fun x => x.fmod ((m : Int) + 1)) ∘ prAt m a b) = fun k => b.getD k m := funext fun k => (dig (Int.natCast_nonneg m) (getD_lt lb k)).2
  rw [e]
  exact fill_flt b _ (Nat.le_max_right _ _) fun x hx => (lb x hx).2
theorem prI_len (m : Int) (a b : List Int) : (prI m a b).length = max a.length b.length := by unfold prI; rw [List.length_map, List.length_range]
theorem prI_in {m : Nat} {a b : List Int} (la : Letters m a) (lb : Letters m b) {x : Int} (h : x ∈ prI m a b) : 0 ≤ x ∧ x < ((m : Int) + 1) * ((m : Int) + 1) := by
  unfold prI at h
  obtain ⟨k, _, rfl⟩ := List.mem_map.mp h
  have h1 := getD_lt la k
  have h2 := getD_lt lb k
  have hp : (0 : Int) ≤ (m : Int) + 1 := by omega
  have h3 := Int.mul_le_mul_of_nonneg_right h1.2 hp
  have h4 := Int.mul_nonneg h1.1 hp
  have h5 : ((m : Int) + 1) * ((m : Int) + 1) = (m : Int) * ((m : Int) + 1) + ((m : Int) + 1) := by rw [Int.add_mul]; omega
  unfold prAt
  omega
theorem prI_is {m : Nat} {a b : List Int} (la : Letters m a) (lb : Letters m b) : isPR m (wD (prI m a b)) = true := by
  have e2 : (((m + 1) ^ 2 : Nat) : Int) = ((m : Int) + 1) * ((m : Int) + 1) := by
    rw [Nat.pow_two]; push_cast; rfl
  unfold isPR
  rw [Bool.and_eq_true, toWs_ints, poA_prI la lb, poB_prI lb]
  refine ⟨?_, decide_eq_true rfl⟩
  show ((prI m a b).map PyData.int).all (inR 0 ((((m + 1) ^ 2 : Nat) : Int) - 1)) = true
  rw [e2, List.all_eq_true]
  intro d hd
  obtain ⟨y, hy, rfl⟩ := List.mem_map.mp hd
  have := prI_in la lb hy
  show (decide (0 ≤ y) && decide (y ≤ _)) = true
  rw [Bool.and_eq_true, decide_eq_true_eq, decide_eq_true_eq]
  omega
theorem pr_showy {m : Nat} {a b : List Int} (la : Letters m a) (lb : Letters m b) (hm : m ≤ 12) (za : a.length ≤ 6) (zb : b.length ≤ 6) : Showy (wD (prI m a b)) := by
  have h := cmp_tup (n := 1921) (p := 0) (ds := (prI m a b).map .int) fun d hd => by
    obtain ⟨y, hy, rfl⟩ := List.mem_map.mp hd
    have h1 := prI_in la lb hy
    have h2 : ((m : Int) + 1) * ((m : Int) + 1) ≤ 13 * 13 := Int.mul_le_mul (by omega) (by omega) (by omega) (by omega)
    exact cmp_int (by omega)
  refine h.showy ?_ (by decide)
  rw [List.length_map, prI_len]
  have : max a.length b.length * (1921 + 2) ≤ 6 * 1923 := Nat.mul_le_mul (by omega) (by omega)
  omega
theorem showyT2 {m : Nat} {u v : List Int} (hm : m ≤ 12) (hu : Letters m u) (hv : Letters m v) (lu : u.length ≤ 1000) (lv : v.length ≤ 1000) : Showy (.tuple [wD u, wD v]) :=
  (cmp_tup (n := 5000) (p := 1) (ds := [wD u, wD v]) fun d hd => by
    simp only [List.mem_cons, List.not_mem_nil, or_false] at hd
    rcases hd with rfl | rfl
    · exact cmp_word (fun x hx => by have := hu x hx; omega) lu
    · exact cmp_word (fun x hx => by have := hv x hx; omega) lv).showy (by show 2 * 5002 + 3 ≤ 1000000; decide) (by decide)
theorem lay_two (a b : List Int) : (PyData.tuple [wD a, wD b]).canLay0 = true ∧ (PyData.tuple [wD a, wD b]).depth ≤ 2 := by
  obtain ⟨h1, h2⟩ := lay_word a
  obtain ⟨h3, h4⟩ := lay_word b
  refine ⟨by rw [PyData.canLay0, PyData.canLayAll0, PyData.canLayAll0, h1, h3]; rfl, ?_⟩
  rw [PyData.depth, PyData.depthAll, PyData.depthAll, PyData.depthAll]
  omega
theorem shaped_two (a b : List Int) : SeqAt.shaped (.tuple [wD a, wD b]) = true := by
  obtain ⟨h1, h2⟩ := lay_two a b
  unfold SeqAt.shaped
  rw [Bool.and_eq_true]
  exact ⟨h1, decide_eq_true (by omega)⟩
theorem eqv_two (a b : List Int) : PyData.eqv (.tuple [wD a, wD b]) (.tuple [wD a, wD b]) = true := PySem.SeqAt.eqv_refl _ (lay_two a b).1
theorem eqv_w (a : List Int) : PyData.eqv (wD a) (wD a) = true := PySem.SeqAt.eqv_refl _ (lay_word a).1
section
variable {K : PySem.W.Frag} {σ : L2.St} {G : Hp} {ae : Addr} {j : Nat}
theorem ed_isRef (h : σ[j]? = some (some (.ref ae))) : EvD K (tOp (fun x y H Q => y = .non ∧ Q (.bl (decide (x = .non))) H) (tVar j) (tC .non)) σ G (.bool false) := fun H s Q q =>
  ⟨_, h, rfl, q _ G H (Nx.refl s) (.bl _)⟩
theorem ro_isN0 : ROp K (fun x y H Q => y = .non ∧ Q (.bl (decide (x = .non))) H) .none .none (.bool true) := fun G H s vx vy hx hy Q q => by
  rw [dp_non hx, dp_non hy]
  exact ⟨rfl, q _ G H (Nx.refl s) (.bl _)⟩
theorem ro_neB {a b : Bool} : ROp K rNe (.bool a) (.bool b) (.bool (a != b)) := fun G H s vx vy hx hy Q q => by
  rw [dp_bl hx, dp_bl hy]
  refine ⟨rfl, ?_⟩
  have e : (!decide (V.bl a = V.bl b)) = (a != b) := by cases a <;> cases b <;> rfl
  rw [e]
  exact q _ G H (Nx.refl s) (.bl _)
end
/-- the odd items that are put in -/
def oddsI (k : Int) (m : Nat) : List PyData := [.int k, .int (m : Int), .int (-1), .bool true, .none, .str "0"]
/-- the values that the law asks about -/
def valsD (R : List Int) (x : PyData) (sp : Nat) (m : Nat) : List PyData := [wD R, .tuple (((R.take sp).map .int ++ [x]) ++ (R.drop sp).map .int), .tuple (R.map PyData.int).reverse, .list (R.map .int), .none, .int 5, .tuple [], .tuple [.int ((m : Int) * ((m : Int) + 1) + (m : Int))], .tuple [.int (((m : Int) + 1) * ((m : Int) + 1))]]
theorem vals_sz {R : List Int} {x y : PyData} {sp m : Nat} (lr : R.length ≤ 6) (h : y ∈ valsD R x sp m) : ∀ ys, y = .tuple ys → ys.length ≤ 100000 := by
  unfold valsD at h
  simp only [List.mem_cons, List.not_mem_nil, or_false] at h
  intro ys e
  rcases h with rfl | rfl | rfl | rfl | rfl | rfl | rfl | rfl | rfl
  · cases e; rw [List.length_map]; omega
  · cases e; rw [List.length_append, List.length_append, List.length_map, List.length_map, List.length_take, List.length_drop, List.length_singleton]; omega
  · cases e; rw [List.length_reverse, List.length_map]; omega
  · cases e
  · cases e
  · cases e
  · cases e; exact Nat.zero_le _
  · cases e; show 1 ≤ 100000; decide
  · cases e; show 1 ≤ 100000; decide
section
variable {K : PySem.W.Frag} {σ : L2.St} {G : Hp} {tl te : TE} {ds : List PyData}
theorem en_rep {k : Int} (h : EvN K tl σ G ds) (h0 : 0 ≤ k) (h1 : k ≤ 1000) (hz : ds.length ≤ 1000) : EvN K (tOp rRep tl (tC (.int k))) σ G (List.replicate k.toNat ds).flatten := fun H s Q q =>
  h H s _ fun p vs G' H' n hp gp e hv => ⟨p, k, vs, rfl, rfl, e, by omega, by omega, by
    rw [dpa_length hv]
    have h2 : ds.length * k.toNat ≤ 1000 * 1000 := Nat.mul_le_mul hz (by omega)
    exact Nat.le_trans h2 (by decide), fun p2 hp2 => q p2 _ G' _ (n.trans (Nx.lay n.gh hp2)) (n.hh.free hp2) (n.gh.free hp2) upd_same (by
      have rep : ∀ m : Nat, DpAll K G' (List.replicate m vs).flatten (List.replicate m ds).flatten := fun m => by
        induction m with
        | zero => exact .nil
        | succ m ih => rw [List.replicate_succ, List.replicate_succ, List.flatten_cons, List.flatten_cons]; exact dpa_append hv ih
      exact rep _)⟩
end
section
variable {K : PySem.W.Frag} {σ : L2.St} {G : Hp} {D ae d : Addr} {j : Nat} {f : Str} {i : Int}
theorem ed_errI (h : σ[j]? = some (some (.ref ae))) (ha : G ae = some (ErrO (.ref D) (some d) ae)) (hd : G d = some (.xd [(f, .int i)])) : EvD K (tErrFld D f (tVar j)) σ G (.int i) := fun H s Q q =>
  ⟨_, h, ae, d, .int i, rfl, s _ _ ha, s _ _ hd, q _ G H (Nx.refl s) (.int i)⟩
theorem ed_isc2d (h : σ[j]? = some (some (.ref ae))) (ha : G ae = some (ErrO (.ref D) (some d) ae)) (hd : G d = some (.xd [(f, .int i)])) (T : ExcC K D) (hk : PySem.W.kitOne K (.ref D) (.ref D) = some true) : EvD K (tCB (rIsC2 K) (tCons (tVar j) (tCons (tC (.ref D)) tNil))) σ G (.bool true) := fun H s Q q =>
  ⟨_, h, .inr ⟨ae, D, D, some d, true, rfl, s _ _ ha, (fun dd e => by cases e; exact ⟨_, s _ _ hd⟩), T, hk, q _ G H (Nx.refl s) (.bl _)⟩⟩
end
theorem prw_back {K : PySem.W.Frag} {CK CW : Addr} {G H : Hp} {Q : VK} {E : XK} (s : Same G H) (q : ∀ G' H', Nx G H G' H' → E (.ref CK) none H') : spPRW K CK CW [.non, .non, .non] H Q E :=
  ⟨G, .non, .non, .non, .none, .none, .none, s, rfl, .non, trivial, .non, trivial, .non, trivial, fun _ => q, fun bs e => by cases e⟩
theorem wo_back {K : PySem.W.Frag} {CK CW : Addr} {G H : Hp} {v : V} {Q : VK} {E : XK} (s : Same G H) (h : Dp K G v (.tuple [.int 0])) (q : ∀ G' H', Nx G H G' H' → E (.ref CK) none H') : spWO K CK CW [v, .non] H Q E :=
  ⟨G, v, .non, .tuple [.int 0], .none, s, rfl, h, (by show 1 ≤ sizeLine; decide), .non, (fun ys e => nomatch e), fun _ => q, fun z => by cases z⟩
end Gw
namespace Gw
open PySem PySem.Spec PyProof.Rows L2 LamX
set_option maxHeartbeats 0 in
theorem ok_law {P : Program} {w : World} {K : PySem.W.Frag} {mg : Str → Option Value} {base : Heap} (T : Bt mg) {CG CN CM CS CK CW fN fM : Addr} (t_BadNumber : PySem.SupX.SupTxt P K mg "BadNumber" "part" CN fN) (t_TooMany : PySem.SupX.SupTxt P K mg "TooMany" "most" CM fM) (e_BadWord : Err K mg "BadWord" CW) (e_BadBack : Err K mg "BadBack" CK) (gG : mg "GroupError" = some (.ref CS)) (EN : ExcC K CN) (EM : ExcC K CM) (EW : ExcC K CW) (EK : ExcC K CK)
  (xN : PySem.W.exmOne K (.ref CN) (.ref CS) = some true) (xM : PySem.W.exmOne K (.ref CM) (.ref CS) = some true) (xW : PySem.W.exmOne K (.ref CW) (.ref CS) = some true) (xK : PySem.W.exmOne K (.ref CK) (.ref CS) = some true) (kN : PySem.W.kitOne K (.ref CN) (.ref CN) = some true) (kM : PySem.W.kitOne K (.ref CM) (.ref CM) = some true) (kW : PySem.W.kitOne K (.ref CW) (.ref CW) = some true) (kK : PySem.W.kitOne K (.ref CK) (.ref CK) = some true)
  (h_Machine : MkM P w K mg base "Machine" P_Machineinit 5 CG (spMI K CG))
  (h_rows_up_to : OkX P w K mg base "rows_up_to" s_rows_up_to P_rows_up_to 4 (spRU K CG CN CM)) (h_pair_row : OkX P w K mg base "pair_row" s_pair_row P_pair_row 6 (spPRW K CK CW)) (h_words_of : OkX P w K mg base "words_of" s_words_of P_words_of 6 (spWO K CK CW)) (h_is_pair_row : OkX P w K mg base "is_pair_row" s_is_pair_row P_is_pair_row 6 (spIPR K))
  (h__law_begun : Ok P w K mg base "_law_begun" P_law_begun 1 (spBegun K)) (h__law_take : Ok P w K mg base "_law_take" P_law_take 2 spTake) (h__law_pick : Ok P w K mg base "_law_pick" P_law_pick 3 (spPickG K)) (h__law_back : Ok P w K mg base "_law_back" P_law_back 4 spBack) (h__law_word : Ok P w K mg base "_law_word" P_law_word 3 (spWord K))
  (h__law_pairs_read : Ok P w K mg base "_law_pairs_read" P_law_pairs_read 1 (SpD K R_law_pairs_read)) (h__law_went : Ok P w K mg base "_law_went" P_law_went 1 (SpD K R_law_went)) (h__law_machine_sketch : Ok P w K mg base "_law_machine_sketch" P_law_machine_sketch 4 (spSk K)) (h__law_all : Ok P w K mg base "_law_all" P_law_all 1 (SpD K R_law_all)) (h__law_is_pair_row : Ok P w K mg base "_law_is_pair_row" P_law_is_pair_row 1 (SpD K R_law_is_pair_row)) (h__law_is_truth : Ok P w K mg base "_law_is_truth" P_law_is_truth 1 spTr)
  {fq : Addr} {fdq : FuncData} (D_caught : DefAt K mg "_law_caught" s_law_caught P_law_caught fq fdq)
  {c0 Pt : Addr} (TB : LamX.TabB base mg c0 Pt)
  {f : Addr} {s : Shared} {H : Hp} {a : Addr} {ns : List Int} (hr : Room 12 (callerA.deeper (envOfC "law" (defScope s_law) s.heap.objs.size f (.ref c0)))) (hS : SqL K H a (ns.map V.int)) (h63 : ns.length ≤ 63) (hP : H Pt = some (.tbl #[])) :
  ∃ t, PSs (cxOf CX0 P w K mg base N_law "law" (defScope s_law) f (.ref c0) callerA [] s H E0).nox (defBody s_law) t ∧ t { nx := fun _ _ => V.non = V.bl true, rt := fun v _ => v = .bl true } (start N_law [.ref a]) H := by
  have S := sc_law
  obtain ⟨oc, od, kV, doc, pm, an, cdv, ct, osl, rfl, lk_caught, c_caught⟩ := D_caught.F.ex
  have m_caught := D_caught.m
  have k_caught := D_caught.F.kp
  have b_caught := D_caught.b
  have hcode : (.ref c0 : Value) = .ref c0 := rfl
  refine ⟨_, (pss_cons (ps_set (i := 1) S.nd rfl (by first | exact .inl rfl | exact .inr rfl) (pe_ok h__law_begun (hr.mono (by decide)) (by rfl) (pa_cons (pv 0) pa_nil)))
  (pss_cons (ps_for PassesOwn.never rfl (pi_range1 (by rfl) T.range (pa_cons (pe_op op_add pe_int (pe_callB (call_min2 rfl) (by rfl) T.min (by decide +kernel) (pa_cons (pe_callB (q_len K rfl) (by rfl) T.len PySem.boot_len (pa_cons (pv 0) pa_nil)) (pa_cons pe_int pa_nil)))) pa_nil)) (pg_name (i := 2) S.nd rfl (by first | exact .inl rfl | exact .inr rfl)) (pss_cons (ps_par (i := 3) (j := 4) rfl S.nd rfl rfl (by decide) rfl rfl (pa_cons (pe_op op_add pe_int (pe_ok h__law_take (hr.mono (by decide)) (by rfl) (pa_cons (pv 1) (pa_cons pe_int pa_nil)))) (pa_cons (pe_ok h__law_take (hr.mono (by decide)) (by rfl) (pa_cons (pv 1) (pa_cons pe_int pa_nil))) pa_nil)) (by rfl))
  (pss_cons (ps_asg (pe_ok h__law_machine_sketch (hr.mono (by decide)) (by rfl) (pa_cons (pv 1) (pa_cons (pv 3) (pa_cons pe_int pa_nil)))) (q_gT K 2 rfl rfl (pgs_cons (pg_name (i := 5) S.nd rfl (by first | exact .inl rfl | exact .inr rfl)) (pgs_cons (pg_name (i := 6) S.nd rfl (by first | exact .inl rfl | exact .inr rfl)) pgs_nil))))
  (pss_cons (ps_set (i := 7) S.nd rfl (by first | exact .inl rfl | exact .inr rfl) (pe_mkM h_Machine passL (hr.mono (by decide)) (by rfl) (pa_cons (pv 3) (pa_cons (pe_lc (own := [("line", 8)]) (g := gName 8) (by rfl) S.nd  (q_iL K rfl (pv 5)) (blkOk_by (N := N_law) (sc := defScope s_law) (by decide +kernel)) (fun _ _ _ _ _ => (pg_name (i := 8) S.nd rfl (by first | exact .inl rfl | exact .inr rfl))) (fun _ _ _ _ _ => pts_nil) (fun _ _ _ _ _ => (pe_callTy (q_list K rfl) (by rfl) T.list (by decide +kernel) (pa_cons (pv 8) pa_nil)))) (pa_cons (pe_callTy (q_list K rfl) (by rfl) T.list (by decide +kernel) (pa_cons (pv 6) pa_nil)) pa_nil)))))
  (pss_cons (ps_setLc (i := 9) (own := [("row_here", 10)]) (g := gName 10) (by rfl) S.nd rfl rfl (sw_true rfl rfl rfl (by decide +kernel)) (q_iL K rfl (pe_ok h__law_all (hr.mono (by decide)) (by rfl) (pa_cons (pv 3) (pa_cons (pv 4) pa_nil)))) (blkOk_by (N := N_law) (sc := defScope s_law) (by decide +kernel)) (fun _ _ _ _ _ => (pg_name (i := 10) S.nd rfl (by first | exact .inl rfl | exact .inr rfl))) (fun _ _ _ _ _ => (pts_one (pt_cmpR (q_inD K rfl hr.in1.units) (pe_ok h__law_went (hr.mono (by decide)) (by rfl) (pa_cons (pv 5) (pa_cons (pv 10) pa_nil))) (pv 6) (by rfl)))) (fun _ _ _ _ _ => (pv 10)))
  (pss_cons (ps_if (PW.pt (pw_or (pt_cmpR op_ne (pe_callB (q_repr K rfl rfl hr.units) (by rfl) T.repr (by decide +kernel) (pa_cons (pe_okX h_rows_up_to passL (hr.mono (by decide)) (by rfl) (pa_cons (pv 7) (pa_cons (pv 4) pa_nil))) pa_nil)) (pe_callB (q_repr K rfl rfl hr.units) (by rfl) T.repr (by decide +kernel) (pa_cons (pv 9) pa_nil)) (nomark _)) (pw_or1 (pt_cmpR (q_neD K rfl hr.units) (pe_okXK0 h_rows_up_to kb_rows_up_to passL (hr.mono (by decide)) (by rfl) (pk_cons (pv 4) (pk_cons (pv 7) pk_nil))) (pv 9) (nomark _))))) (pss_one (ps_ret pe_bl)) pss_nil)
  (pss_cons (ps_for PassesOwn.never rfl (q_iL K rfl (pe_lst (pa_cons pe_non (pa_cons (pe_un un_neg pe_int) (pa_cons pe_int (pa_cons pe_bl (pa_cons pe_str pa_nil))))))) (pg_name (i := 11) S.nd rfl (by first | exact .inl rfl | exact .inr rfl)) (pss_cons (ps_set (i := 12) S.nd rfl (by first | exact .inl rfl | exact .inr rfl) (LamX.pe_lamcall (k := 9) (by rfl) m_caught k_caught lk_caught c_caught b_caught sc_law_caught rfl (.inl rfl) (caught_gives gG) TB hcode (List.mem_singleton_self _) (fun p hp _ => by rw [List.mem_singleton.mp hp]) (hr.mono (by decide)) (LamX.lamS_by (show LamX.lamSB (defScope s_law) _ = true by decide +kernel)) rfl (fun _ _ _ _ _ => rfl) (fun A outer s H E f c' hr => (pe_okX h_rows_up_to (passes_call (takes_of rfl rfl rfl rfl) fun _ _ _ _ h => h) (hr.mono (by decide)) (by rfl) (pa_cons (pv 7) (pa_cons (pv 11) pa_nil))))))
  (pss_one (ps_if (PW.pt (pw_or (pt_not (pt_val (pe_callB cr_isC2 (by rfl) T.isinstance (by decide +kernel) (pa_cons (pv 12) (pa_cons (pe_glob (v := .ref CN) (by rfl) t_BadNumber.gC rfl) pa_nil))))) (pw_or1 (pt_cmpR op_ne (pe_errFld t_BadNumber (pv 12)) pe_str (nomark _))))) (pss_one (ps_ret pe_bl)) pss_nil))))
  (pss_cons (ps_set (i := 13) S.nd rfl (by first | exact .inl rfl | exact .inr rfl) (pe_ok h__law_back (hr.mono (by decide)) (by rfl) (pa_cons (pv 1) pa_nil)))
  (pss_cons (ps_par (i := 14) (j := 15) rfl S.nd rfl rfl (by decide) rfl rfl (pa_cons (pe_ok h__law_word (hr.mono (by decide)) (by rfl) (pa_cons (pv 1) (pa_cons (pv 13) (pa_cons pe_int pa_nil)))) (pa_cons (pe_ok h__law_word (hr.mono (by decide)) (by rfl) (pa_cons (pv 1) (pa_cons (pv 13) (pa_cons pe_int pa_nil)))) pa_nil)) (by rfl))
  (pss_cons (ps_set (i := 10) S.nd rfl (by first | exact .inl rfl | exact .inr rfl) (pe_ok h__law_pairs_read (hr.mono (by decide)) (by rfl) (pa_cons (pv 13) (pa_cons (pv 14) (pa_cons (pv 15) pa_nil)))))
  (pss_cons (ps_if (PW.pt (pw_or (pt_cmpR op_ne (pe_callB (q_repr K rfl rfl hr.units) (by rfl) T.repr (by decide +kernel) (pa_cons (pe_okX h_pair_row passL (hr.mono (by decide)) (by rfl) (pa_cons (pv 13) (pa_cons (pv 14) (pa_cons (pv 15) pa_nil)))) pa_nil)) (pe_callB (q_repr K rfl rfl hr.units) (by rfl) T.repr (by decide +kernel) (pa_cons (pv 10) pa_nil)) (nomark _)) (pw_or1 (pt_cmpR (q_neD K rfl hr.units) (pe_okXK0 h_pair_row kb_pair_row passL (hr.mono (by decide)) (by rfl) (pk_cons (pv 15) (pk_cons (pv 14) (pk_cons (pv 13) pk_nil)))) (pv 10) (nomark _))))) (pss_one (ps_ret pe_bl)) pss_nil)
  (pss_cons (ps_if (PW.pt (pw_or (pt_cmpR op_ne (pe_callB (q_repr K rfl rfl hr.units) (by rfl) T.repr (by decide +kernel) (pa_cons (pe_okX h_words_of passL (hr.mono (by decide)) (by rfl) (pa_cons (pv 13) (pa_cons (pv 10) pa_nil))) pa_nil)) (pe_callB (q_repr K rfl rfl hr.units) (by rfl) T.repr (by decide +kernel) (pa_cons (pe_tup (pa_cons (pv 14) (pa_cons (pv 15) pa_nil))) pa_nil)) (nomark _)) (pw_or1 (pt_cmpR (q_neD K rfl hr.units) (pe_okXK0 h_words_of kb_words_of passL (hr.mono (by decide)) (by rfl) (pk_cons (pv 10) (pk_cons (pv 13) pk_nil))) (pe_tup (pa_cons (pv 14) (pa_cons (pv 15) pa_nil))) (nomark _))))) (pss_one (ps_ret pe_bl)) pss_nil)
  (pss_cons (ps_par (i := 16) (j := 17) rfl S.nd rfl rfl (by decide) rfl rfl (pa_cons (pe_ok h__law_take (hr.mono (by decide)) (by rfl) (pa_cons (pv 1) (pa_cons (pe_op op_add (pe_callB (q_len K rfl) (by rfl) T.len PySem.boot_len (pa_cons (pv 10) pa_nil)) pe_int) pa_nil))) (pa_cons (pe_callB (q_len K rfl) (by rfl) T.len PySem.boot_len (pa_cons (pv 13) pa_nil)) pa_nil)) (by rfl))
  (pss_cons (ps_set (i := 18) S.nd rfl (by first | exact .inl rfl | exact .inr rfl) (pe_op (q_catT K rfl) (pe_op (q_catT K rfl) (pe_slice (q_slT K rfl) (pv 10) po_none (po_some (pv 16))) (pe_tup (pa_cons (pe_ok h__law_pick (hr.mono (by decide)) (by rfl) (pa_cons (pv 1) (pa_cons (pe_lst (pa_cons (pe_ok h__law_take (hr.mono (by decide)) (by rfl) (pa_cons (pv 1) (pa_cons (pe_op op_mul (pe_op op_add (pv 17) pe_int) (pe_op op_add (pv 17) pe_int)) pa_nil))) (pa_cons (pv 17) (pa_cons (pe_un un_neg pe_int) (pa_cons pe_bl (pa_cons pe_non (pa_cons pe_str pa_nil))))))) pa_nil))) pa_nil))) (pe_slice (q_slT K rfl) (pv 10) (po_some (pv 16)) po_none)))
  (pss_cons (ps_for PassesOwn.never rfl (q_iL K rfl (pe_lst (pa_cons (pv 10) (pa_cons (pv 18) (pa_cons (q_revT K rfl (pv 10)) (pa_cons (pe_callTy (q_list K rfl) (by rfl) T.list (by decide +kernel) (pa_cons (pv 10) pa_nil)) (pa_cons pe_non (pa_cons pe_int (pa_cons (pe_tup pa_nil) (pa_cons (pe_tup (pa_cons (pe_op op_add (pe_op op_mul (pv 17) (pe_op op_add (pv 17) pe_int)) (pv 17)) pa_nil)) (pa_cons (pe_tup (pa_cons (pe_op op_mul (pe_op op_add (pv 17) pe_int) (pe_op op_add (pv 17) pe_int)) pa_nil)) pa_nil))))))))))) (pg_name (i := 19) S.nd rfl (by first | exact .inl rfl | exact .inr rfl)) (pss_cons (ps_set (i := 20) S.nd rfl (by first | exact .inl rfl | exact .inr rfl) (pe_ok h__law_is_pair_row (hr.mono (by decide)) (by rfl) (pa_cons (pv 13) (pa_cons (pv 19) pa_nil))))
  (pss_cons (ps_if (PW.pt (pw_or (pt_not (pt_val (pe_ok h__law_is_truth (hr.mono (by decide)) (by rfl) (pa_cons (pe_okX h_is_pair_row passL (hr.mono (by decide)) (by rfl) (pa_cons (pv 13) (pa_cons (pv 19) pa_nil))) (pa_cons (pv 20) pa_nil))))) (pw_or1 (pt_not (pt_val (pe_ok h__law_is_truth (hr.mono (by decide)) (by rfl) (pa_cons (pe_okXK0 h_is_pair_row kb_is_pair_row passL (hr.mono (by decide)) (by rfl) (pk_cons (pv 19) (pk_cons (pv 13) pk_nil))) (pa_cons (pv 20) pa_nil)))))))) (pss_one (ps_ret pe_bl)) pss_nil)
  (pss_cons (ps_set (i := 12) S.nd rfl (by first | exact .inl rfl | exact .inr rfl) (LamX.pe_lamcall (k := 9) (by rfl) m_caught k_caught lk_caught c_caught b_caught sc_law_caught rfl (.inl rfl) (caught_gives gG) TB hcode (List.mem_singleton_self _) (fun p hp _ => by rw [List.mem_singleton.mp hp]) (hr.mono (by decide)) (LamX.lamS_by (show LamX.lamSB (defScope s_law) _ = true by decide +kernel)) rfl (fun _ _ _ _ _ => rfl) (fun A outer s H E f c' hr => (pe_okX h_words_of (passes_call (takes_of rfl rfl rfl rfl) fun _ _ _ _ h => h) (hr.mono (by decide)) (by rfl) (pa_cons (pv 13) (pa_cons (pv 19) pa_nil))))))
  (pss_one (ps_if (PW.pt (pw_or (pt_cmpR op_ne (pv 20) (pe_cmpR op_isN (pv 12) pe_non (nomark _)) (nomark _)) (pw_or1 (PW.pt (pw_and (pt_not (pt_val (pv 20))) (pw_and1 (pt_not (pt_val (pe_callB cr_isC2 (by rfl) T.isinstance (by decide +kernel) (pa_cons (pv 12) (pa_cons (pe_glob (v := .ref CW) (by rfl) e_BadWord.g rfl) pa_nil))))))))))) (pss_one (ps_ret pe_bl)) pss_nil))))))
  (pss_cons (ps_set (i := 11) S.nd rfl (by first | exact .inl rfl | exact .inr rfl) (pe_ok h__law_pick (hr.mono (by decide)) (by rfl) (pa_cons (pv 1) (pa_cons (pe_lst (pa_cons pe_non (pa_cons pe_int (pa_cons (pe_lst (pa_cons pe_int pa_nil)) (pa_cons (pe_tup (pa_cons (pv 17) pa_nil)) (pa_cons (pe_tup (pa_cons (pe_un un_neg pe_int) pa_nil)) (pa_cons (pe_tup (pa_cons pe_bl pa_nil)) (pa_cons pe_str pa_nil)))))))) pa_nil))))
  (pss_cons (ps_for PassesOwn.never rfl (q_iL K rfl (pe_lst (pa_cons (pe_lamV TB hcode (List.mem_singleton_self _) (fun p hp _ => by rw [List.mem_singleton.mp hp]) (LamX.lamS_by (show LamX.lamSB (defScope s_law) _ = true by decide +kernel)) rfl) (pa_cons (pe_lamV TB hcode (List.mem_singleton_self _) (fun p hp _ => by rw [List.mem_singleton.mp hp]) (LamX.lamS_by (show LamX.lamSB (defScope s_law) _ = true by decide +kernel)) rfl) pa_nil)))) (pg_name (i := 21) S.nd rfl (by first | exact .inl rfl | exact .inr rfl)) (pss_one (ps_if (pt_not (pt_val (pe_callB cr_isC (by rfl) T.isinstance (by decide +kernel) (pa_cons (pe_giv (k := 9) (by rfl) m_caught k_caught lk_caught c_caught b_caught sc_law_caught rfl (.inl rfl) (caught_gives gG) (hr.mono (by decide)) rfl lams_good (pv 21)) (pa_cons (pe_glob (v := .ref CW) (by rfl) e_BadWord.g rfl) pa_nil))))) (pss_one (ps_ret pe_bl)) pss_nil)))
  (pss_one (ps_for PassesOwn.never rfl (q_iL K rfl (pe_lst (pa_cons (pe_lamV TB hcode (List.mem_singleton_self _) (fun p hp _ => by rw [List.mem_singleton.mp hp]) (LamX.lamS_by (show LamX.lamSB (defScope s_law) _ = true by decide +kernel)) rfl) (pa_cons (pe_lamV TB hcode (List.mem_singleton_self _) (fun p hp _ => by rw [List.mem_singleton.mp hp]) (LamX.lamS_by (show LamX.lamSB (defScope s_law) _ = true by decide +kernel)) rfl) pa_nil)))) (pg_name (i := 21) S.nd rfl (by first | exact .inl rfl | exact .inr rfl)) (pss_one (ps_if (pt_not (pt_val (pe_callB cr_isC (by rfl) T.isinstance (by decide +kernel) (pa_cons (pe_giv (k := 9) (by rfl) m_caught k_caught lk_caught c_caught b_caught sc_law_caught rfl (.inl rfl) (caught_gives gG) (hr.mono (by decide)) rfl lams_good (pv 21)) (pa_cons (pe_glob (v := .ref CK) (by rfl) e_BadBack.g rfl) pa_nil))))) (pss_one (ps_ret pe_bl)) pss_nil)))))))))))))))))))))
  (pss_cons (ps_set (i := 22) S.nd rfl (by first | exact .inl rfl | exact .inr rfl) (pe_mkM h_Machine passL (hr.mono (by decide)) (by rfl) (pa_cons pe_int (pa_cons (pe_lst (pa_cons (pe_op op_rep (pe_lst (pa_cons pe_int pa_nil)) pe_int) pa_nil)) (pa_cons (pe_lst (pa_cons pe_int pa_nil)) pa_nil)))))
  (pss_cons (ps_set (i := 23) S.nd rfl (by first | exact .inl rfl | exact .inr rfl) (pe_mkM h_Machine passL (hr.mono (by decide)) (by rfl) (pa_cons pe_int (pa_cons (pe_lst (pa_cons (pe_op op_rep (pe_lst (pa_cons pe_int pa_nil)) pe_int) pa_nil)) (pa_cons (pe_lst pa_nil) pa_nil)))))
  (pss_cons (ps_if (pt_cmpR op_ne (pe_callB (q_len K rfl) (by rfl) T.len PySem.boot_len (pa_cons (pe_okX h_rows_up_to passL (hr.mono (by decide)) (by rfl) (pa_cons (pv 22) (pa_cons pe_int pa_nil))) pa_nil)) (pe_op op_add (pe_op op_add (pe_op op_add pe_int pe_int) pe_int) pe_int) (nomark _)) (pss_one (ps_ret pe_bl)) pss_nil)
  (pss_cons (ps_set (i := 12) S.nd rfl (by first | exact .inl rfl | exact .inr rfl) (LamX.pe_lamcall (k := 9) (by rfl) m_caught k_caught lk_caught c_caught b_caught sc_law_caught rfl (.inl rfl) (caught_gives gG) TB hcode (List.mem_singleton_self _) (fun p hp _ => by rw [List.mem_singleton.mp hp]) (hr.mono (by decide)) (LamX.lamS_by (show LamX.lamSB (defScope s_law) _ = true by decide +kernel)) rfl (fun _ _ _ _ _ => rfl) (fun A outer s H E f c' hr => (pe_okX h_rows_up_to (passes_call (takes_of rfl rfl rfl rfl) fun _ _ _ _ h => h) (hr.mono (by decide)) (by rfl) (pa_cons (pv 23) (pa_cons pe_int pa_nil))))))
  (pss_one (ps_ret (pe_and (pe_callB cr_isC2 (by rfl) T.isinstance (by decide +kernel) (pa_cons (pv 12) (pa_cons (pe_glob (v := .ref CM) (by rfl) t_TooMany.gC rfl) pa_nil))) (pe_and (pe_cmpR op_eq (pe_errFld t_TooMany (pv 12)) pe_int (nomark _)) (pe_one (pe_cmpR (q_eqD K rfl hr.units) (pe_okX h_rows_up_to passL (hr.mono (by decide)) (by rfl) (pa_cons (pv 23) (pa_cons pe_int pa_nil))) (pe_lst pa_nil) (nomark _))))))))))))), ?_⟩
  refine ⟨_, rfl, a, ns, rfl, hS, h63, fun d l c H1 sm hd hl hc D1 => ?_⟩
  have hS1 : SqL K H1 a (ns.map V.int) := sm.seq hS
  have hlen : (ns.map V.int).length ≤ 63 := by rw [List.length_map]; exact h63
  have T1 : Tabs [(Pt, (cxOf CX0 P w K mg base N_law "law" (defScope s_law) f (.ref c0) callerA [] s H E0).nox.env.qual ++ "<lambda>")] H1 := tabs_one (sm _ _ hP)
  have big : 2000000 ≤ sizeLine := by decide
  refine ⟨_, rfl, a, _, rfl, .inl hS1, _, _, rfl, _, _, rfl, rfl, _, rfl, ?_, ?_, ?_⟩
  · split <;> omega
  · split <;> omega
  refine for_range (lo := 0) (fun _ σ Hc => ∃ z2 z3 z4 z5 z6 z7 z8 z9 z10 z11 z12 z13 z14 z15 z16 z17 z18 z19 z20 z21 z22 z23, σ = [some (.ref a), some (.ref d), z2, z3, z4, z5, z6, z7, z8, z9, z10, z11, z12, z13, z14, z15, z16, z17, z18, z19, z20, z21, z22, z23] ∧ Drw Hc d l c ∧ Tabs [(Pt, (cxOf CX0 P w K mg base N_law "law" (defScope s_law) f (.ref c0) callerA [] s H E0).nox.env.qual ++ "<lambda>")] Hc)
    ⟨_, _, _, _, _, _, _, _, _, _, _, _, _, _, _, _, _, _, _, _, _, _, rfl, D1, T1⟩ (fun i σ Hc hi hP => ?_) (fun σ Hc hP => ?_)
  · obtain ⟨z2, z3, z4, z5, z6, z7, z8, z9, z10, z11, z12, z13, z14, z15, z16, z17, z18, z19, z20, z21, z22, z23, rfl, Dc, Tc⟩ := hP
    -- letters_here, most
    refine ⟨_, rfl, d, l, c, 4, rfl, Dc, by decide, by decide, fun j3 H3 hj30 hj31 n3 D3 => ⟨_, _, rfl, rfl, _, rfl, d, l, c, 5, rfl, D3, by decide, by decide, fun j4 H4 hj40 hj41 n4 D4 => ⟨_, _, rfl, ?_⟩⟩⟩
    obtain ⟨L, hL⟩ : ∃ L : Nat, (1 : Int) + j3 = (L : Int) := ⟨(1 + j3).toNat, by omega⟩
    obtain ⟨m, rfl⟩ : ∃ m : Nat, j4 = (m : Int) := ⟨j4.toNat, by omega⟩
    have hLv : (fun (i j : Int) => V.int (i + j)) 1 j3 = V.int (L : Int) := congrArg V.int hL
    rw [hLv]
    have hm4 : m ≤ 4 := by omega
    have hL4 : L ≤ 4 := by omega
    have T4 := tabs_nd (tabs_nd Tc n3 Dc) n4 D3
    have V4 := offD_vw D4
    dsimp only [gName]
    refine ⟨_, rfl, _, rfl, offD d l c H4, [(Pt, (cxOf CX0 P w K mg base N_law "law" (defScope s_law) f (.ref c0) callerA [] s H E0).nox.env.qual ++ "<lambda>")], d, l, c, L, 4, rfl, V4, T4, by omega, by omega, by decide, by decide, fun v5 G5 H5 ws es M l4 mv5 hd5 => ?_⟩
    cases hd5 with
    | @tup a5 xs5 _ hs5 ha5 =>
    obtain _ | ⟨h51, _ | ⟨h52, _ | _⟩⟩ := ha5
    refine ⟨a5, _, rfl, same_tup mv5.vw.gh hs5, rfl, _, _, rfl, _, _, rfl, rfl, ?_⟩
    -- machine
    refine seq_letM (K := K) (CG := CG) (G := G5) (em_make (ed_var (i := 3) rfl (.int (L : Int))) (EvN.toD (EvN.cast (en_lcL1 (i := 8) (fun d => d) (ed_var (i := 5) rfl h51) (fun _ => rfl) (by rw [List.length_map]; omega) fun d v Gi hd g hdv => ?_) (List.map_id _))) (ed_cb (ea_cons (ed_var (i := 6) rfl h52) ea_nil) rcl_listL) M) mv5.vw.gh fun g G6 H6 n6 hg6 => ?_
    · obtain ⟨o, _, rfl⟩ := List.mem_map.mp hd
      exact ed_cb (ea_cons (ed_var (i := 8) rfl hdv) ea_nil) rcl_listL
    have m6 := mv5.trans (Mv.nx mv5.vw mv5.tb n6)
    have h516 := dp_mono n6.gg _ h51
    have h526 := dp_mono n6.gg _ h52
    have hl : ∀ k < m, (ledN ws (k + 1)).length ≤ 3000 := fun k hk => small_led M hL4 hm4 hk
    -- due
    refine seq_letV (K := K) (G := G6) (ds := (foundN ws es (m + 1)).map rowN) (EvN.cast (en_lcL (i := 10) (dueF ws es) (ed_call (R := R_law_all) (E := E0) (ea_cons (ed_var (i := 3) rfl (.int (L : Int))) (ea_cons (ed_var (i := 4) rfl (.int (m : Int))) ea_nil)) ⟨L, m, rfl, hL4, hm4, rfl⟩) (fun _ => rfl) ?_ (fun x v Gi hx gs hxv => ?_) fun x v e Gi hx he gs hxv => ?_) (by rw [due_eq, foundN_all M])) m6.vw.gh fun p9 vs9 G7 H7 n7 hp9 e9 ha9 => ?_
    · have := allL_4 hL4 hm4
      have : 256 * (m + 1) ≤ 256 * 5 := Nat.mul_le_mul (Nat.le_refl _) (by omega)
      rw [List.length_map]; omega
    · obtain ⟨r, hr, rfl⟩ := List.mem_map.mp hx
      have hr2 := (allL_mem hr).2
      refine EvB.cast (eb_test (ed_op (ed_call (R := R_law_went) (E := E0) (ea_cons (ed_var (i := 5) rfl (dp_mono gs _ h516)) (ea_cons (ed_var (i := 10) rfl hxv) ea_nil)) ⟨L, ws, r, rfl, M.n1, M.w, hr2, rfl⟩) (ed_var (i := 6) rfl (dp_mono gs _ h526)) (ro_inL ?_ ?_))) ?_
      · cases goL ws (some 0) r with
        | none => rfl
        | some s => exact shaped_int _
      · intro e he
        obtain ⟨k, _, rfl⟩ := List.mem_map.mp he
        exact shaped_int _
      · rw [any_in]
        unfold dueF
        rw [natsOf_row]
        show inE ws es r = _
        cases inE ws es r <;> rfl
    · unfold dueF at he
      split at he
      · cases he; exact ed_var (i := 10) rfl hxv
      · cases he
    have m7 := m6.trans (Mv.nx m6.vw m6.tb n7)
    have hg7 := hg6.mono n7.gg
    have hdue : Dp K G7 (.ref p9) (.list ((foundN ws es (m + 1)).map rowN)) := .lst (SqL.of e9) ha9
    have shw := found_show M hL4 hm4
    refine seq_chk (K := K) (G := G7) (eb_or0 (EvB.cast (eb_test (ed_op (ed_repr (ed_ru (i := 7) rfl hg7 M (ed_var (i := 4) rfl (.int (m : Int))) (by omega) hl) shw) (ed_repr (ed_var (i := 9) rfl hdue) shw) ro_neS)) (by simp)) (EvB.cast (eb_test (ed_op (ed_ruK (i := 7) rfl hg7 M (ed_var (i := 4) rfl (.int (m : Int))) (by omega) hl) (ed_var (i := 9) rfl hdue) (ro_neD (shaped_rowsN _) (shaped_rowsN _)))) (by rw [eqv_rowsN]; rfl))) m7.vw.gh fun G8 H8 n8 => ?_
    have m8 := m7.trans (Mv.nx m7.vw m7.tb n8)
    have hg8 := hg7.mono n8.gg
    clear m7 m6 mv5 hdue ha9 h51 h52 h516 h526
    -- wrong numbers
    refine seq_forN (K := K) (G := G8) (ds := badsD) (en_lst (ea_cons ed_non (ea_cons ed_m1 (ea_cons ed_int (ea_cons ed_bl (ea_cons ed_str ea_nil))))) (by show 5 ≤ sizeLine; omega)) m8.vw.gh fun pb vsb G9 H9 n9 hpb eb hab => ?_
    have m9 := m8.trans (Mv.nx m8.vw m8.tb n9)
    have D9 := m9.vw.dr
    have T9 := m9.tb
    have hg9 : MacAt K CG (noT H9) g L ws es := ((hg8.mono n9.gg).mono m9.vw.gh).noT
    have hpbV : SqL K (noT H9) pb vsb := sqL_noT (SqL.of eb)
    have gh9 := m9.vw.gh
    clear m9 m8
    refine ⟨pb, rfl, ⟨vsb, SqL.of eb⟩, for_list (K := K) (a := pb) (xs := vsb) (fun j σ Hc => ∃ y11 y12, σ = [some (.ref a), some (.ref d), some (.int (0 + (i : Int))), some (.int (L : Int)), some (.int (m : Int)), some _, some _, some (.ref g), z8, some (.ref p9), z10, y11, y12, z13, z14, z15, z16, z17, z18, z19, z20, z21, z22, z23] ∧ Same (noT H9) Hc ∧ Tabs [(Pt, (cxOf CX0 P w K mg base N_law "law" (defScope s_law) f (.ref c0) callerA [] s H E0).nox.env.qual ++ "<lambda>")] Hc) ⟨_, _, rfl, noT_same, T9⟩ (fun j σ Hc _ hp => by obtain ⟨_, _, _, h, _⟩ := hp; exact h.seq hpbV) ?_ ?_⟩
    · rintro j v σ Hc' hj ⟨y11, y12, rfl, sc, tc⟩
      obtain ⟨x, hx, hdx⟩ := dpa_get hab hj
      have hv : Dp K (noT H9) v x := dp_noT _ (dp_mono gh9 _ hdx)
      have hoff := bads_off (List.mem_of_getElem? hx)
      refine ⟨tc, fun H20 e20 t20 => ⟨_, rfl, _, rfl, ?_⟩⟩
      dsimp only [tNil]
      refine ru_bad (noT_ext sc e20) hg9 M hv hoff fun d' H' sm hd' => ⟨true, xN, fun _ ae hae => ?_, fun z => nomatch z⟩
      have sE := same_upd (o := ErrO (.ref CN) (some d') ae) hae
      exact chk_part (i := 12) rfl upd_same (sE _ _ hd') EN kN ⟨_, _, rfl, ((noT_ext sc e20).trans sm).trans sE, tabs_same t20 (sm.trans sE)⟩
    rintro σ H10 ⟨y11, y12, rfl, s10, T10⟩
    have D10 : Drw H10 d l c := D9.noT.same s10
    dsimp only
    clear hg9 hg8 hg7 hg6 n8 n7 n6 shw hl hab hpbV gh9 D9 T9 s10
    -- back_here
    refine seq_asg ⟨_, rfl, d, l, c, rfl, D10, fun b bs H11 B h6 hb0 hb n11 D11 => ?_⟩
    have T11 := tabs_nd T10 n11 D10
    have vb : SqT K H11 b (bs.map V.int) := SqT.of hb
    have lb : (bs.map V.int).length = bs.length := List.length_map _
    have lbd : (bs.map PyData.int).length = bs.length := List.length_map _
    have two := B.two
    have B7 : Bk bs := ⟨B.is, B.six⟩
    -- one, other
    refine ⟨_, rfl, _, rfl, d, l, c, b, _, 6, rfl, D11, vb, by omega, by omega, by decide, by decide, fun w1 as H12 hw1 hw2 hw0 hw n12 D12 => ⟨_, rfl, _, rfl, d, l, c, b, _, 6, rfl, D12, n12.seqT D11 vb, by omega, by omega, by decide, by decide, fun w2 cs H13 hx1 hx2 hx0 hx n13 D13 => ⟨_, _, rfl, ?_⟩⟩⟩
    rw [lb] at hw2 hx2
    have T13 := tabs_nd (tabs_nd T11 n12 D11) n13 D12
    have V13 := offD_vw D13
    have hb13 : Dp K (offD d l c H13) (.ref b) (wD bs) := dp_off D13 _ (by rw [noL]; exact noLA_ints bs) (.tup (n13.seqT D12 (n12.seqT D11 vb)) (dpa_ints bs))
    have h113 : Dp K (offD d l c H13) (.ref w1) (wD as) := dp_off D13 _ (by rw [noL]; exact noLA_ints as) (.tup (n13.seqT D12 (SqT.of hw)) (dpa_ints as))
    have h213 : Dp K (offD d l c H13) (.ref w2) (wD cs) := dp_off D13 _ (by rw [noL]; exact noLA_ints cs) (.tup (SqT.of hx) (dpa_ints cs))
    generalize offD d l c H13 = G13 at V13 hb13 h113 h213
    have za : as.length ≤ 6 := by omega
    have zc : cs.length ≤ 6 := by omega
    have b12 : bs.length ≤ 12 := by omega
    dsimp only [gName]
    -- row_here
    refine seq_let (K := K) (G := G13) (d := wD (prI bs.length as cs)) (ed_call (R := R_law_pairs_read) (E := E0) (ea_cons (ed_var (i := 13) rfl hb13) (ea_cons (ed_var (i := 14) rfl h113) (ea_cons (ed_var (i := 15) rfl h213) ea_nil))) ⟨bs, as, cs, rfl, by omega, by omega, by omega, rfl⟩) V13.gh fun v10 G14 H14 n14 hd10 => ?_
    have m14 := Mv.nx (K := K) (TQ := [(Pt, (cxOf CX0 P w K mg base N_law "law" (defScope s_law) f (.ref c0) callerA [] s H E0).nox.env.qual ++ "<lambda>")]) V13 T13 n14
    have hb14 := dp_mono n14.gg _ hb13
    have h114 := dp_mono n14.gg _ h113
    have h214 := dp_mono n14.gg _ h213
    have lr : (prI bs.length as cs).length ≤ 6 := by rw [prI_len]; omega
    have hpr := prI_is hw2 hx2
    have eA := poA_prI hw2 hx2
    have eB := poB_prI (a := as) hx2
    have shR := pr_showy hw2 hx2 b12 za zc
    generalize hR : prI bs.length as cs = R at hd10 lr hpr eA eB shR
    have lrd : (R.map PyData.int).length = R.length := List.length_map _
    have szR : ∀ ys, wD R = .tuple ys → ys.length ≤ 100000 := fun ys e => by
      have e : R.map PyData.int = ys := by injection e
      rw [← e, lrd]; omega
    refine seq_chk (K := K) (G := G14) (eb_or0 (EvB.cast (eb_test (ed_op (ed_repr (EvD.cast (ed_prw (i := 13) (j := 14) (k := 15) B7 rfl hb14 rfl h114 rfl h214 hw2 hx2 (by omega) (by omega)) (by rw [hR])) shR) (ed_repr (ed_var (i := 10) rfl hd10) shR) ro_neS)) (by simp)) (EvB.cast (eb_test (ed_op (EvD.cast (ed_prwK (i := 13) (j := 14) (k := 15) B7 rfl hb14 rfl h114 rfl h214 hw2 hx2 (by omega) (by omega)) (by rw [hR])) (ed_var (i := 10) rfl hd10) (ro_neD (shaped_intsT _) (shaped_intsT _)))) (by rw [eqv_w]; rfl))) m14.vw.gh fun G15 H15 n15 => ?_
    have m15 := m14.trans (Mv.nx m14.vw m14.tb n15)
    have hb15 := dp_mono n15.gg _ hb14
    have h115 := dp_mono n15.gg _ h114
    have h215 := dp_mono n15.gg _ h214
    have hr15 := dp_mono n15.gg _ hd10
    have eW : PyData.tuple [wD (poA bs.length (toWs (wD R))), wD (poB bs.length (toWs (wD R)))] = .tuple [wD as, wD cs] := by rw [toWs_ints, eA, eB]
    have sh2 : Showy (.tuple [wD as, wD cs]) := showyT2 b12 hw2 hx2 (by omega) (by omega)
    have two2 : 2 ≤ sizeLine := by omega
    have edT : ∀ {σ : L2.St}, σ[14]? = some (some (.ref w1)) → σ[15]? = some (some (.ref w2)) → EvD K (tTup (tCons (tVar 14) (tCons (tVar 15) tNil))) σ G15 (.tuple [wD as, wD cs]) := fun e1 e2 => ed_tup (ea_cons (ed_var (i := 14) e1 h115) (ea_cons (ed_var (i := 15) e2 h215) ea_nil)) two2
    refine seq_chk (K := K) (G := G15) (eb_or0 (EvB.cast (eb_test (ed_op (ed_repr (EvD.cast (ed_wo (i := 13) (j := 10) B7 rfl hb15 rfl hr15 szR hpr) eW) sh2) (ed_repr (edT rfl rfl) sh2) ro_neS)) (by simp)) (EvB.cast (eb_test (ed_op (EvD.cast (ed_woK (i := 13) (j := 10) B7 rfl hb15 rfl hr15 szR hpr) eW) (edT rfl rfl) (ro_neD (shaped_two _ _) (shaped_two _ _)))) (by rw [eqv_two]; rfl))) m15.vw.gh fun G16 H16 n16 => ?_
    have m16 := m15.trans (Mv.nx m15.vw m15.tb n16)
    have hb16 := dp_mono n16.gg _ hb15
    have hr16 := dp_mono n16.gg _ hr15
    clear edT h115 h215 h114 h214 h113 h213 hd10 hr15 hb15 hb14 hb13 m15 m14
    obtain ⟨ar, rfl, hsr⟩ := dp_ints_t hr16
    have V16 := m16.vw
    have lrv : (R.map V.int).length = R.length := List.length_map _
    -- spot, many
    have hbq : ∃ b', V.ref b = .ref b' ∧ SqT K G16 b' (bs.map V.int) := dp_ints_t hb16
    obtain ⟨b', eb', hsb⟩ := hbq
    cases eb'
    refine ⟨_, rfl, _, rfl, ar, _, rfl, .inr (same_tup V16.gh hsr), _, _, rfl, rfl, d, l, c, _, rfl, V16.dr, ?_, ?_, fun j16 H17 hj160 hj161 n17 D17 => ⟨_, rfl, b, _, rfl, .inr (same_tup (Mv.nd (K := K) V16 m16.tb n17 D17).vw.gh hsb), _, _, rfl, ?_⟩⟩
    · rw [lrv]; omega
    · rw [lrv]; omega
    rw [lrv] at hj161
    rw [lb]
    have m17 := Mv.nd (K := K) V16 m16.tb n17 D17
    obtain ⟨sp, rfl⟩ : ∃ sp : Nat, j16 = (sp : Int) := ⟨j16.toNat, by omega⟩
    dsimp only [gName]
    have hsp : sp ≤ R.length := by omega
    -- bent
    have c1 : cutD (R.map PyData.int) none (some (sp : Int)) = (R.take sp).map .int := by rw [cutD_to, List.map_take]
    have c2 : cutD (R.map PyData.int) (some (sp : Int)) none = (R.drop sp).map .int := by rw [cutD_from, List.map_drop]
    have cm : CMul ((bs.length : Int) + 1) ((bs.length : Int) + 1) := .inr ⟨by omega, by omega⟩
    refine seq_asg ?_
    refine (EvD.cast (ed_slT (ed_var (i := 10) rfl hr16) eo_none (eo_some (i := (sp : Int)) (ed_var (i := 16) rfl (.int (sp : Int))))) (congrArg PyData.tuple c1)) H17 m17.vw.gh _ fun vA G18 H18 n18 hA => ?_
    have m18 := m17.trans (Mv.nx m17.vw m17.tb n18)
    refine ⟨_, rfl, _, rfl, ?_⟩
    refine (ed_op (K := K) (G := G18) (ed_op (ed_var (i := 17) rfl (.int (bs.length : Int))) ed_int ro_i) (ed_op (ed_var (i := 17) rfl (.int (bs.length : Int))) ed_int ro_i) (ro_ic (f := fun i j => i * j) cm)) H18 m18.vw.gh _ fun vn G19 H19 n19 hn => ?_
    have m19 := m18.trans (Mv.nx m18.vw m18.tb n19)
    have hn := dp_int hn
    subst hn
    have q0 : (0 : Int) < ((bs.length : Int) + 1) * ((bs.length : Int) + 1) := Int.mul_pos (by omega) (by omega)
    have q1 : ((bs.length : Int) + 1) * ((bs.length : Int) + 1) ≤ 13 * 13 := Int.mul_le_mul (by omega) (by omega) (by omega) (by omega)
    refine ⟨d, l, c, _, rfl, m19.vw.dr, q0, by omega, fun k H20 hk0 hk1 n20 D20 => ?_⟩
    have m20 := m19.trans (Mv.nd (K := K) m19.vw m19.tb n20 D20)
    refine ⟨_, rfl, 1, rfl, by show 6 ≤ sizeLine; omega, fun t ht => ?_⟩
    have m21 := m20.trans (Mv.nx m20.vw m20.tb (Nx.new (o := .lst [.int k, .int (bs.length : Int), .int (-1), .bl true, .non, .str "0"]) m20.vw.gh ht))
    refine pickG_go (E := E0) m21.vw (SqL.of upd_same) (by show 0 < 6; decide) (by show 6 < 1000000; decide) fun v H22 hv n22 D22 => ?_
    obtain ⟨x, hxm, hvx⟩ : ∃ x ∈ oddsI k bs.length, ∀ G : Hp, Dp K G v x := by
      simp only [List.mem_cons, List.not_mem_nil, or_false] at hv
      rcases hv with rfl | rfl | rfl | rfl | rfl | rfl
      · exact ⟨.int k, by simp [oddsI], fun G => .int k⟩
      · exact ⟨.int (bs.length : Int), by simp [oddsI], fun G => .int _⟩
      · exact ⟨.int (-1), by simp [oddsI], fun G => .int _⟩
      · exact ⟨.bool true, by simp [oddsI], fun G => .bl true⟩
      · exact ⟨.none, by simp [oddsI], fun G => .non⟩
      · exact ⟨.str "0", by simp [oddsI], fun G => .str _⟩
    have m22 := m21.trans (Mv.nd (K := K) m21.vw m21.tb n22 D22)
    refine ⟨by show 1 ≤ sizeLine; omega, fun tt htt => ?_⟩
    have m23 := m22.trans (Mv.nx m22.vw m22.tb (Nx.new (o := .tup [v]) m22.vw.gh htt))
    have hAx := (Mv.nx (K := K) (TQ := [(Pt, (cxOf CX0 P w K mg base N_law "law" (defScope s_law) f (.ref c0) callerA [] s H E0).nox.env.qual ++ "<lambda>")]) m22.vw m22.tb (Nx.new (o := .tup [v]) m22.vw.gh htt)).dp ((Mv.nd (K := K) m21.vw m21.tb n22 D22).dp ((Mv.nx (K := K) (TQ := [(Pt, (cxOf CX0 P w K mg base N_law "law" (defScope s_law) f (.ref c0) callerA [] s H E0).nox.env.qual ++ "<lambda>")]) m20.vw m20.tb (Nx.new (o := .lst [.int k, .int (bs.length : Int), .int (-1), .bl true, .non, .str "0"]) m20.vw.gh ht)).dp (dp_mono n19.gg _ hA)))
    have dT : Dp K (upd (upd G19 t (.lst [.int k, .int (bs.length : Int), .int (-1), .bl true, .non, .str "0"])) tt (.tup [v])) (.ref tt) (.tuple [x]) := .tup (SqT.of upd_same) (.cons (hvx _) .nil)
    have hb23 := m23.dp hb16
    have hr23 := m23.dp hr16
    generalize upd (upd G19 t (.lst [.int k, .int (bs.length : Int), .int (-1), .bl true, .non, .str "0"])) tt (.tup [v]) = G23 at m23 hAx dT hb23 hr23
    have V23 := m23.vw
    have T23 := m23.tb
    clear m22 m21 m20 m19 m18 m17 m16
    generalize upd H22 tt (.tup [v]) = H23 at m23 V23 T23
    have lT : ((R.take sp).map PyData.int).length ≤ 6 := by rw [List.length_map, List.length_take]; omega
    have lD : ((R.drop sp).map PyData.int).length ≤ 6 := by rw [List.length_map, List.length_drop]; omega
    refine ro_cat (K := K) (ds := (R.take sp).map .int) (es := [x]) (by show _ + 1 ≤ _; omega) G23 H23 V23.gh _ _ hAx dT _ fun vB G24 H24 n24 hB => ?_
    refine (EvD.cast (ed_slT (ed_var (i := 10) rfl (dp_mono n24.gg _ hr23)) (eo_some (i := (sp : Int)) (ed_var (i := 16) rfl (.int (sp : Int)))) eo_none) (congrArg PyData.tuple c2)) H24 n24.gh _ fun vC G25 H25 n25 hC => ?_
    refine ro_cat (K := K) (ds := (R.take sp).map .int ++ [x]) (es := (R.drop sp).map .int) (by rw [List.length_append, List.length_singleton]; omega) G25 H25 n25.gh _ _ (dp_mono n25.gg _ hB) hC _ fun v18 G26 H26 n26 h18 => ?_
    have n2326 := (n24.trans n25).trans n26
    have m26 := Mv.nx (K := K) V23 T23 n2326
    have hb26 := dp_mono n2326.gg _ hb23
    have hr26 := dp_mono n2326.gg _ hr23
    have V26 := m26.vw
    have T26 := m26.tb
    clear m26 m23 n2326 n26 n25 n24 hB hC hA hAx dT hb23 hr23 V23 T23 hb16 hr16
    have one1 : 1 ≤ sizeLine := by omega
    have lRr : (R.map PyData.int).length ≤ sizeLine := by rw [List.length_map]; omega
    have ev17 : ∀ {σ : L2.St} {G : Hp}, σ[17]? = some (some (.int (bs.length : Int))) → EvD K (tVar 17) σ G (.int (bs.length : Int)) := fun h => ed_var (i := 17) h (.int _)
    -- values
    refine seq_forN (K := K) (G := G26) (ds := valsD R x sp bs.length) (en_lst (ea_cons (ed_var (i := 10) rfl hr26) (ea_cons (ed_var (i := 18) rfl h18) (ea_cons (ed_revT (ed_var (i := 10) rfl hr26)) (ea_cons (ed_cb (ea_cons (ed_var (i := 10) rfl hr26) ea_nil) rcl_listT) (ea_cons ed_non (ea_cons ed_int (ea_cons (ed_tup ea_nil (Nat.zero_le _)) (ea_cons (ed_tup (ea_cons (ed_op (ed_op (ev17 rfl) (ed_op (ev17 rfl) ed_int ro_i) (ro_ic (f := fun i j => i * j) (.inr ⟨by omega, by omega⟩))) (ev17 rfl) ro_i) ea_nil) one1) (ea_cons (ed_tup (ea_cons (ed_op (ed_op (ev17 rfl) ed_int ro_i) (ed_op (ev17 rfl) ed_int ro_i) (ro_ic (f := fun i j => i * j) cm)) ea_nil) one1) ea_nil))))))))) (by show 9 ≤ sizeLine; omega)) V26.gh fun pvl vsv G27 H27 n27 hpv ev hav => ?_
    have m27 := Mv.nx (K := K) V26 T26 n27
    have V27 := m27.vw
    have T27 := m27.tb
    have D27 := V27.dr
    have hb27 := dp_mono n27.gg _ hb26
    have hbN : Dp K (noT H27) (.ref b) (wD bs) := dp_noT _ (dp_mono V27.gh _ hb27)
    have hpvV : SqL K (noT H27) pvl vsv := sqL_noT (SqL.of ev)
    clear m27
    refine ⟨pvl, rfl, ⟨vsv, SqL.of ev⟩, for_list (K := K) (a := pvl) (xs := vsv) (fun j σ Hc => ∃ y12 y19 y20, σ = [some (.ref a), some (.ref d), some (.int (0 + (i : Int))), some (.int (L : Int)), some (.int (m : Int)), some _, some _, some (.ref g), z8, some (.ref p9), some (.ref ar), y11, y12, some (.ref b), some (.ref w1), some (.ref w2), some (.int (sp : Int)), some (.int (bs.length : Int)), some v18, y19, y20, z21, z22, z23] ∧ Same (noT H27) Hc ∧ Tabs [(Pt, (cxOf CX0 P w K mg base N_law "law" (defScope s_law) f (.ref c0) callerA [] s H E0).nox.env.qual ++ "<lambda>")] Hc) ⟨_, _, _, rfl, noT_same, T27⟩ (fun j σ Hc _ hp => by obtain ⟨_, _, _, _, h, _⟩ := hp; exact h.seq hpvV) ?_ ?_⟩
    · rintro j v0 σ Hc' hj ⟨y12', y19, y20, rfl, sc, tc⟩
      obtain ⟨y, hy, hdy⟩ := dpa_get hav hj
      have hv : Dp K (noT H27) v0 y := dp_noT _ (dp_mono V27.gh _ hdy)
      have hsz := vals_sz lr (List.mem_of_getElem? hy)
      dsimp only [gName]
      refine seq_let (K := K) (G := noT H27) (d := .bool (isPR bs.length y)) (ed_call (R := R_law_is_pair_row) (E := E0) (ea_cons (ed_var (i := 13) rfl hbN) (ea_cons (ed_var (i := 19) rfl hv) ea_nil)) ⟨bs, y, rfl, b12, hsz, rfl⟩) sc fun v20 G30 H30 n30 hd20 => ?_
      have T30 := tabs_same tc n30.hh
      have hb30 := dp_mono n30.gg _ hbN
      have hv30 := dp_mono n30.gg _ hv
      have h20 := dp_bl hd20
      subst h20
      refine seq_chk (K := K) (G := G30) (eb_or0 (EvB.cast (eb_not (eb_B (ed_tr (ed_ipr (i := 13) (j := 19) B7 rfl hb30 rfl hv30 hsz) (ed_var (i := 20) rfl (.bl (isPR bs.length y)))))) (by simp)) (EvB.cast (eb_not (eb_B (ed_tr (ed_iprK (i := 13) (j := 19) B7 rfl hb30 rfl hv30 hsz) (ed_var (i := 20) rfl (.bl (isPR bs.length y)))))) (by simp))) n30.gh fun G31 H31 n31 => ?_
      have T31 := tabs_same T30 n31.hh
      have s31 := (sc.trans n30.hh).trans n31.hh
      have hb32 := dp_noT _ (dp_mono n31.gg _ hb30)
      have hv32 := dp_noT _ (dp_mono n31.gg _ hv30)
      refine ⟨T31, fun H32 e32 t32 => ⟨_, rfl, _, rfl, ?_⟩⟩
      dsimp only [tNil]
      have s32 := noT_ext (noT_same.trans n31.gh) e32
      have k32 := noT_ext s31 e32
      cases hp : isPR bs.length y with
      | false =>
        refine wo_core (K := K) s32 B7 hb32 hv32 hsz (fun _ G33 H33 n33 => ⟨true, xW, fun _ ae hae => ?_, fun z => nomatch z⟩) fun z => by rw [hp] at z; cases z
        have n34 := n33.trans (Nx.new (o := ErrO (.ref CW) none ae) n33.gh hae)
        have eae : upd G33 ae (ErrO (.ref CW) none ae) ae = some (ErrO (.ref CW) none ae) := upd_same
        exact if_chk (K := K) (G := upd G33 ae (ErrO (.ref CW) none ae)) (eb_or0 (EvB.cast (eb_test (ed_op (ed_var (i := 20) rfl (.bl false)) (ed_isRef (j := 12) rfl) ro_neB)) rfl) (EvB.cast (eb_and (a := true) (b := false) (eb_not (eb_B (ed_var (i := 20) rfl (.bl false)))) fun _ => EvB.cast (eb_not (eb_B (ed_isc2 (j := 12) rfl eae EW kW))) rfl) rfl)) n34.gh fun G35 H35 n35 => ⟨_, _, _, rfl, (k32.trans n34.hh).trans n35.hh, tabs_same t32 (n34.hh.trans n35.hh)⟩
      | true =>
        refine wo_core (K := K) s32 B7 hb32 hv32 hsz (fun z => by rw [hp] at z; cases z) fun _ v33 G33 H33 n33 hd33 => ?_
        refine ⟨_, rfl, ?_⟩
        dsimp only [gName]
        exact if_chk (K := K) (G := G33) (eb_or0 (EvB.cast (eb_test (ed_op (ed_var (i := 20) rfl (.bl true)) (ed_op (ed_var (i := 12) rfl .non) ed_non ro_isN0) ro_neB)) rfl) (EvB.cast (eb_and (a := false) (b := true) (eb_not (eb_B (ed_var (i := 20) rfl (.bl true)))) fun z => nomatch z) rfl)) n33.gh fun G35 H35 n35 => ⟨_, _, _, rfl, (k32.trans n33.hh).trans n35.hh, tabs_same t32 (n33.hh.trans n35.hh)⟩
    rintro σ H28 ⟨y12', y19, y20, rfl, s28, T28⟩
    have V28 : Vw (noT G27) H28 d l c := ⟨(noT_mono V27.gh).trans s28, noT_none V27.gd, noT_none V27.gl, noT_none V27.gc, D27.noT.same s28⟩
    have hb28 : Dp K (noT G27) (.ref b) (wD bs) := dp_noT _ hb27
    clear V27 T27 D27 hb27 hbN hpvV hav s28 hb26 h18 V26 T26 hr26
    dsimp only
    -- bad
    refine seq_asg ⟨_, rfl, (en_lst (K := K) (G := noT G27) (ds := wrongs (bs.length : Int)) (ea_cons ed_non (ea_cons ed_int (ea_cons (ed_lst (ea_cons ed_int ea_nil) one1) (ea_cons (ed_tup (ea_cons (ev17 rfl) ea_nil) one1) (ea_cons (ed_tup (ea_cons ed_m1 ea_nil) one1) (ea_cons (ed_tup (ea_cons ed_bl ea_nil) one1) (ea_cons ed_str ea_nil))))))) (by show 7 ≤ sizeLine; omega)).tellV V28.gh fun pw vsw G29 H29 n29 hpw ew haw => ?_⟩
    have m29 := Mv.nx (K := K) V28 T28 n29
    refine pickG_go (E := E0) m29.vw (SqL.of ew) (by rw [dpa_length haw]; show 0 < 7; decide) (by rw [dpa_length haw]; show 7 < 1000000; decide) fun v11 H30 hv11 nd30 D30 => ?_
    obtain ⟨jw, hjw⟩ := List.getElem?_of_mem hv11
    obtain ⟨x11, hx11, hd11⟩ := dpa_get haw hjw
    obtain ⟨off1, off2⟩ := off_rows (List.mem_of_getElem? hx11)
    have m30 := Mv.nd (K := K) m29.vw m29.tb nd30 D30
    have hvN : Dp K (noT H30) v11 x11 := dp_noT _ (dp_mono m30.vw.gh _ hd11)
    have hbN : Dp K (noT H30) (.ref b) (wD bs) := dp_noT _ (dp_mono m30.vw.gh _ (m29.dp hb28))
    have T30 := m30.tb
    clear m30 m29 V28 T28 hb28 haw hd11 n29
    -- what is no word
    refine ⟨T30, fun f1 c1 H31 e31 t31 hf1 at1 co1 => ⟨t31, fun f2 c2 H32 e32 t32 hf2 at2 co2 => ⟨by show 2 ≤ sizeLine; omega, fun pq hpq => ⟨pq, rfl, ⟨_, SqL.of upd_same⟩, ?_⟩⟩⟩⟩
    have s31 := noT_ext noT_same e31
    have s32 := noT_ext s31 e32
    have s35 := same_upd (o := .lst [.ref f1, .ref f2]) hpq
    have g1 : noT H30 f1 = none := noT_none hf1
    have g2 : noT H30 f2 = none := s31.free hf2
    have at12 := e32 _ _ at1 (fun _ z => nomatch z)
    have co12 := e32 _ _ co1 (fun _ z => nomatch z)
    have n12 : f1 ≠ f2 := ne_of_none at1 hf2
    have m1 := code_ne at12 co12
    have m2 := code_ne at2 co2
    have m21 : c2 ≠ f1 := code_ne at12 co2
    refine for_list (K := K) (a := pq) (xs := [.ref f1, .ref f2]) (fun jj σ Hc => ∃ y21, σ = [some (.ref a), some (.ref d), some (.int (0 + (i : Int))), some (.int (L : Int)), some (.int (m : Int)), some _, some _, some (.ref g), z8, some (.ref p9), some (.ref ar), some v11, y12', some (.ref b), some (.ref w1), some (.ref w2), some (.int (sp : Int)), some (.int (bs.length : Int)), some v18, y19, y20, y21, z22, z23] ∧ Same (noT H30) Hc ∧ Tabs [(Pt, (cxOf CX0 P w K mg base N_law "law" (defScope s_law) f (.ref c0) callerA [] s H E0).nox.env.qual ++ "<lambda>")] Hc ∧ Hc pq = some (.lst [.ref f1, .ref f2]) ∧
      (jj = 0 → Hc f1 = H32 f1 ∧ Hc c1 = H32 c1) ∧ (jj ≤ 1 → Hc f2 = H32 f2 ∧ Hc c2 = H32 c2))
      ⟨_, rfl, s32.trans s35, tabs_same t32 s35, upd_same, fun _ => ⟨(s35 _ _ at12).trans at12.symm, (s35 _ _ co12).trans co12.symm⟩, fun _ => ⟨(s35 _ _ at2).trans at2.symm, (s35 _ _ co2).trans co2.symm⟩⟩ (fun jj σ Hc _ hp => by obtain ⟨_, _, _, _, h, _⟩ := hp; exact SqL.of h) ?_ ?_
    · rintro jj v2 σ Hq' hjj ⟨y21, rfl, sq, tq, hpq', q1, q2⟩
      match jj, hjj with
      | 0, hjj =>
        cases hjj
        obtain ⟨r1, r1c⟩ := q1 rfl
        obtain ⟨r2, r2c⟩ := q2 (by decide)
        have r1 := r1.trans at12
        refine ⟨_, rfl, f1, c1, _, _, _, fun E => tCall (spPRW K CK CW) [] E (tCons (tVar 13) (tCons (tVar 11) (tCons (tC .non) tNil))), ⟨LamX.lamS_by (show LamX.lamSB (defScope s_law) _ = true by decide +kernel), fun _ _ _ _ _ => rfl, fun A outer s H E f c' hr => pe_okX h_pair_row (passes_call (takes_of rfl rfl rfl rfl) fun _ _ _ _ h => h) (hr.mono (by decide)) (by rfl) (pa_cons (pv 13) (pa_cons (pv 11) (pa_cons pe_non pa_nil)))⟩, rfl, r1, r1c.trans co12, m1, ?_⟩
        refine ⟨_, rfl, _, rfl, ?_⟩
        dsimp only [tCons, tC, tNil]
        have sd := same_del sq g1
        refine prw_bad (K := K) sd B7 hbN hvN .non off2 trivial (by rw [off1]; rfl) fun G' H' n => ⟨true, xW, fun _ ae hae => ?_, fun z => nomatch z⟩
        have sE := same_upd (o := ErrO (.ref CW) none ae) hae
        have keep := n.hh.trans sE
        refine isc_yes EW kW upd_same ⟨true, rfl, if_off rfl (nx_of ⟨_, rfl, (same_del sq g1).trans keep, tabs_same (tabs_del tq r1) keep, keep _ _ ((delH_ne (ne_of hpq' r1 fun z => nomatch z)).trans hpq'), (fun z => absurd z (by decide)), fun _ => ⟨(keep _ _ ((delH_ne (Ne.symm n12)).trans (r2.trans at2))).trans at2.symm, (keep _ _ ((delH_ne m21).trans (r2c.trans co2))).trans co2.symm⟩⟩)⟩
      | 1, hjj =>
        cases hjj
        obtain ⟨r2, r2c⟩ := q2 (by decide)
        have r2 := r2.trans at2
        refine ⟨_, rfl, f2, c2, _, _, _, fun E => tCall (spPRW K CK CW) [] E (tCons (tVar 13) (tCons (tTup tNil) (tCons (tVar 11) tNil))), ⟨LamX.lamS_by (show LamX.lamSB (defScope s_law) _ = true by decide +kernel), fun _ _ _ _ _ => rfl, fun A outer s H E f c' hr => pe_okX h_pair_row (passes_call (takes_of rfl rfl rfl rfl) fun _ _ _ _ h => h) (hr.mono (by decide)) (by rfl) (pa_cons (pv 13) (pa_cons (pe_tup pa_nil) (pa_cons (pv 11) pa_nil)))⟩, rfl, r2, r2c.trans co2, m2, ?_⟩
        refine ⟨_, rfl, Nat.zero_le _, fun t0 ht0 => ⟨_, rfl, ?_⟩⟩
        dsimp only [tCons, tC, tNil]
        have sd0 := same_del sq g2
        have s0 := same_upd (o := .tup []) (sd0.free ht0)
        refine prw_bad (K := K) (G := upd (noT H30) t0 (.tup [])) (x1 := .tuple []) (fun a o e => by
          by_cases hq : a = t0
          · subst hq; rw [upd_same] at e; rw [upd_same]; exact e
          · rw [upd_ne hq] at e; rw [upd_ne hq]; exact sd0 a o e) B7 (dp_mono s0 _ hbN) (.tup (SqT.of upd_same) .nil) (dp_mono s0 _ hvN) (Nat.zero_le _) off2 (by rw [off1, Bool.and_false]) fun G' H' n => ⟨true, xW, fun _ ae hae => ?_, fun z => nomatch z⟩
        have sE := same_upd (o := ErrO (.ref CW) none ae) hae
        have keep := (same_upd (o := .tup []) ht0).trans (n.hh.trans sE)
        refine isc_yes EW kW upd_same ⟨true, rfl, if_off rfl (nx_of ⟨_, rfl, (same_del sq g2).trans keep, tabs_same (tabs_del tq r2) keep, keep _ _ ((delH_ne (ne_of hpq' r2 fun z => nomatch z)).trans hpq'), (fun z => absurd z (by decide)), (fun z => absurd z (by decide))⟩)⟩
      | jj + 2, hjj => cases hjj
    rintro σ H40 ⟨y21, rfl, s40, T40, _⟩
    have D40 : Drw H40 d l c := D30.noT.same s40
    clear hvN hbN s31 s32 s35 g1 g2 at12 co12 at1 co1 at2 co2 hf1 hf2 e31 e32 t31 t32 T30 s40
    -- what is no back
    refine ⟨T40, fun f1 c1 H41 e41 t41 hf1 at1 co1 => ⟨t41, fun f2 c2 H42 e42 t42 hf2 at2 co2 => ⟨by show 2 ≤ sizeLine; omega, fun pq hpq => ⟨pq, rfl, ⟨_, SqL.of upd_same⟩, ?_⟩⟩⟩⟩
    have s41 := noT_ext noT_same e41
    have s42 := noT_ext s41 e42
    have s45 := same_upd (o := .lst [.ref f1, .ref f2]) hpq
    have g1 : noT H40 f1 = none := noT_none hf1
    have g2 : noT H40 f2 = none := s41.free hf2
    have at12 := e42 _ _ at1 (fun _ z => nomatch z)
    have co12 := e42 _ _ co1 (fun _ z => nomatch z)
    have n12' : f1 ≠ f2 := ne_of_none at1 hf2
    have m1' := code_ne at12 co12
    have m2' := code_ne at2 co2
    have m21' : c2 ≠ f1 := code_ne at12 co2
    refine for_list (K := K) (a := pq) (xs := [.ref f1, .ref f2]) (fun jj σ Hc => ∃ y21, σ = [some (.ref a), some (.ref d), some (.int (0 + (i : Int))), some (.int (L : Int)), some (.int (m : Int)), some _, some _, some (.ref g), z8, some (.ref p9), some (.ref ar), some v11, y12', some (.ref b), some (.ref w1), some (.ref w2), some (.int (sp : Int)), some (.int (bs.length : Int)), some v18, y19, y20, y21, z22, z23] ∧ Same (noT H40) Hc ∧ Tabs [(Pt, (cxOf CX0 P w K mg base N_law "law" (defScope s_law) f (.ref c0) callerA [] s H E0).nox.env.qual ++ "<lambda>")] Hc ∧ Hc pq = some (.lst [.ref f1, .ref f2]) ∧
      (jj = 0 → Hc f1 = H42 f1 ∧ Hc c1 = H42 c1) ∧ (jj ≤ 1 → Hc f2 = H42 f2 ∧ Hc c2 = H42 c2))
      ⟨_, rfl, s42.trans s45, tabs_same t42 s45, upd_same, fun _ => ⟨(s45 _ _ at12).trans at12.symm, (s45 _ _ co12).trans co12.symm⟩, fun _ => ⟨(s45 _ _ at2).trans at2.symm, (s45 _ _ co2).trans co2.symm⟩⟩ (fun jj σ Hc _ hp => by obtain ⟨_, _, _, _, h, _⟩ := hp; exact SqL.of h) ?_ ?_
    · rintro jj v2 σ Hq' hjj ⟨y21, rfl, sq, tq, hpq', q1, q2⟩
      match jj, hjj with
      | 0, hjj =>
        cases hjj
        obtain ⟨r1, r1c⟩ := q1 rfl
        obtain ⟨r2, r2c⟩ := q2 (by decide)
        have r1 := r1.trans at12
        refine ⟨_, rfl, f1, c1, _, _, _, fun E => tCall (spPRW K CK CW) [] E (tCons (tC .non) (tCons (tC .non) (tCons (tC .non) tNil))), ⟨LamX.lamS_by (show LamX.lamSB (defScope s_law) _ = true by decide +kernel), fun _ _ _ _ _ => rfl, fun A outer s H E f c' hr => pe_okX h_pair_row (passes_call (takes_of rfl rfl rfl rfl) fun _ _ _ _ h => h) (hr.mono (by decide)) (by rfl) (pa_cons pe_non (pa_cons pe_non (pa_cons pe_non pa_nil)))⟩, rfl, r1, r1c.trans co12, m1', ?_⟩
        dsimp only [TTc, tCall, tCons, tC, tNil]
        have sd := same_del sq g1
        refine prw_back (K := K) sd fun G' H' n => ⟨true, xK, fun _ ae hae => ?_, fun z => nomatch z⟩
        have sE := same_upd (o := ErrO (.ref CK) none ae) hae
        have keep := n.hh.trans sE
        refine isc_yes EK kK upd_same ⟨true, rfl, if_off rfl (nx_of ⟨_, rfl, (same_del sq g1).trans keep, tabs_same (tabs_del tq r1) keep, keep _ _ ((delH_ne (ne_of hpq' r1 fun z => nomatch z)).trans hpq'), (fun z => absurd z (by decide)), fun _ => ⟨(keep _ _ ((delH_ne (Ne.symm n12')).trans (r2.trans at2))).trans at2.symm, (keep _ _ ((delH_ne m21').trans (r2c.trans co2))).trans co2.symm⟩⟩)⟩
      | 1, hjj =>
        cases hjj
        obtain ⟨r2, r2c⟩ := q2 (by decide)
        have r2 := r2.trans at2
        refine ⟨_, rfl, f2, c2, _, _, _, fun E => tCall (spWO K CK CW) [] E (tCons (tTup (tCons (tC (.int 0)) tNil)) (tCons (tC .non) tNil)), ⟨LamX.lamS_by (show LamX.lamSB (defScope s_law) _ = true by decide +kernel), fun _ _ _ _ _ => rfl, fun A outer s H E f c' hr => pe_okX h_words_of (passes_call (takes_of rfl rfl rfl rfl) fun _ _ _ _ h => h) (hr.mono (by decide)) (by rfl) (pa_cons (pe_tup (pa_cons pe_int pa_nil)) (pa_cons pe_non pa_nil))⟩, rfl, r2, r2c.trans co2, m2', ?_⟩
        refine ⟨by show 1 ≤ sizeLine; omega, fun t0 ht0 => ?_⟩
        dsimp only [tCall, tCons, tC, tNil]
        have sd0 := same_del sq g2
        refine wo_back (K := K) (G := upd (noT H40) t0 (.tup [.int 0])) (fun a o e => by
          by_cases hq : a = t0
          · subst hq; rw [upd_same] at e; rw [upd_same]; exact e
          · rw [upd_ne hq] at e; rw [upd_ne hq]; exact sd0 a o e) (.tup (SqT.of upd_same) (.cons (.int 0) .nil)) fun G' H' n => ⟨true, xK, fun _ ae hae => ?_, fun z => nomatch z⟩
        have sE := same_upd (o := ErrO (.ref CK) none ae) hae
        have keep := (same_upd (o := .tup [.int 0]) ht0).trans (n.hh.trans sE)
        refine isc_yes EK kK upd_same ⟨true, rfl, if_off rfl (nx_of ⟨_, rfl, (same_del sq g2).trans keep, tabs_same (tabs_del tq r2) keep, keep _ _ ((delH_ne (ne_of hpq' r2 fun z => nomatch z)).trans hpq'), (fun z => absurd z (by decide)), (fun z => absurd z (by decide))⟩)⟩
      | jj + 2, hjj => cases hjj
    rintro σ H50 ⟨y21, rfl, s50, T50, _⟩
    exact ⟨_, _, _, _, _, _, _, _, _, _, _, _, _, _, _, _, _, _, _, _, _, _, rfl, D40.noT.same s50, T50⟩
  · obtain ⟨z2, z3, z4, z5, z6, z7, z8, z9, z10, z11, z12, z13, z14, z15, z16, z17, z18, z19, z20, z21, z22, z23, rfl, Dc, Tc⟩ := hP
    have one1 : 1 ≤ sizeLine := by omega
    have M14 := oneS_ok (n := 14) (es := [0]) (by decide) (by decide) (.inr rfl)
    have M15 := oneS_ok (n := 15) (es := []) (by decide) (by decide) (.inl rfl)
    -- wide, great
    refine seq_letM (K := K) (CG := CG) (G := Hc) (L := 14) (ws := oneS 14) (es := [0]) (em_make ed_int (ed_lst (ea_cons (EvN.toD (en_rep (k := 14) (en_lst (ea_cons ed_int ea_nil) one1) (by decide) (by decide) (by decide))) ea_nil) one1) (ed_lst (ea_cons ed_int ea_nil) one1) M14) (Same.refl _) fun gw G1 H1' n1 hgw => ?_
    refine seq_letM (K := K) (CG := CG) (G := G1) (L := 15) (ws := oneS 15) (es := []) (em_make ed_int (ed_lst (ea_cons (EvN.toD (en_rep (k := 15) (en_lst (ea_cons ed_int ea_nil) one1) (by decide) (by decide) (by decide))) ea_nil) one1) (ed_lst ea_nil (Nat.zero_le _)) M15) n1.gh fun gg G2 H2 n2 hgg => ?_
    have m12 := n1.trans n2
    have hgw2 := hgw.mono n2.gg
    refine seq_chk (K := K) (G := G2) (EvB.cast (eb_test (ed_op (ed_cb (ea_cons (ed_ru (i := 22) (m := 3) rfl hgw2 M14 ed_int (by decide) (fun k hk => wide_led hk)) ea_nil) rcl_lenL) (ed_op (ed_op (ed_op ed_int ed_int ro_i) ed_int ro_i) ed_int ro_i) ro_neI)) (by rw [List.length_map, wide_len]; rfl)) n2.gh fun G3 H3 n3 => ?_
    have m13 := m12.trans n3
    have hgg3 := hgg.mono n3.gg
    have T3 := tabs_same Tc m13.hh
    -- caught
    refine ⟨T3, fun H4 e4 t4 => ⟨_, rfl, ?_⟩⟩
    dsimp only [tCons, tC, tNil]
    have s4 := noT_ext (noT_same.trans n3.gh) e4
    refine ru_many (K := K) (CG := CG) (m := 3) s4 hgg3.noT M15 (.int 3) (by decide) great_led fun d5 H5 sm5 hd5 => ⟨true, xM, fun _ ae hae => ?_, fun z => nomatch z⟩
    have sE := same_upd (o := ErrO (.ref CM) (some d5) ae) hae
    have eae : upd H5 ae (ErrO (.ref CM) (some d5) ae) ae = some (ErrO (.ref CM) (some d5) ae) := upd_same
    have ed5 := sE _ _ hd5
    have hgE : MacAt K CG (upd H5 ae (ErrO (.ref CM) (some d5) ae)) gg 15 (oneS 15) [] := hgg3.noT.mono ((s4.trans sm5).trans sE)
    generalize upd H5 ae (ErrO (.ref CM) (some d5) ae) = H6 at eae ed5 hgE
    refine (rd_ret (K := K) (G := H6) (d := .bool true) (EvD.cast (ed_and (a := true) (ed_isc2d (j := 12) rfl eae ed5 EM kM) fun _ => ed_and (a := true) (EvD.cast (ed_op (ed_errI (j := 12) rfl eae ed5) ed_int ro_eqI) rfl) fun _ => EvD.cast (ed_op (ed_ru (i := 23) (m := 2) rfl hgE M15 ed_int (by decide) (fun k hk => great_led2 hk)) (ed_lst ea_nil (Nat.zero_le _)) (ro_eqD (shaped_rowsN _) (by decide))) (by rw [great_none]; rfl)) rfl)) H6 (Same.refl _) _ fun v G7 H7 n7 hd => ?_
    exact dp_bl hd
end Gw
namespace Gw
open PySem PySem.Spec PyProof.Rows PySem.HandSPX L2 LamX
/-! ### what the top has written, the head -/
theorem all_mk {l : PySem.W.OpenLaw} {w : World} {K : PySem.W.Frag} {h : Heap} {mg : Str → Option Value} {fa : Addr} {ts : List Addr} (X : K.In h) (G : h.Ns mainGlobals mg) (hfa : mg "law" = some (.ref fa))
    {C_GroupError : Addr}
    {C_BadMachine : Addr}
    {nm_BadMachine q_BadMachine : Str} {N_BadMachine fI_BadMachine cda_BadMachine cc_BadMachine : Addr} {bs_BadMachine : List Value} {sn_BadMachine : List Str} {sub_BadMachine : List Value} {ab_BadMachine : Bool} {col_BadMachine : Option Bool} {dd_BadMachine : Option Addr} {m0_BadMachine m1_BadMachine m2_BadMachine m3_BadMachine m5_BadMachine : Option Value}
    {oi_BadMachine : Value} {odi_BadMachine : Option Addr} {doci_BadMachine pmi_BadMachine : Value} {ani_BadMachine : Option Addr} {cti_BadMachine : Value} {osli_BadMachine : Array (Option Value)} {ccl_BadMachine ccv_BadMachine : Value} {cdd_BadMachine cld_BadMachine : Option Addr} {vsi_BadMachine : Array Value} {ccs_BadMachine csl_BadMachine : Array (Option Value)} {file_BadMachine : Str} {tf_BadMachine : Tok}
    {C_BadNumber : Addr}
    {nm_BadNumber q_BadNumber : Str} {N_BadNumber fI_BadNumber cda_BadNumber cc_BadNumber : Addr} {bs_BadNumber : List Value} {sn_BadNumber : List Str} {sub_BadNumber : List Value} {ab_BadNumber : Bool} {col_BadNumber : Option Bool} {dd_BadNumber : Option Addr} {m0_BadNumber m1_BadNumber m2_BadNumber m3_BadNumber m5_BadNumber : Option Value}
    {oi_BadNumber : Value} {odi_BadNumber : Option Addr} {doci_BadNumber pmi_BadNumber : Value} {ani_BadNumber : Option Addr} {cti_BadNumber : Value} {osli_BadNumber : Array (Option Value)} {ccl_BadNumber ccv_BadNumber : Value} {cdd_BadNumber cld_BadNumber : Option Addr} {vsi_BadNumber : Array Value} {ccs_BadNumber csl_BadNumber : Array (Option Value)} {file_BadNumber : Str} {tf_BadNumber : Tok}
    {C_TooMany : Addr}
    {nm_TooMany q_TooMany : Str} {N_TooMany fI_TooMany cda_TooMany cc_TooMany : Addr} {bs_TooMany : List Value} {sn_TooMany : List Str} {sub_TooMany : List Value} {ab_TooMany : Bool} {col_TooMany : Option Bool} {dd_TooMany : Option Addr} {m0_TooMany m1_TooMany m2_TooMany m3_TooMany m5_TooMany : Option Value}
    {oi_TooMany : Value} {odi_TooMany : Option Addr} {doci_TooMany pmi_TooMany : Value} {ani_TooMany : Option Addr} {cti_TooMany : Value} {osli_TooMany : Array (Option Value)} {ccl_TooMany ccv_TooMany : Value} {cdd_TooMany cld_TooMany : Option Addr} {vsi_TooMany : Array Value} {ccs_TooMany csl_TooMany : Array (Option Value)} {file_TooMany : Str} {tf_TooMany : Tok}
    {C_BadWord : Addr}
    {C_BadBack : Addr}
    {C_Machine : Addr}
    {g_Machineinit : Addr} {od_Machineinit an_Machineinit : Option Addr} {sl_Machineinit : Array (Option Value)} {oc_Machineinit kV_Machineinit dc_Machineinit pm_Machineinit cd_Machineinit ct_Machineinit : Value}
    {g_Machineeq : Addr} {od_Machineeq an_Machineeq : Option Addr} {sl_Machineeq : Array (Option Value)} {oc_Machineeq kV_Machineeq dc_Machineeq pm_Machineeq cd_Machineeq ct_Machineeq : Value}
    {f0 : Addr} {od0 an0 : Option Addr} {sl0 : Array (Option Value)} {oc0 kV0 dc0 pm0 cd0 ct0 : Value}
    {f1 : Addr} {od1 an1 : Option Addr} {sl1 : Array (Option Value)} {oc1 kV1 dc1 pm1 cd1 ct1 : Value}
    {f2 : Addr} {od2 an2 : Option Addr} {sl2 : Array (Option Value)} {oc2 kV2 dc2 pm2 cd2 ct2 : Value}
    {f3 : Addr} {od3 an3 : Option Addr} {sl3 : Array (Option Value)} {oc3 kV3 dc3 pm3 cd3 ct3 : Value}
    {f4 : Addr} {od4 an4 : Option Addr} {sl4 : Array (Option Value)} {oc4 kV4 dc4 pm4 cd4 ct4 : Value}
    {f5 : Addr} {od5 an5 : Option Addr} {sl5 : Array (Option Value)} {oc5 kV5 dc5 pm5 cd5 ct5 : Value}
    {f6 : Addr} {od6 an6 : Option Addr} {sl6 : Array (Option Value)} {oc6 kV6 dc6 pm6 cd6 ct6 : Value}
    {f7 : Addr} {od7 an7 : Option Addr} {sl7 : Array (Option Value)} {oc7 kV7 dc7 pm7 cd7 ct7 : Value}
    {f8 : Addr} {od8 an8 : Option Addr} {sl8 : Array (Option Value)} {oc8 kV8 dc8 pm8 cd8 ct8 : Value}
    {f9 : Addr} {od9 an9 : Option Addr} {sl9 : Array (Option Value)} {oc9 kV9 dc9 pm9 cd9 ct9 : Value}
    {f10 : Addr} {od10 an10 : Option Addr} {sl10 : Array (Option Value)} {oc10 kV10 dc10 pm10 cd10 ct10 : Value}
    {f11 : Addr} {od11 an11 : Option Addr} {sl11 : Array (Option Value)} {oc11 kV11 dc11 pm11 cd11 ct11 : Value}
    {f12 : Addr} {od12 an12 : Option Addr} {sl12 : Array (Option Value)} {oc12 kV12 dc12 pm12 cd12 ct12 : Value}
    {f13 : Addr} {od13 an13 : Option Addr} {sl13 : Array (Option Value)} {oc13 kV13 dc13 pm13 cd13 ct13 : Value}
    {f14 : Addr} {od14 an14 : Option Addr} {sl14 : Array (Option Value)} {oc14 kV14 dc14 pm14 cd14 ct14 : Value}
    {f15 : Addr} {od15 an15 : Option Addr} {sl15 : Array (Option Value)} {oc15 kV15 dc15 pm15 cd15 ct15 : Value}
    {f16 : Addr} {od16 an16 : Option Addr} {sl16 : Array (Option Value)} {oc16 kV16 dc16 pm16 cd16 ct16 : Value}
    {f17 : Addr} {od17 an17 : Option Addr} {sl17 : Array (Option Value)} {oc17 kV17 dc17 pm17 cd17 ct17 : Value}
    {f18 : Addr} {od18 an18 : Option Addr} {sl18 : Array (Option Value)} {oc18 kV18 dc18 pm18 cd18 ct18 : Value}
    {f19 : Addr} {od19 an19 : Option Addr} {sl19 : Array (Option Value)} {oc19 kV19 dc19 pm19 cd19 ct19 : Value}
    {f20 : Addr} {od20 an20 : Option Addr} {sl20 : Array (Option Value)} {oc20 kV20 dc20 pm20 cd20 ct20 : Value}
    {f21 : Addr} {od21 an21 : Option Addr} {sl21 : Array (Option Value)} {oc21 kV21 dc21 pm21 cd21 ct21 : Value}
    {f22 : Addr} {od22 an22 : Option Addr} {sl22 : Array (Option Value)} {oc22 kV22 dc22 pm22 cd22 ct22 : Value}
    {f23 : Addr} {od23 an23 : Option Addr} {sl23 : Array (Option Value)} {oc23 kV23 dc23 pm23 cd23 ct23 : Value}
    {f24 : Addr} {od24 an24 : Option Addr} {sl24 : Array (Option Value)} {oc24 kV24 dc24 pm24 cd24 ct24 : Value}
    {f25 : Addr} {od25 an25 : Option Addr} {sl25 : Array (Option Value)} {oc25 kV25 dc25 pm25 cd25 ct25 : Value}
    {f26 : Addr} {od26 an26 : Option Addr} {sl26 : Array (Option Value)} {oc26 kV26 dc26 pm26 cd26 ct26 : Value}
    {f27 : Addr} {od27 an27 : Option Addr} {sl27 : Array (Option Value)} {oc27 kV27 dc27 pm27 cd27 ct27 : Value}
    {f28 : Addr} {od28 an28 : Option Addr} {sl28 : Array (Option Value)} {oc28 kV28 dc28 pm28 cd28 ct28 : Value}
    {f29 : Addr} {od29 an29 : Option Addr} {sl29 : Array (Option Value)} {oc29 kV29 dc29 pm29 cd29 ct29 : Value}
    {f30 : Addr} {od30 an30 : Option Addr} {sl30 : Array (Option Value)} {oc30 kV30 dc30 pm30 cd30 ct30 : Value}
    {f31 : Addr} {od31 an31 : Option Addr} {sl31 : Array (Option Value)} {oc31 kV31 dc31 pm31 cd31 ct31 : Value}
    {f32 : Addr} {od32 an32 : Option Addr} {sl32 : Array (Option Value)} {oc32 kV32 dc32 pm32 cd32 ct32 : Value}
    {f33 cL Pt : Addr} {od33 an33 ddT : Option Addr} {sl33 slT : Array (Option Value)} {oc33 kV33 dc33 pm33 ct33 eT : Value} {vsT : Array Value}
    {t_MOST_BACK : Tok}
    {t_MOST_READ : Tok}
    {t_MOST_STATES : Tok}
    {t_MOST_ROWS : Tok}
    (a0 : PySem.W.nsIn K mainGlobals "is_number" = some (some (.ref f0)))
    (l0 : K.lookup f0 = some ⟨oc0, od0, .func (PySem.W.fnOf "is_number" "is_number" (defArgs s_is_number) (defBody s_is_number) (defScope s_is_number) .none kV0 dc0 pm0 an0 cd0 ct0), sl0⟩)
    (c0 : PySem.W.codeIn K cd0 "is_number" = true)
    (k0 : PySem.W.keepIn K (.ref f0) = true)
    (a1 : PySem.W.nsIn K mainGlobals "is_number_in" = some (some (.ref f1)))
    (l1 : K.lookup f1 = some ⟨oc1, od1, .func (PySem.W.fnOf "is_number_in" "is_number_in" (defArgs s_is_number_in) (defBody s_is_number_in) (defScope s_is_number_in) .none kV1 dc1 pm1 an1 cd1 ct1), sl1⟩)
    (c1 : PySem.W.codeIn K cd1 "is_number_in" = true)
    (k1 : PySem.W.keepIn K (.ref f1) = true)
    (a2 : PySem.W.nsIn K mainGlobals "is_list" = some (some (.ref f2)))
    (l2 : K.lookup f2 = some ⟨oc2, od2, .func (PySem.W.fnOf "is_list" "is_list" (defArgs s_is_list) (defBody s_is_list) (defScope s_is_list) .none kV2 dc2 pm2 an2 cd2 ct2), sl2⟩)
    (c2 : PySem.W.codeIn K cd2 "is_list" = true)
    (k2 : PySem.W.keepIn K (.ref f2) = true)
    (a3 : PySem.W.nsIn K mainGlobals "is_row" = some (some (.ref f3)))
    (l3 : K.lookup f3 = some ⟨oc3, od3, .func (PySem.W.fnOf "is_row" "is_row" (defArgs s_is_row) (defBody s_is_row) (defScope s_is_row) .none kV3 dc3 pm3 an3 cd3 ct3), sl3⟩)
    (c3 : PySem.W.codeIn K cd3 "is_row" = true)
    (k3 : PySem.W.keepIn K (.ref f3) = true)
    (a4 : PySem.W.nsIn K mainGlobals "is_back" = some (some (.ref f4)))
    (l4 : K.lookup f4 = some ⟨oc4, od4, .func (PySem.W.fnOf "is_back" "is_back" (defArgs s_is_back) (defBody s_is_back) (defScope s_is_back) .none kV4 dc4 pm4 an4 cd4 ct4), sl4⟩)
    (c4 : PySem.W.codeIn K cd4 "is_back" = true)
    (k4 : PySem.W.keepIn K (.ref f4) = true)
    (a5 : PySem.W.nsIn K mainGlobals "want_back" = some (some (.ref f5)))
    (l5 : K.lookup f5 = some ⟨oc5, od5, .func (PySem.W.fnOf "want_back" "want_back" (defArgs s_want_back) (defBody s_want_back) (defScope s_want_back) .none kV5 dc5 pm5 an5 cd5 ct5), sl5⟩)
    (c5 : PySem.W.codeIn K cd5 "want_back" = true)
    (k5 : PySem.W.keepIn K (.ref f5) = true)
    (a6 : PySem.W.nsIn K mainGlobals "want_letters" = some (some (.ref f6)))
    (l6 : K.lookup f6 = some ⟨oc6, od6, .func (PySem.W.fnOf "want_letters" "want_letters" (defArgs s_want_letters) (defBody s_want_letters) (defScope s_want_letters) .none kV6 dc6 pm6 an6 cd6 ct6), sl6⟩)
    (c6 : PySem.W.codeIn K cd6 "want_letters" = true)
    (k6 : PySem.W.keepIn K (.ref f6) = true)
    (a7 : PySem.W.nsIn K mainGlobals "row_of_pair" = some (some (.ref f7)))
    (l7 : K.lookup f7 = some ⟨oc7, od7, .func (PySem.W.fnOf "row_of_pair" "row_of_pair" (defArgs s_row_of_pair) (defBody s_row_of_pair) (defScope s_row_of_pair) .none kV7 dc7 pm7 an7 cd7 ct7), sl7⟩)
    (c7 : PySem.W.codeIn K cd7 "row_of_pair" = true)
    (k7 : PySem.W.keepIn K (.ref f7) = true)
    (a8 : PySem.W.nsIn K mainGlobals "pair_row" = some (some (.ref f8)))
    (l8 : K.lookup f8 = some ⟨oc8, od8, .func (PySem.W.fnOf "pair_row" "pair_row" (defArgs s_pair_row) (defBody s_pair_row) (defScope s_pair_row) .none kV8 dc8 pm8 an8 cd8 ct8), sl8⟩)
    (c8 : PySem.W.codeIn K cd8 "pair_row" = true)
    (k8 : PySem.W.keepIn K (.ref f8) = true)
    (a9 : PySem.W.nsIn K mainGlobals "pair_of_row" = some (some (.ref f9)))
    (l9 : K.lookup f9 = some ⟨oc9, od9, .func (PySem.W.fnOf "pair_of_row" "pair_of_row" (defArgs s_pair_of_row) (defBody s_pair_of_row) (defScope s_pair_of_row) .none kV9 dc9 pm9 an9 cd9 ct9), sl9⟩)
    (c9 : PySem.W.codeIn K cd9 "pair_of_row" = true)
    (k9 : PySem.W.keepIn K (.ref f9) = true)
    (a10 : PySem.W.nsIn K mainGlobals "is_row_of_pair" = some (some (.ref f10)))
    (l10 : K.lookup f10 = some ⟨oc10, od10, .func (PySem.W.fnOf "is_row_of_pair" "is_row_of_pair" (defArgs s_is_row_of_pair) (defBody s_is_row_of_pair) (defScope s_is_row_of_pair) .none kV10 dc10 pm10 an10 cd10 ct10), sl10⟩)
    (c10 : PySem.W.codeIn K cd10 "is_row_of_pair" = true)
    (k10 : PySem.W.keepIn K (.ref f10) = true)
    (a11 : PySem.W.nsIn K mainGlobals "words_of" = some (some (.ref f11)))
    (l11 : K.lookup f11 = some ⟨oc11, od11, .func (PySem.W.fnOf "words_of" "words_of" (defArgs s_words_of) (defBody s_words_of) (defScope s_words_of) .none kV11 dc11 pm11 an11 cd11 ct11), sl11⟩)
    (c11 : PySem.W.codeIn K cd11 "words_of" = true)
    (k11 : PySem.W.keepIn K (.ref f11) = true)
    (a12 : PySem.W.nsIn K mainGlobals "is_pair_row" = some (some (.ref f12)))
    (l12 : K.lookup f12 = some ⟨oc12, od12, .func (PySem.W.fnOf "is_pair_row" "is_pair_row" (defArgs s_is_pair_row) (defBody s_is_pair_row) (defScope s_is_pair_row) .none kV12 dc12 pm12 an12 cd12 ct12), sl12⟩)
    (c12 : PySem.W.codeIn K cd12 "is_pair_row" = true)
    (k12 : PySem.W.keepIn K (.ref f12) = true)
    (a13 : PySem.W.nsIn K mainGlobals "is_way" = some (some (.ref f13)))
    (l13 : K.lookup f13 = some ⟨oc13, od13, .func (PySem.W.fnOf "is_way" "is_way" (defArgs s_is_way) (defBody s_is_way) (defScope s_is_way) .none kV13 dc13 pm13 an13 cd13 ct13), sl13⟩)
    (c13 : PySem.W.codeIn K cd13 "is_way" = true)
    (k13 : PySem.W.keepIn K (.ref f13) = true)
    (a14 : PySem.W.nsIn K mainGlobals "are_ways" = some (some (.ref f14)))
    (l14 : K.lookup f14 = some ⟨oc14, od14, .func (PySem.W.fnOf "are_ways" "are_ways" (defArgs s_are_ways) (defBody s_are_ways) (defScope s_are_ways) .none kV14 dc14 pm14 an14 cd14 ct14), sl14⟩)
    (c14 : PySem.W.codeIn K cd14 "are_ways" = true)
    (k14 : PySem.W.keepIn K (.ref f14) = true)
    (a15 : PySem.W.nsIn K mainGlobals "are_ends" = some (some (.ref f15)))
    (l15 : K.lookup f15 = some ⟨oc15, od15, .func (PySem.W.fnOf "are_ends" "are_ends" (defArgs s_are_ends) (defBody s_are_ends) (defScope s_are_ends) .none kV15 dc15 pm15 an15 cd15 ct15), sl15⟩)
    (c15 : PySem.W.codeIn K cd15 "are_ends" = true)
    (k15 : PySem.W.keepIn K (.ref f15) = true)
    (a16 : PySem.W.nsIn K mainGlobals "want_machine" = some (some (.ref f16)))
    (l16 : K.lookup f16 = some ⟨oc16, od16, .func (PySem.W.fnOf "want_machine" "want_machine" (defArgs s_want_machine) (defBody s_want_machine) (defScope s_want_machine) .none kV16 dc16 pm16 an16 cd16 ct16), sl16⟩)
    (c16 : PySem.W.codeIn K cd16 "want_machine" = true)
    (k16 : PySem.W.keepIn K (.ref f16) = true)
    (a17 : PySem.W.nsIn K mainGlobals "one_number_on" = some (some (.ref f17)))
    (l17 : K.lookup f17 = some ⟨oc17, od17, .func (PySem.W.fnOf "one_number_on" "one_number_on" (defArgs s_one_number_on) (defBody s_one_number_on) (defScope s_one_number_on) .none kV17 dc17 pm17 an17 cd17 ct17), sl17⟩)
    (c17 : PySem.W.codeIn K cd17 "one_number_on" = true)
    (k17 : PySem.W.keepIn K (.ref f17) = true)
    (a18 : PySem.W.nsIn K mainGlobals "rows_up_to" = some (some (.ref f18)))
    (l18 : K.lookup f18 = some ⟨oc18, od18, .func (PySem.W.fnOf "rows_up_to" "rows_up_to" (defArgs s_rows_up_to) (defBody s_rows_up_to) (defScope s_rows_up_to) .none kV18 dc18 pm18 an18 cd18 ct18), sl18⟩)
    (c18 : PySem.W.codeIn K cd18 "rows_up_to" = true)
    (k18 : PySem.W.keepIn K (.ref f18) = true)
    (a19 : PySem.W.nsIn K mainGlobals "_law_begun" = some (some (.ref f19)))
    (l19 : K.lookup f19 = some ⟨oc19, od19, .func (PySem.W.fnOf "_law_begun" "_law_begun" (defArgs s_law_begun) (defBody s_law_begun) (defScope s_law_begun) .none kV19 dc19 pm19 an19 cd19 ct19), sl19⟩)
    (c19 : PySem.W.codeIn K cd19 "_law_begun" = true)
    (k19 : PySem.W.keepIn K (.ref f19) = true)
    (a20 : PySem.W.nsIn K mainGlobals "_law_mixed" = some (some (.ref f20)))
    (l20 : K.lookup f20 = some ⟨oc20, od20, .func (PySem.W.fnOf "_law_mixed" "_law_mixed" (defArgs s_law_mixed) (defBody s_law_mixed) (defScope s_law_mixed) .none kV20 dc20 pm20 an20 cd20 ct20), sl20⟩)
    (c20 : PySem.W.codeIn K cd20 "_law_mixed" = true)
    (k20 : PySem.W.keepIn K (.ref f20) = true)
    (a21 : PySem.W.nsIn K mainGlobals "_law_take" = some (some (.ref f21)))
    (l21 : K.lookup f21 = some ⟨oc21, od21, .func (PySem.W.fnOf "_law_take" "_law_take" (defArgs s_law_take) (defBody s_law_take) (defScope s_law_take) .none kV21 dc21 pm21 an21 cd21 ct21), sl21⟩)
    (c21 : PySem.W.codeIn K cd21 "_law_take" = true)
    (k21 : PySem.W.keepIn K (.ref f21) = true)
    (a22 : PySem.W.nsIn K mainGlobals "_law_pick" = some (some (.ref f22)))
    (l22 : K.lookup f22 = some ⟨oc22, od22, .func (PySem.W.fnOf "_law_pick" "_law_pick" (defArgs s_law_pick) (defBody s_law_pick) (defScope s_law_pick) .none kV22 dc22 pm22 an22 cd22 ct22), sl22⟩)
    (c22 : PySem.W.codeIn K cd22 "_law_pick" = true)
    (k22 : PySem.W.keepIn K (.ref f22) = true)
    (a23 : PySem.W.nsIn K mainGlobals "_law_shuffled" = some (some (.ref f23)))
    (l23 : K.lookup f23 = some ⟨oc23, od23, .func (PySem.W.fnOf "_law_shuffled" "_law_shuffled" (defArgs s_law_shuffled) (defBody s_law_shuffled) (defScope s_law_shuffled) .none kV23 dc23 pm23 an23 cd23 ct23), sl23⟩)
    (c23 : PySem.W.codeIn K cd23 "_law_shuffled" = true)
    (k23 : PySem.W.keepIn K (.ref f23) = true)
    (a24 : PySem.W.nsIn K mainGlobals "_law_is_truth" = some (some (.ref f24)))
    (l24 : K.lookup f24 = some ⟨oc24, od24, .func (PySem.W.fnOf "_law_is_truth" "_law_is_truth" (defArgs s_law_is_truth) (defBody s_law_is_truth) (defScope s_law_is_truth) .none kV24 dc24 pm24 an24 cd24 ct24), sl24⟩)
    (c24 : PySem.W.codeIn K cd24 "_law_is_truth" = true)
    (k24 : PySem.W.keepIn K (.ref f24) = true)
    (a25 : PySem.W.nsIn K mainGlobals "_law_caught" = some (some (.ref f25)))
    (l25 : K.lookup f25 = some ⟨oc25, od25, .func (PySem.W.fnOf "_law_caught" "_law_caught" (defArgs s_law_caught) (defBody s_law_caught) (defScope s_law_caught) .none kV25 dc25 pm25 an25 cd25 ct25), sl25⟩)
    (c25 : PySem.W.codeIn K cd25 "_law_caught" = true)
    (k25 : PySem.W.keepIn K (.ref f25) = true)
    (a26 : PySem.W.nsIn K mainGlobals "_law_back" = some (some (.ref f26)))
    (l26 : K.lookup f26 = some ⟨oc26, od26, .func (PySem.W.fnOf "_law_back" "_law_back" (defArgs s_law_back) (defBody s_law_back) (defScope s_law_back) .none kV26 dc26 pm26 an26 cd26 ct26), sl26⟩)
    (c26 : PySem.W.codeIn K cd26 "_law_back" = true)
    (k26 : PySem.W.keepIn K (.ref f26) = true)
    (a27 : PySem.W.nsIn K mainGlobals "_law_word" = some (some (.ref f27)))
    (l27 : K.lookup f27 = some ⟨oc27, od27, .func (PySem.W.fnOf "_law_word" "_law_word" (defArgs s_law_word) (defBody s_law_word) (defScope s_law_word) .none kV27 dc27 pm27 an27 cd27 ct27), sl27⟩)
    (c27 : PySem.W.codeIn K cd27 "_law_word" = true)
    (k27 : PySem.W.keepIn K (.ref f27) = true)
    (a28 : PySem.W.nsIn K mainGlobals "_law_pairs_read" = some (some (.ref f28)))
    (l28 : K.lookup f28 = some ⟨oc28, od28, .func (PySem.W.fnOf "_law_pairs_read" "_law_pairs_read" (defArgs s_law_pairs_read) (defBody s_law_pairs_read) (defScope s_law_pairs_read) .none kV28 dc28 pm28 an28 cd28 ct28), sl28⟩)
    (c28 : PySem.W.codeIn K cd28 "_law_pairs_read" = true)
    (k28 : PySem.W.keepIn K (.ref f28) = true)
    (a29 : PySem.W.nsIn K mainGlobals "_law_went" = some (some (.ref f29)))
    (l29 : K.lookup f29 = some ⟨oc29, od29, .func (PySem.W.fnOf "_law_went" "_law_went" (defArgs s_law_went) (defBody s_law_went) (defScope s_law_went) .none kV29 dc29 pm29 an29 cd29 ct29), sl29⟩)
    (c29 : PySem.W.codeIn K cd29 "_law_went" = true)
    (k29 : PySem.W.keepIn K (.ref f29) = true)
    (a30 : PySem.W.nsIn K mainGlobals "_law_machine_sketch" = some (some (.ref f30)))
    (l30 : K.lookup f30 = some ⟨oc30, od30, .func (PySem.W.fnOf "_law_machine_sketch" "_law_machine_sketch" (defArgs s_law_machine_sketch) (defBody s_law_machine_sketch) (defScope s_law_machine_sketch) .none kV30 dc30 pm30 an30 cd30 ct30), sl30⟩)
    (c30 : PySem.W.codeIn K cd30 "_law_machine_sketch" = true)
    (k30 : PySem.W.keepIn K (.ref f30) = true)
    (a31 : PySem.W.nsIn K mainGlobals "_law_all" = some (some (.ref f31)))
    (l31 : K.lookup f31 = some ⟨oc31, od31, .func (PySem.W.fnOf "_law_all" "_law_all" (defArgs s_law_all) (defBody s_law_all) (defScope s_law_all) .none kV31 dc31 pm31 an31 cd31 ct31), sl31⟩)
    (c31 : PySem.W.codeIn K cd31 "_law_all" = true)
    (k31 : PySem.W.keepIn K (.ref f31) = true)
    (a32 : PySem.W.nsIn K mainGlobals "_law_is_pair_row" = some (some (.ref f32)))
    (l32 : K.lookup f32 = some ⟨oc32, od32, .func (PySem.W.fnOf "_law_is_pair_row" "_law_is_pair_row" (defArgs s_law_is_pair_row) (defBody s_law_is_pair_row) (defScope s_law_is_pair_row) .none kV32 dc32 pm32 an32 cd32 ct32), sl32⟩)
    (c32 : PySem.W.codeIn K cd32 "_law_is_pair_row" = true)
    (k32 : PySem.W.keepIn K (.ref f32) = true)
    (a33 : PySem.W.nsIn K mainGlobals "law" = some (some (.ref f33)))
    (l33 : K.lookup f33 = some ⟨oc33, od33, .func (PySem.W.fnOf "law" "law" (defArgs s_law) (defBody s_law) (defScope s_law) .none kV33 dc33 pm33 an33 (.ref cL) ct33), sl33⟩)
    (c33 : PySem.W.codeIn K (.ref cL) "law" = true)
    (k33 : PySem.W.keepIn K (.ref f33) = true)
    (lc0 : K.lookup cL = some ⟨eT, ddT, .fields vsT, slT⟩)
    (lt0 : vsT[11]? = some (.ref Pt))
    (ch0 : PySem.W.codeHdIn K cL Pt = true)
    (np0 : K.lookup Pt = none)
    (mt0 : Pt ∈ ts)
    (g_MOST_BACK : PySem.W.nsIn K mainGlobals "MOST_BACK" = some (some (.int 12 t_MOST_BACK)))
    (g_MOST_READ : PySem.W.nsIn K mainGlobals "MOST_READ" = some (some (.int 169 t_MOST_READ)))
    (g_MOST_STATES : PySem.W.nsIn K mainGlobals "MOST_STATES" = some (some (.int 2000 t_MOST_STATES)))
    (g_MOST_ROWS : PySem.W.nsIn K mainGlobals "MOST_ROWS" = some (some (.int 3000 t_MOST_ROWS)))
    (z_len : PySem.W.nsIn K mainGlobals "len" = some none)
    (z_int : PySem.W.nsIn K mainGlobals "int" = some none)
    (z_bool : PySem.W.nsIn K mainGlobals "bool" = some none)
    (z_str : PySem.W.nsIn K mainGlobals "str" = some none)
    (z_list : PySem.W.nsIn K mainGlobals "list" = some none)
    (z_tuple : PySem.W.nsIn K mainGlobals "tuple" = some none)
    (z_dict : PySem.W.nsIn K mainGlobals "dict" = some none)
    (z_isinstance : PySem.W.nsIn K mainGlobals "isinstance" = some none)
    (z_all : PySem.W.nsIn K mainGlobals "all" = some none)
    (z_any : PySem.W.nsIn K mainGlobals "any" = some none)
    (z_abs : PySem.W.nsIn K mainGlobals "abs" = some none)
    (z_min : PySem.W.nsIn K mainGlobals "min" = some none)
    (z_max : PySem.W.nsIn K mainGlobals "max" = some none)
    (z_range : PySem.W.nsIn K mainGlobals "range" = some none)
    (z_enumerate : PySem.W.nsIn K mainGlobals "enumerate" = some none)
    (z_repr : PySem.W.nsIn K mainGlobals "repr" = some none)
    (z_sorted : PySem.W.nsIn K mainGlobals "sorted" = some none)
    (z_super : PySem.W.nsIn K mainGlobals "super" = some none)
    (z_op : PySem.W.nsIn K cStatics "thirdparty.any" = some none)
    (h_top : (l.prog.main.scope.names.lookup ("super" : Str)).isSome = false)
    (xg_GroupError : PySem.W.nsIn K mainGlobals "GroupError" = some (some (.ref C_GroupError)))
    (xb_GroupError : PySem.W.subIn K (.ref C_GroupError) (.type "BaseException") = some true)
    (xt_GroupError : PySem.W.typeIn K (.ref C_GroupError) = some (.type "type"))
    (xd_GroupError : PySem.W.hasDictIn K C_GroupError = true)
    (xg_BadMachine : PySem.W.nsIn K mainGlobals "BadMachine" = some (some (.ref C_BadMachine)))
    (xb_BadMachine : PySem.W.subIn K (.ref C_BadMachine) (.type "BaseException") = some true)
    (xt_BadMachine : PySem.W.typeIn K (.ref C_BadMachine) = some (.type "type"))
    (xd_BadMachine : PySem.W.hasDictIn K C_BadMachine = true)
    (xx_BadMachine : K.lookup C_BadMachine = some (excClassObj nm_BadMachine q_BadMachine C_BadMachine N_BadMachine bs_BadMachine [.ref C_GroupError, .type "ValueError", .type "Exception", .type "BaseException", .type "object"] true sn_BadMachine sub_BadMachine ab_BadMachine col_BadMachine dd_BadMachine m0_BadMachine m1_BadMachine m2_BadMachine m3_BadMachine m5_BadMachine "ValueError.__new__"))
    (xk_BadMachine : PySem.W.keepIn K (.ref C_BadMachine) = true)
    (xsa_BadMachine : PySem.W.findIn K (.ref C_BadMachine) "__setattr__" = some (some (.builtin "object.__setattr__")))
    (xa_BadMachine : PySem.W.findIn K (.ref C_BadMachine) "__getattribute__" = some (some (.builtin "BaseException.__getattribute__")))
    (xh_BadMachine : PySem.W.findIn K (.ref C_BadMachine) "__getattr__" = some none)
    (xn_BadMachine : PySem.W.findIn K (.ref C_BadMachine) "part" = some none)
    (xi_BadMachine : PySem.W.findIn K (.ref C_BadMachine) "__init__" = some (some (.ref fI_BadMachine)))
    (xf_BadMachine : PySem.W.typeIn K (.ref fI_BadMachine) = some (.type "function"))
    (xv_BadMachine : PySem.W.subIn K (.ref C_BadMachine) (.type "ValueError") = some true)
    (xo_BadMachine : PySem.W.mroIn K C_BadMachine (.ref C_BadMachine) = some true)
    (xw_BadMachine : PySem.W.ks_superIn K C_BadMachine C_BadMachine "__init__" = some (some (.builtin "ValueError.__init__")))
    (xc_BadMachine : PySem.W.findIn K (.ref C_BadMachine) "__class__" = some (some (.builtin "object.__class__")))
    (xm_BadMachine : PySem.W.mroIn K C_BadMachine (.type "object") = some true)
    (xs_BadMachine : PySem.W.subIn K (.ref C_BadMachine) (.ref C_GroupError) = some true)
    (xl_BadMachine : K.lookup fI_BadMachine = some ⟨oi_BadMachine, odi_BadMachine, .func (PySem.W.ksFn "__init__" "BadMachine.__init__" (PySem.SupX.eA "part" ⟨8, 17, 8, 21⟩ ⟨8, 23, 8, 27⟩) (PySem.SupX.eB "part" "not right for a machine" ⟨9, 8, 9, 13⟩ ⟨9, 8, 9, 15⟩ ⟨9, 8, 9, 24⟩ ⟨9, 25, 9, 50⟩ ⟨9, 8, 9, 51⟩ ⟨9, 8, 9, 51⟩ ⟨10, 8, 10, 12⟩ ⟨10, 8, 10, 17⟩ ⟨10, 20, 10, 24⟩ ⟨10, 8, 10, 24⟩) (PySem.SupX.eS "part") .none .none doci_BadMachine pmi_BadMachine ani_BadMachine (.ref cda_BadMachine) cti_BadMachine cc_BadMachine), osli_BadMachine⟩)
    (xq_BadMachine : PySem.W.codeIn K (.ref cda_BadMachine) "BadMachine.__init__" = true)
    (xcd_BadMachine : K.lookup cda_BadMachine = some ⟨ccl_BadMachine, cdd_BadMachine, .fields vsi_BadMachine, ccs_BadMachine⟩)
    (xfl_BadMachine : vsi_BadMachine[2]? = some (.str file_BadMachine tf_BadMachine))
    (xfe_BadMachine : ((l.prog.main.file : Str) == file_BadMachine) = true)
    (xcc_BadMachine : K.lookup cc_BadMachine = some ⟨ccv_BadMachine, cld_BadMachine, .cell (some (.ref C_BadMachine)), csl_BadMachine⟩)
    (xg_BadNumber : PySem.W.nsIn K mainGlobals "BadNumber" = some (some (.ref C_BadNumber)))
    (xb_BadNumber : PySem.W.subIn K (.ref C_BadNumber) (.type "BaseException") = some true)
    (xt_BadNumber : PySem.W.typeIn K (.ref C_BadNumber) = some (.type "type"))
    (xd_BadNumber : PySem.W.hasDictIn K C_BadNumber = true)
    (xx_BadNumber : K.lookup C_BadNumber = some (excClassObj nm_BadNumber q_BadNumber C_BadNumber N_BadNumber bs_BadNumber [.ref C_GroupError, .type "ValueError", .type "Exception", .type "BaseException", .type "object"] true sn_BadNumber sub_BadNumber ab_BadNumber col_BadNumber dd_BadNumber m0_BadNumber m1_BadNumber m2_BadNumber m3_BadNumber m5_BadNumber "ValueError.__new__"))
    (xk_BadNumber : PySem.W.keepIn K (.ref C_BadNumber) = true)
    (xsa_BadNumber : PySem.W.findIn K (.ref C_BadNumber) "__setattr__" = some (some (.builtin "object.__setattr__")))
    (xa_BadNumber : PySem.W.findIn K (.ref C_BadNumber) "__getattribute__" = some (some (.builtin "BaseException.__getattribute__")))
    (xh_BadNumber : PySem.W.findIn K (.ref C_BadNumber) "__getattr__" = some none)
    (xn_BadNumber : PySem.W.findIn K (.ref C_BadNumber) "part" = some none)
    (xi_BadNumber : PySem.W.findIn K (.ref C_BadNumber) "__init__" = some (some (.ref fI_BadNumber)))
    (xf_BadNumber : PySem.W.typeIn K (.ref fI_BadNumber) = some (.type "function"))
    (xv_BadNumber : PySem.W.subIn K (.ref C_BadNumber) (.type "ValueError") = some true)
    (xo_BadNumber : PySem.W.mroIn K C_BadNumber (.ref C_BadNumber) = some true)
    (xw_BadNumber : PySem.W.ks_superIn K C_BadNumber C_BadNumber "__init__" = some (some (.builtin "ValueError.__init__")))
    (xc_BadNumber : PySem.W.findIn K (.ref C_BadNumber) "__class__" = some (some (.builtin "object.__class__")))
    (xm_BadNumber : PySem.W.mroIn K C_BadNumber (.type "object") = some true)
    (xs_BadNumber : PySem.W.subIn K (.ref C_BadNumber) (.ref C_GroupError) = some true)
    (xl_BadNumber : K.lookup fI_BadNumber = some ⟨oi_BadNumber, odi_BadNumber, .func (PySem.W.ksFn "__init__" "BadNumber.__init__" (PySem.SupX.eA "part" ⟨13, 17, 13, 21⟩ ⟨13, 23, 13, 27⟩) (PySem.SupX.eB "part" "not a number that may stand there" ⟨14, 8, 14, 13⟩ ⟨14, 8, 14, 15⟩ ⟨14, 8, 14, 24⟩ ⟨14, 25, 14, 60⟩ ⟨14, 8, 14, 61⟩ ⟨14, 8, 14, 61⟩ ⟨15, 8, 15, 12⟩ ⟨15, 8, 15, 17⟩ ⟨15, 20, 15, 24⟩ ⟨15, 8, 15, 24⟩) (PySem.SupX.eS "part") .none .none doci_BadNumber pmi_BadNumber ani_BadNumber (.ref cda_BadNumber) cti_BadNumber cc_BadNumber), osli_BadNumber⟩)
    (xq_BadNumber : PySem.W.codeIn K (.ref cda_BadNumber) "BadNumber.__init__" = true)
    (xcd_BadNumber : K.lookup cda_BadNumber = some ⟨ccl_BadNumber, cdd_BadNumber, .fields vsi_BadNumber, ccs_BadNumber⟩)
    (xfl_BadNumber : vsi_BadNumber[2]? = some (.str file_BadNumber tf_BadNumber))
    (xfe_BadNumber : ((l.prog.main.file : Str) == file_BadNumber) = true)
    (xcc_BadNumber : K.lookup cc_BadNumber = some ⟨ccv_BadNumber, cld_BadNumber, .cell (some (.ref C_BadNumber)), csl_BadNumber⟩)
    (xg_TooMany : PySem.W.nsIn K mainGlobals "TooMany" = some (some (.ref C_TooMany)))
    (xb_TooMany : PySem.W.subIn K (.ref C_TooMany) (.type "BaseException") = some true)
    (xt_TooMany : PySem.W.typeIn K (.ref C_TooMany) = some (.type "type"))
    (xd_TooMany : PySem.W.hasDictIn K C_TooMany = true)
    (xx_TooMany : K.lookup C_TooMany = some (excClassObj nm_TooMany q_TooMany C_TooMany N_TooMany bs_TooMany [.ref C_GroupError, .type "ValueError", .type "Exception", .type "BaseException", .type "object"] true sn_TooMany sub_TooMany ab_TooMany col_TooMany dd_TooMany m0_TooMany m1_TooMany m2_TooMany m3_TooMany m5_TooMany "ValueError.__new__"))
    (xk_TooMany : PySem.W.keepIn K (.ref C_TooMany) = true)
    (xsa_TooMany : PySem.W.findIn K (.ref C_TooMany) "__setattr__" = some (some (.builtin "object.__setattr__")))
    (xa_TooMany : PySem.W.findIn K (.ref C_TooMany) "__getattribute__" = some (some (.builtin "BaseException.__getattribute__")))
    (xh_TooMany : PySem.W.findIn K (.ref C_TooMany) "__getattr__" = some none)
    (xn_TooMany : PySem.W.findIn K (.ref C_TooMany) "most" = some none)
    (xi_TooMany : PySem.W.findIn K (.ref C_TooMany) "__init__" = some (some (.ref fI_TooMany)))
    (xf_TooMany : PySem.W.typeIn K (.ref fI_TooMany) = some (.type "function"))
    (xv_TooMany : PySem.W.subIn K (.ref C_TooMany) (.type "ValueError") = some true)
    (xo_TooMany : PySem.W.mroIn K C_TooMany (.ref C_TooMany) = some true)
    (xw_TooMany : PySem.W.ks_superIn K C_TooMany C_TooMany "__init__" = some (some (.builtin "ValueError.__init__")))
    (xc_TooMany : PySem.W.findIn K (.ref C_TooMany) "__class__" = some (some (.builtin "object.__class__")))
    (xm_TooMany : PySem.W.mroIn K C_TooMany (.type "object") = some true)
    (xs_TooMany : PySem.W.subIn K (.ref C_TooMany) (.ref C_GroupError) = some true)
    (xl_TooMany : K.lookup fI_TooMany = some ⟨oi_TooMany, odi_TooMany, .func (PySem.W.ksFn "__init__" "TooMany.__init__" (PySem.SupX.eA "most" ⟨20, 17, 20, 21⟩ ⟨20, 23, 20, 27⟩) (PySem.SupX.eB "most" "more than are let" ⟨21, 8, 21, 13⟩ ⟨21, 8, 21, 15⟩ ⟨21, 8, 21, 24⟩ ⟨21, 25, 21, 44⟩ ⟨21, 8, 21, 45⟩ ⟨21, 8, 21, 45⟩ ⟨22, 8, 22, 12⟩ ⟨22, 8, 22, 17⟩ ⟨22, 20, 22, 24⟩ ⟨22, 8, 22, 24⟩) (PySem.SupX.eS "most") .none .none doci_TooMany pmi_TooMany ani_TooMany (.ref cda_TooMany) cti_TooMany cc_TooMany), osli_TooMany⟩)
    (xq_TooMany : PySem.W.codeIn K (.ref cda_TooMany) "TooMany.__init__" = true)
    (xcd_TooMany : K.lookup cda_TooMany = some ⟨ccl_TooMany, cdd_TooMany, .fields vsi_TooMany, ccs_TooMany⟩)
    (xfl_TooMany : vsi_TooMany[2]? = some (.str file_TooMany tf_TooMany))
    (xfe_TooMany : ((l.prog.main.file : Str) == file_TooMany) = true)
    (xcc_TooMany : K.lookup cc_TooMany = some ⟨ccv_TooMany, cld_TooMany, .cell (some (.ref C_TooMany)), csl_TooMany⟩)
    (xg_BadWord : PySem.W.nsIn K mainGlobals "BadWord" = some (some (.ref C_BadWord)))
    (xb_BadWord : PySem.W.subIn K (.ref C_BadWord) (.type "BaseException") = some true)
    (xt_BadWord : PySem.W.typeIn K (.ref C_BadWord) = some (.type "type"))
    (xd_BadWord : PySem.W.hasDictIn K C_BadWord = true)
    (xx_BadWord : PySem.W.excIn K C_BadWord [.type "ValueError", .type "Exception", .type "BaseException", .type "object"] "ValueError.__new__" = true)
    (xk_BadWord : PySem.W.keepIn K (.ref C_BadWord) = true)
    (xa_BadWord : PySem.W.findIn K (.ref C_BadWord) "__getattribute__" = some (some (.builtin "BaseException.__getattribute__")))
    (xh_BadWord : PySem.W.findIn K (.ref C_BadWord) "__getattr__" = some none)
    (xc_BadWord : PySem.W.findIn K (.ref C_BadWord) "__class__" = some (some (.builtin "object.__class__")))
    (xm_BadWord : PySem.W.mroIn K C_BadWord (.type "object") = some true)
    (xs_BadWord : PySem.W.subIn K (.ref C_BadWord) (.ref C_GroupError) = some true)
    (xg_BadBack : PySem.W.nsIn K mainGlobals "BadBack" = some (some (.ref C_BadBack)))
    (xb_BadBack : PySem.W.subIn K (.ref C_BadBack) (.type "BaseException") = some true)
    (xt_BadBack : PySem.W.typeIn K (.ref C_BadBack) = some (.type "type"))
    (xd_BadBack : PySem.W.hasDictIn K C_BadBack = true)
    (xx_BadBack : PySem.W.excIn K C_BadBack [.type "ValueError", .type "Exception", .type "BaseException", .type "object"] "ValueError.__new__" = true)
    (xk_BadBack : PySem.W.keepIn K (.ref C_BadBack) = true)
    (xa_BadBack : PySem.W.findIn K (.ref C_BadBack) "__getattribute__" = some (some (.builtin "BaseException.__getattribute__")))
    (xh_BadBack : PySem.W.findIn K (.ref C_BadBack) "__getattr__" = some none)
    (xc_BadBack : PySem.W.findIn K (.ref C_BadBack) "__class__" = some (some (.builtin "object.__class__")))
    (xm_BadBack : PySem.W.mroIn K C_BadBack (.type "object") = some true)
    (xs_BadBack : PySem.W.subIn K (.ref C_BadBack) (.ref C_GroupError) = some true)
    (gk1 : PySem.W.specialIn K (.builtin "object.__class__") "__get__" = some (some (.builtin "getset_descriptor.__get__")))
    (gk2 : PySem.W.takesIn K (.builtin "object.__class__") = some true)
    (og_Machine : PySem.W.nsIn K mainGlobals "Machine" = some (some (.ref C_Machine)))
    (op_Machine : PySem.W.plainGet K C_Machine Str.empty = true)
    (od_Machine : PySem.W.hasDictIn K C_Machine = true)
    (oo_Machine : PySem.W.plainOver K C_Machine = true)
    (os_Machine : PySem.W.findIn K (.ref C_Machine) "__setattr__" = some (some (.builtin "object.__setattr__")))
    (om_Machine : PySem.W.makesIn K C_Machine = true)
    (ok_Machine : PySem.W.keepIn K (.ref C_Machine) = true)
    (oi_Machine : PySem.W.isClsIn K C_Machine = true)
    (ot_Machine : PySem.W.typeIn K (.ref C_Machine) = some (.type "type"))
    (oc_Machine : PySem.W.findIn K (.ref C_Machine) "__class__" = some (some (.builtin "object.__class__")))
    (ob_Machine : PySem.W.mroIn K C_Machine (.type "object") = some true)
    (on_Machine : PySem.W.findIn K (.ref C_Machine) "__ne__" = some (some (.builtin "object.__ne__")))
    (ouNoneType_Machine : PySem.W.subIn K (.type "NoneType") (.ref C_Machine) = some false)
    (oubool_Machine : PySem.W.subIn K (.type "bool") (.ref C_Machine) = some false)
    (ouint_Machine : PySem.W.subIn K (.type "int") (.ref C_Machine) = some false)
    (oustr_Machine : PySem.W.subIn K (.type "str") (.ref C_Machine) = some false)
    (oulist_Machine : PySem.W.subIn K (.type "list") (.ref C_Machine) = some false)
    (outuple_Machine : PySem.W.subIn K (.type "tuple") (.ref C_Machine) = some false)
    (oudict_Machine : PySem.W.subIn K (.type "dict") (.ref C_Machine) = some false)
    (ofletters_Machine : PySem.W.findIn K (.ref C_Machine) "letters" = some none)
    (ofways_Machine : PySem.W.findIn K (.ref C_Machine) "ways" = some none)
    (ofends_Machine : PySem.W.findIn K (.ref C_Machine) "ends" = some none)
    (ma_Machineinit : PySem.W.findIn K (.ref C_Machine) "__init__" = some (some (.ref g_Machineinit)))
    (mi_Machineinit : PySem.W.isFn K (.ref g_Machineinit) = true)
    (ml_Machineinit : K.lookup g_Machineinit = some ⟨oc_Machineinit, od_Machineinit, .func (PySem.W.fnOf "__init__" "Machine.__init__" (defArgs s_Machineinit) (defBody s_Machineinit) (defScope s_Machineinit) .none kV_Machineinit dc_Machineinit pm_Machineinit an_Machineinit cd_Machineinit ct_Machineinit), sl_Machineinit⟩)
    (mc_Machineinit : PySem.W.codeIn K cd_Machineinit "Machine.__init__" = true)
    (mk_Machineinit : PySem.W.keepIn K (.ref g_Machineinit) = true)
    (ma_Machineeq : PySem.W.findIn K (.ref C_Machine) "__eq__" = some (some (.ref g_Machineeq)))
    (mi_Machineeq : PySem.W.isFn K (.ref g_Machineeq) = true)
    (ml_Machineeq : K.lookup g_Machineeq = some ⟨oc_Machineeq, od_Machineeq, .func (PySem.W.fnOf "__eq__" "Machine.__eq__" (defArgs s_Machineeq) (defBody s_Machineeq) (defScope s_Machineeq) .none kV_Machineeq dc_Machineeq pm_Machineeq an_Machineeq cd_Machineeq ct_Machineeq), sl_Machineeq⟩)
    (mc_Machineeq : PySem.W.codeIn K cd_Machineeq "Machine.__eq__" = true)
    (mk_Machineeq : PySem.W.keepIn K (.ref g_Machineeq) = true)
    : ∃ c P, P ∈ ts ∧ LawT l.prog w K mg "law" s_law N_law 12 fa c P := by
  have e := hfa.symm.trans (PySem.W.mg_of X G a33)
  cases e
  have T : Bt mg := ⟨PySem.W.mg_none_of X G z_len, PySem.W.mg_none_of X G z_int, PySem.W.mg_none_of X G z_bool, PySem.W.mg_none_of X G z_str, PySem.W.mg_none_of X G z_list, PySem.W.mg_none_of X G z_tuple, PySem.W.mg_none_of X G z_dict, PySem.W.mg_none_of X G z_isinstance, PySem.W.mg_none_of X G z_all, PySem.W.mg_none_of X G z_any, PySem.W.mg_none_of X G z_abs, PySem.W.mg_none_of X G z_min, PySem.W.mg_none_of X G z_max, PySem.W.mg_none_of X G z_range, PySem.W.mg_none_of X G z_enumerate, PySem.W.mg_none_of X G z_repr, PySem.W.mg_none_of X G z_sorted⟩
  have c_MOST_BACK := PySem.W.mg_of X G g_MOST_BACK
  have c_MOST_READ := PySem.W.mg_of X G g_MOST_READ
  have c_MOST_STATES := PySem.W.mg_of X G g_MOST_STATES
  have c_MOST_ROWS := PySem.W.mg_of X G g_MOST_ROWS
  have t_BadMachine : PySem.SupX.SupTxt l.prog K mg "BadMachine" "part" C_BadMachine fI_BadMachine :=
    { gC := PySem.W.mg_of X G xg_BadMachine, cls := ⟨nm_BadMachine, q_BadMachine, N_BadMachine, bs_BadMachine, _, sn_BadMachine, sub_BadMachine, ab_BadMachine, col_BadMachine, dd_BadMachine, m0_BadMachine, m1_BadMachine, m2_BadMachine, m3_BadMachine, m5_BadMachine, xx_BadMachine, rfl⟩, sa := xsa_BadMachine, ga := xa_BadMachine, gg := xh_BadMachine, noN := xn_BadMachine, iC := xi_BadMachine, tC := xf_BadMachine, kC := xk_BadMachine, exC := xb_BadMachine, veC := xv_BadMachine, tyC := xt_BadMachine, hdC := xd_BadMachine, mC := xo_BadMachine, sup := xw_BadMachine, op := z_op, noS := PySem.W.mg_none_of X G z_super, top := h_top, nf := PySem.SupX.fld_part,
      fn := ⟨_, _, _, _, _, cda_BadMachine, _, _, cc_BadMachine, _, _, _, _, _, _, _, _, _, _, _, _, _, _, _, _, _, _, _, _, _, file_BadMachine, _, rfl, xl_BadMachine, xq_BadMachine, xcd_BadMachine, xfl_BadMachine, xfe_BadMachine, xcc_BadMachine⟩ }
  have E_BadMachine : ExcC K C_BadMachine := ⟨xa_BadMachine, xh_BadMachine, xb_BadMachine, xd_BadMachine, xc_BadMachine, gk1, gk2, xm_BadMachine⟩
  have x_BadMachine : PySem.W.exmOne K (.ref C_BadMachine) (.ref C_GroupError) = some true := PySem.W.exm_ref xb_GroupError xd_GroupError xt_GroupError xs_BadMachine
  have y_BadMachine : PySem.W.kitOne K (.ref C_BadMachine) (.ref C_BadMachine) = some true := if_pos (beq_self_eq_true _)
  have t_BadNumber : PySem.SupX.SupTxt l.prog K mg "BadNumber" "part" C_BadNumber fI_BadNumber :=
    { gC := PySem.W.mg_of X G xg_BadNumber, cls := ⟨nm_BadNumber, q_BadNumber, N_BadNumber, bs_BadNumber, _, sn_BadNumber, sub_BadNumber, ab_BadNumber, col_BadNumber, dd_BadNumber, m0_BadNumber, m1_BadNumber, m2_BadNumber, m3_BadNumber, m5_BadNumber, xx_BadNumber, rfl⟩, sa := xsa_BadNumber, ga := xa_BadNumber, gg := xh_BadNumber, noN := xn_BadNumber, iC := xi_BadNumber, tC := xf_BadNumber, kC := xk_BadNumber, exC := xb_BadNumber, veC := xv_BadNumber, tyC := xt_BadNumber, hdC := xd_BadNumber, mC := xo_BadNumber, sup := xw_BadNumber, op := z_op, noS := PySem.W.mg_none_of X G z_super, top := h_top, nf := PySem.SupX.fld_part,
      fn := ⟨_, _, _, _, _, cda_BadNumber, _, _, cc_BadNumber, _, _, _, _, _, _, _, _, _, _, _, _, _, _, _, _, _, _, _, _, _, file_BadNumber, _, rfl, xl_BadNumber, xq_BadNumber, xcd_BadNumber, xfl_BadNumber, xfe_BadNumber, xcc_BadNumber⟩ }
  have E_BadNumber : ExcC K C_BadNumber := ⟨xa_BadNumber, xh_BadNumber, xb_BadNumber, xd_BadNumber, xc_BadNumber, gk1, gk2, xm_BadNumber⟩
  have x_BadNumber : PySem.W.exmOne K (.ref C_BadNumber) (.ref C_GroupError) = some true := PySem.W.exm_ref xb_GroupError xd_GroupError xt_GroupError xs_BadNumber
  have y_BadNumber : PySem.W.kitOne K (.ref C_BadNumber) (.ref C_BadNumber) = some true := if_pos (beq_self_eq_true _)
  have t_TooMany : PySem.SupX.SupTxt l.prog K mg "TooMany" "most" C_TooMany fI_TooMany :=
    { gC := PySem.W.mg_of X G xg_TooMany, cls := ⟨nm_TooMany, q_TooMany, N_TooMany, bs_TooMany, _, sn_TooMany, sub_TooMany, ab_TooMany, col_TooMany, dd_TooMany, m0_TooMany, m1_TooMany, m2_TooMany, m3_TooMany, m5_TooMany, xx_TooMany, rfl⟩, sa := xsa_TooMany, ga := xa_TooMany, gg := xh_TooMany, noN := xn_TooMany, iC := xi_TooMany, tC := xf_TooMany, kC := xk_TooMany, exC := xb_TooMany, veC := xv_TooMany, tyC := xt_TooMany, hdC := xd_TooMany, mC := xo_TooMany, sup := xw_TooMany, op := z_op, noS := PySem.W.mg_none_of X G z_super, top := h_top, nf := PySem.SupX.fld_most,
      fn := ⟨_, _, _, _, _, cda_TooMany, _, _, cc_TooMany, _, _, _, _, _, _, _, _, _, _, _, _, _, _, _, _, _, _, _, _, _, file_TooMany, _, rfl, xl_TooMany, xq_TooMany, xcd_TooMany, xfl_TooMany, xfe_TooMany, xcc_TooMany⟩ }
  have E_TooMany : ExcC K C_TooMany := ⟨xa_TooMany, xh_TooMany, xb_TooMany, xd_TooMany, xc_TooMany, gk1, gk2, xm_TooMany⟩
  have x_TooMany : PySem.W.exmOne K (.ref C_TooMany) (.ref C_GroupError) = some true := PySem.W.exm_ref xb_GroupError xd_GroupError xt_GroupError xs_TooMany
  have y_TooMany : PySem.W.kitOne K (.ref C_TooMany) (.ref C_TooMany) = some true := if_pos (beq_self_eq_true _)
  have e_BadWord : Err K mg "BadWord" C_BadWord := ⟨PySem.W.mg_of X G xg_BadWord, xx_BadWord, xk_BadWord, xb_BadWord, xt_BadWord⟩
  have E_BadWord : ExcC K C_BadWord := ⟨xa_BadWord, xh_BadWord, xb_BadWord, xd_BadWord, xc_BadWord, gk1, gk2, xm_BadWord⟩
  have x_BadWord : PySem.W.exmOne K (.ref C_BadWord) (.ref C_GroupError) = some true := PySem.W.exm_ref xb_GroupError xd_GroupError xt_GroupError xs_BadWord
  have y_BadWord : PySem.W.kitOne K (.ref C_BadWord) (.ref C_BadWord) = some true := if_pos (beq_self_eq_true _)
  have e_BadBack : Err K mg "BadBack" C_BadBack := ⟨PySem.W.mg_of X G xg_BadBack, xx_BadBack, xk_BadBack, xb_BadBack, xt_BadBack⟩
  have E_BadBack : ExcC K C_BadBack := ⟨xa_BadBack, xh_BadBack, xb_BadBack, xd_BadBack, xc_BadBack, gk1, gk2, xm_BadBack⟩
  have x_BadBack : PySem.W.exmOne K (.ref C_BadBack) (.ref C_GroupError) = some true := PySem.W.exm_ref xb_GroupError xd_GroupError xt_GroupError xs_BadBack
  have y_BadBack : PySem.W.kitOne K (.ref C_BadBack) (.ref C_BadBack) = some true := if_pos (beq_self_eq_true _)
  have gG := PySem.W.mg_of X G xg_GroupError
  have F0 := fun_mk (st := s_is_number) l0 c0 k0
  have b0 := F0.binds (ps := P_is_number) fun _ _ _ _ _ _ us hl => match us, hl with | [_], _ => rfl
  have D0 : DefAt K mg "is_number" s_is_number P_is_number f0 _ := ⟨F0, PySem.W.mg_of X G a0, b0⟩
  have F1 := fun_mk (st := s_is_number_in) l1 c1 k1
  have b1 := F1.binds (ps := P_is_number_in) fun _ _ _ _ _ _ us hl => match us, hl with | [_, _, _], _ => rfl
  have D1 : DefAt K mg "is_number_in" s_is_number_in P_is_number_in f1 _ := ⟨F1, PySem.W.mg_of X G a1, b1⟩
  have F2 := fun_mk (st := s_is_list) l2 c2 k2
  have b2 := F2.binds (ps := P_is_list) fun _ _ _ _ _ _ us hl => match us, hl with | [_], _ => rfl
  have D2 : DefAt K mg "is_list" s_is_list P_is_list f2 _ := ⟨F2, PySem.W.mg_of X G a2, b2⟩
  have F3 := fun_mk (st := s_is_row) l3 c3 k3
  have b3 := F3.binds (ps := P_is_row) fun _ _ _ _ _ _ us hl => match us, hl with | [_, _], _ => rfl
  have D3 : DefAt K mg "is_row" s_is_row P_is_row f3 _ := ⟨F3, PySem.W.mg_of X G a3, b3⟩
  have F4 := fun_mk (st := s_is_back) l4 c4 k4
  have b4 := F4.binds (ps := P_is_back) fun _ _ _ _ _ _ us hl => match us, hl with | [_], _ => rfl
  have D4 : DefAt K mg "is_back" s_is_back P_is_back f4 _ := ⟨F4, PySem.W.mg_of X G a4, b4⟩
  have F5 := fun_mk (st := s_want_back) l5 c5 k5
  have b5 := F5.binds (ps := P_want_back) fun _ _ _ _ _ _ us hl => match us, hl with | [_], _ => rfl
  have D5 : DefAt K mg "want_back" s_want_back P_want_back f5 _ := ⟨F5, PySem.W.mg_of X G a5, b5⟩
  have F6 := fun_mk (st := s_want_letters) l6 c6 k6
  have b6 := F6.binds (ps := P_want_letters) fun _ _ _ _ _ _ us hl => match us, hl with | [_, _], _ => rfl
  have D6 : DefAt K mg "want_letters" s_want_letters P_want_letters f6 _ := ⟨F6, PySem.W.mg_of X G a6, b6⟩
  have F7 := fun_mk (st := s_row_of_pair) l7 c7 k7
  have b7 := F7.binds (ps := P_row_of_pair) fun _ _ _ _ _ _ us hl => match us, hl with | [_, _, _], _ => rfl
  have D7 : DefAt K mg "row_of_pair" s_row_of_pair P_row_of_pair f7 _ := ⟨F7, PySem.W.mg_of X G a7, b7⟩
  have F8 := fun_mk (st := s_pair_row) l8 c8 k8
  have b8 := F8.binds (ps := P_pair_row) fun _ _ _ _ _ _ us hl => match us, hl with | [_, _, _], _ => rfl
  have D8 : DefAt K mg "pair_row" s_pair_row P_pair_row f8 _ := ⟨F8, PySem.W.mg_of X G a8, b8⟩
  have F9 := fun_mk (st := s_pair_of_row) l9 c9 k9
  have b9 := F9.binds (ps := P_pair_of_row) fun _ _ _ _ _ _ us hl => match us, hl with | [_, _], _ => rfl
  have D9 : DefAt K mg "pair_of_row" s_pair_of_row P_pair_of_row f9 _ := ⟨F9, PySem.W.mg_of X G a9, b9⟩
  have F10 := fun_mk (st := s_is_row_of_pair) l10 c10 k10
  have b10 := F10.binds (ps := P_is_row_of_pair) fun _ _ _ _ _ _ us hl => match us, hl with | [_, _], _ => rfl
  have D10 : DefAt K mg "is_row_of_pair" s_is_row_of_pair P_is_row_of_pair f10 _ := ⟨F10, PySem.W.mg_of X G a10, b10⟩
  have F11 := fun_mk (st := s_words_of) l11 c11 k11
  have b11 := F11.binds (ps := P_words_of) fun _ _ _ _ _ _ us hl => match us, hl with | [_, _], _ => rfl
  have D11 : DefAt K mg "words_of" s_words_of P_words_of f11 _ := ⟨F11, PySem.W.mg_of X G a11, b11⟩
  have F12 := fun_mk (st := s_is_pair_row) l12 c12 k12
  have b12 := F12.binds (ps := P_is_pair_row) fun _ _ _ _ _ _ us hl => match us, hl with | [_, _], _ => rfl
  have D12 : DefAt K mg "is_pair_row" s_is_pair_row P_is_pair_row f12 _ := ⟨F12, PySem.W.mg_of X G a12, b12⟩
  have F13 := fun_mk (st := s_is_way) l13 c13 k13
  have b13 := F13.binds (ps := P_is_way) fun _ _ _ _ _ _ us hl => match us, hl with | [_, _, _], _ => rfl
  have D13 : DefAt K mg "is_way" s_is_way P_is_way f13 _ := ⟨F13, PySem.W.mg_of X G a13, b13⟩
  have F14 := fun_mk (st := s_are_ways) l14 c14 k14
  have b14 := F14.binds (ps := P_are_ways) fun _ _ _ _ _ _ us hl => match us, hl with | [_, _], _ => rfl
  have D14 : DefAt K mg "are_ways" s_are_ways P_are_ways f14 _ := ⟨F14, PySem.W.mg_of X G a14, b14⟩
  have F15 := fun_mk (st := s_are_ends) l15 c15 k15
  have b15 := F15.binds (ps := P_are_ends) fun _ _ _ _ _ _ us hl => match us, hl with | [_, _], _ => rfl
  have D15 : DefAt K mg "are_ends" s_are_ends P_are_ends f15 _ := ⟨F15, PySem.W.mg_of X G a15, b15⟩
  have F16 := fun_mk (st := s_want_machine) l16 c16 k16
  have b16 := F16.binds (ps := P_want_machine) fun _ _ _ _ _ _ us hl => match us, hl with | [_], _ => rfl
  have D16 : DefAt K mg "want_machine" s_want_machine P_want_machine f16 _ := ⟨F16, PySem.W.mg_of X G a16, b16⟩
  have F17 := fun_mk (st := s_one_number_on) l17 c17 k17
  have b17 := F17.binds (ps := P_one_number_on) fun _ _ _ _ _ _ us hl => match us, hl with | [_, _], _ => rfl
  have D17 : DefAt K mg "one_number_on" s_one_number_on P_one_number_on f17 _ := ⟨F17, PySem.W.mg_of X G a17, b17⟩
  have F18 := fun_mk (st := s_rows_up_to) l18 c18 k18
  have b18 := F18.binds (ps := P_rows_up_to) fun _ _ _ _ _ _ us hl => match us, hl with | [_, _], _ => rfl
  have D18 : DefAt K mg "rows_up_to" s_rows_up_to P_rows_up_to f18 _ := ⟨F18, PySem.W.mg_of X G a18, b18⟩
  have F19 := fun_mk (st := s_law_begun) l19 c19 k19
  have b19 := F19.binds (ps := P_law_begun) fun _ _ _ _ _ _ us hl => match us, hl with | [_], _ => rfl
  have D19 : DefAt K mg "_law_begun" s_law_begun P_law_begun f19 _ := ⟨F19, PySem.W.mg_of X G a19, b19⟩
  have F20 := fun_mk (st := s_law_mixed) l20 c20 k20
  have b20 := F20.binds (ps := P_law_mixed) fun _ _ _ _ _ _ us hl => match us, hl with | [_], _ => rfl
  have D20 : DefAt K mg "_law_mixed" s_law_mixed P_law_mixed f20 _ := ⟨F20, PySem.W.mg_of X G a20, b20⟩
  have F21 := fun_mk (st := s_law_take) l21 c21 k21
  have b21 := F21.binds (ps := P_law_take) fun _ _ _ _ _ _ us hl => match us, hl with | [_, _], _ => rfl
  have D21 : DefAt K mg "_law_take" s_law_take P_law_take f21 _ := ⟨F21, PySem.W.mg_of X G a21, b21⟩
  have F22 := fun_mk (st := s_law_pick) l22 c22 k22
  have b22 := F22.binds (ps := P_law_pick) fun _ _ _ _ _ _ us hl => match us, hl with | [_, _], _ => rfl
  have D22 : DefAt K mg "_law_pick" s_law_pick P_law_pick f22 _ := ⟨F22, PySem.W.mg_of X G a22, b22⟩
  have F23 := fun_mk (st := s_law_shuffled) l23 c23 k23
  have b23 := F23.binds (ps := P_law_shuffled) fun _ _ _ _ _ _ us hl => match us, hl with | [_, _], _ => rfl
  have D23 : DefAt K mg "_law_shuffled" s_law_shuffled P_law_shuffled f23 _ := ⟨F23, PySem.W.mg_of X G a23, b23⟩
  have F24 := fun_mk (st := s_law_is_truth) l24 c24 k24
  have b24 := F24.binds (ps := P_law_is_truth) fun _ _ _ _ _ _ us hl => match us, hl with | [_, _], _ => rfl
  have D24 : DefAt K mg "_law_is_truth" s_law_is_truth P_law_is_truth f24 _ := ⟨F24, PySem.W.mg_of X G a24, b24⟩
  have F25 := fun_mk (st := s_law_caught) l25 c25 k25
  have b25 := F25.binds (ps := P_law_caught) fun _ _ _ _ _ _ us hl => match us, hl with | [_], _ => rfl
  have D25 : DefAt K mg "_law_caught" s_law_caught P_law_caught f25 _ := ⟨F25, PySem.W.mg_of X G a25, b25⟩
  have F26 := fun_mk (st := s_law_back) l26 c26 k26
  have b26 := F26.binds (ps := P_law_back) fun _ _ _ _ _ _ us hl => match us, hl with | [_], _ => rfl
  have D26 : DefAt K mg "_law_back" s_law_back P_law_back f26 _ := ⟨F26, PySem.W.mg_of X G a26, b26⟩
  have F27 := fun_mk (st := s_law_word) l27 c27 k27
  have b27 := F27.binds (ps := P_law_word) fun _ _ _ _ _ _ us hl => match us, hl with | [_, _, _], _ => rfl
  have D27 : DefAt K mg "_law_word" s_law_word P_law_word f27 _ := ⟨F27, PySem.W.mg_of X G a27, b27⟩
  have F28 := fun_mk (st := s_law_pairs_read) l28 c28 k28
  have b28 := F28.binds (ps := P_law_pairs_read) fun _ _ _ _ _ _ us hl => match us, hl with | [_, _, _], _ => rfl
  have D28 : DefAt K mg "_law_pairs_read" s_law_pairs_read P_law_pairs_read f28 _ := ⟨F28, PySem.W.mg_of X G a28, b28⟩
  have F29 := fun_mk (st := s_law_went) l29 c29 k29
  have b29 := F29.binds (ps := P_law_went) fun _ _ _ _ _ _ us hl => match us, hl with | [_, _], _ => rfl
  have D29 : DefAt K mg "_law_went" s_law_went P_law_went f29 _ := ⟨F29, PySem.W.mg_of X G a29, b29⟩
  have F30 := fun_mk (st := s_law_machine_sketch) l30 c30 k30
  have b30 := F30.binds (ps := P_law_machine_sketch) fun _ _ _ _ _ _ us hl => match us, hl with | [_, _, _], _ => rfl
  have D30 : DefAt K mg "_law_machine_sketch" s_law_machine_sketch P_law_machine_sketch f30 _ := ⟨F30, PySem.W.mg_of X G a30, b30⟩
  have F31 := fun_mk (st := s_law_all) l31 c31 k31
  have b31 := F31.binds (ps := P_law_all) fun _ _ _ _ _ _ us hl => match us, hl with | [_, _], _ => rfl
  have D31 : DefAt K mg "_law_all" s_law_all P_law_all f31 _ := ⟨F31, PySem.W.mg_of X G a31, b31⟩
  have F32 := fun_mk (st := s_law_is_pair_row) l32 c32 k32
  have b32 := F32.binds (ps := P_law_is_pair_row) fun _ _ _ _ _ _ us hl => match us, hl with | [_, _], _ => rfl
  have D32 : DefAt K mg "_law_is_pair_row" s_law_is_pair_row P_law_is_pair_row f32 _ := ⟨F32, PySem.W.mg_of X G a32, b32⟩
  have F33 := fun_mk (st := s_law) l33 c33 k33
  have b33 := F33.binds (ps := P_law) fun _ _ _ _ _ _ us hl => match us, hl with | [_], _ => rfl
  have cl_Machine : Cls K C_Machine := ⟨op_Machine, od_Machine, oo_Machine, os_Machine⟩
  have OC_Machine : OwnC K C_Machine := ⟨cl_Machine, oi_Machine, ot_Machine, oc_Machine, gk1, gk2, ob_Machine, ouNoneType_Machine, oubool_Machine, ouint_Machine, oustr_Machine, oulist_Machine, outuple_Machine, oudict_Machine⟩
  have O_Machine : OwnE K C_Machine g_Machineeq := ⟨ma_Machineeq, on_Machine, ob_Machine, mi_Machineeq⟩
  have M_Machine : Mk K C_Machine g_Machineinit := ⟨om_Machine, ma_Machineinit, mi_Machineinit, ok_Machine⟩
  have g_Machine := PySem.W.mg_of X G og_Machine
  have F_Machineinit := fun_mk (st := s_Machineinit) ml_Machineinit mc_Machineinit mk_Machineinit
  have b_Machineinit := F_Machineinit.binds (ps := P_Machineinit) fun _ _ _ _ _ _ us hl => match us, hl with | [_, _, _, _], _ => rfl
  have F_Machineeq := fun_mk (st := s_Machineeq) ml_Machineeq mc_Machineeq mk_Machineeq
  have b_Machineeq := F_Machineeq.binds (ps := P_Machineeq) fun _ _ _ _ _ _ us hl => match us, hl with | [_, _], _ => rfl
  refine ⟨cL, Pt, mt0, ⟨sc_law, ⟨_, _, _, _, _, _, _, _, l33, b33⟩, c33, ch0, np0, fun base hK hNs TB s H a ns hr hS h63 hP => ?_⟩⟩
  have h_is_number := ok_is_number (P := l.prog) (w := w) (base := base) D0 T
  have h_is_number_in := ok_is_number_in (P := l.prog) (w := w) (base := base) D1 T h_is_number
  have h_is_list := ok_is_list (P := l.prog) (w := w) (base := base) D2 T
  have h_is_row := ok_is_row (P := l.prog) (w := w) (base := base) D3 T h_is_number_in
  have h_is_back := ok_is_back (P := l.prog) (w := w) (base := base) D4 T c_MOST_BACK h_is_row
  have h_want_back := ok_want_back (P := l.prog) (w := w) (base := base) D5 T e_BadBack h_is_back
  have h_want_letters := ok_want_letters (P := l.prog) (w := w) (base := base) D6 T e_BadWord h_is_row
  have h_row_of_pair := ok_row_of_pair (P := l.prog) (w := w) (base := base) D7 T
  have h_pair_of_row := ok_pair_of_row (P := l.prog) (w := w) (base := base) D9 T
  have h_is_row_of_pair := ok_is_row_of_pair (P := l.prog) (w := w) (base := base) D10 T h_is_row h_pair_of_row h_row_of_pair
  have h_pair_row := ok_pair_row (P := l.prog) (w := w) (base := base) D8 T h_want_back h_want_letters h_row_of_pair
  have h_words_of := ok_words_of (P := l.prog) (w := w) (base := base) D11 T e_BadWord h_want_back h_is_row_of_pair h_pair_of_row
  have h_is_pair_row := ok_is_pair_row (P := l.prog) (w := w) (base := base) D12 T h_want_back h_is_row_of_pair
  have h_is_way := ok_is_way (P := l.prog) (w := w) (base := base) D13 T h_is_number_in h_is_list
  have h_are_ways := ok_are_ways (P := l.prog) (w := w) (base := base) D14 T c_MOST_STATES h_is_list h_is_way
  have h_are_ends := ok_are_ends (P := l.prog) (w := w) (base := base) D15 T h_is_list h_is_number_in
  have h_want_machine := ok_want_machine (P := l.prog) (w := w) (base := base) D16 T t_BadMachine g_Machine OC_Machine
  have h_one_number_on := ok_one_number_on (P := l.prog) (w := w) (base := base) D17 T t_TooMany c_MOST_ROWS
  have h_rows_up_to := ok_rows_up_to (P := l.prog) (w := w) (base := base) D18 T t_BadNumber OC_Machine ofways_Machine ofends_Machine h_want_machine h_is_number_in h_one_number_on
  have h__law_begun := ok_law_begun (P := l.prog) (w := w) (base := base) D19 T
  have h__law_mixed := ok_law_mixed (P := l.prog) (w := w) (base := base) D20 T
  have h__law_take := ok_law_take (P := l.prog) (w := w) (base := base) D21 T h__law_mixed
  have h__law_pick := ok_law_pick (P := l.prog) (w := w) (base := base) D22 T h__law_take
  have h__law_shuffled := ok_law_shuffled (P := l.prog) (w := w) (base := base) D23 T h__law_take
  have h__law_is_truth := ok_law_is_truth (P := l.prog) (w := w) (base := base) D24 T
  have h__law_back := ok_law_back (P := l.prog) (w := w) (base := base) D26 T h__law_take h__law_shuffled
  have h__law_word := ok_law_word (P := l.prog) (w := w) (base := base) D27 T h__law_take
  have h__law_pairs_read := ok_law_pairs_read (P := l.prog) (w := w) (base := base) D28 T
  have h__law_went := ok_law_went (P := l.prog) (w := w) (base := base) D29 T
  have h__law_machine_sketch := ok_law_machine_sketch (P := l.prog) (w := w) (base := base) D30 T h__law_take h__law_pick
  have h__law_all := ok_law_all (P := l.prog) (w := w) (base := base) D31 T
  have h__law_is_pair_row := ok_law_is_pair_row (P := l.prog) (w := w) (base := base) D32 T
  have D_caught := D25
  have h_Machine : MkM l.prog w K mg base "Machine" P_Machineinit 5 C_Machine (spMI K C_Machine) := ⟨_, _, g_Machine, M_Machine, b_Machineinit, ok_Machineinit (P := l.prog) (w := w) (base := base) F_Machineinit T t_BadMachine cl_Machine ofletters_Machine ofways_Machine ofends_Machine c_MOST_READ h_is_number_in h_are_ways h_are_ends⟩
  have h__law_pickG := ok_law_pickG (P := l.prog) (w := w) (base := base) D22 T h__law_take
  exact ok_law T t_BadNumber t_TooMany e_BadWord e_BadBack gG E_BadNumber E_TooMany E_BadWord E_BadBack x_BadNumber x_TooMany x_BadWord x_BadBack y_BadNumber y_TooMany y_BadWord y_BadBack h_Machine h_rows_up_to h_pair_row h_words_of h_is_pair_row h__law_begun h__law_take h__law_pickG h__law_back h__law_word h__law_pairs_read h__law_went h__law_machine_sketch h__law_all h__law_is_pair_row h__law_is_truth D_caught TB hr hS h63 hP
end Gw

open PySem PySem.W PyProof.Rows in
set_option maxRecDepth 100000 in
set_option maxHeartbeats 0 in
theorem PySem.Challenge.cw_gatewords_k07_whole_rows_and_pair_rows_holds : PySem.Challenge.rw_gatewords_k07_whole_rows_and_pair_rows.Holds := by
  w_on; o_law; k_head; (case hw => w_witness2)
  k_fill
  refine Gw.walk_atT (l := PySem.Challenge.rw_gatewords_k07_whole_rows_and_pair_rows) (st := Gw.s_law) (N := Gw.N_law) (k := 12) (ts := _) rfl rfl ⟨rfl, by decide, by decide⟩ (fun w h Y => ⟨PySem.W.km_in_of Y, fun P hP => PySem.W.km_tabs_of Y P hP⟩) ?F
  case F =>
    intro w mg fa h KX G hmg
    refine' Gw.all_mk KX G hmg ?a0 ?l0 ?c0 ?k0 ?a1 ?l1 ?c1 ?k1 ?a2 ?l2 ?c2 ?k2 ?a3 ?l3 ?c3 ?k3 ?a4 ?l4 ?c4 ?k4 ?a5 ?l5 ?c5 ?k5 ?a6 ?l6 ?c6 ?k6 ?a7 ?l7 ?c7 ?k7 ?a8 ?l8 ?c8 ?k8 ?a9 ?l9 ?c9 ?k9 ?a10 ?l10 ?c10 ?k10 ?a11 ?l11 ?c11 ?k11 ?a12 ?l12 ?c12 ?k12 ?a13 ?l13 ?c13 ?k13 ?a14 ?l14 ?c14 ?k14 ?a15 ?l15 ?c15 ?k15 ?a16 ?l16 ?c16 ?k16 ?a17 ?l17 ?c17 ?k17 ?a18 ?l18 ?c18 ?k18 ?a19 ?l19 ?c19 ?k19 ?a20 ?l20 ?c20 ?k20 ?a21 ?l21 ?c21 ?k21 ?a22 ?l22 ?c22 ?k22 ?a23 ?l23 ?c23 ?k23 ?a24 ?l24 ?c24 ?k24 ?a25 ?l25 ?c25 ?k25 ?a26 ?l26 ?c26 ?k26 ?a27 ?l27 ?c27 ?k27 ?a28 ?l28 ?c28 ?k28 ?a29 ?l29 ?c29 ?k29 ?a30 ?l30 ?c30 ?k30 ?a31 ?l31 ?c31 ?k31 ?a32 ?l32 ?c32 ?k32 ?a33 ?l33 ?c33 ?k33 ?lc0 ?lt0 ?ch0 ?np0 ?mt0 ?g_MOST_BACK ?g_MOST_READ ?g_MOST_STATES ?g_MOST_ROWS ?z_len ?z_int ?z_bool ?z_str ?z_list ?z_tuple ?z_dict ?z_isinstance ?z_all ?z_any ?z_abs ?z_min ?z_max ?z_range ?z_enumerate ?z_repr ?z_sorted ?z_super ?z_op ?h_top ?xg_GroupError ?xb_GroupError ?xt_GroupError ?xd_GroupError ?xg_BadMachine ?xb_BadMachine ?xt_BadMachine ?xd_BadMachine ?xx_BadMachine ?xk_BadMachine ?xsa_BadMachine ?xa_BadMachine ?xh_BadMachine ?xn_BadMachine ?xi_BadMachine ?xf_BadMachine ?xv_BadMachine ?xo_BadMachine ?xw_BadMachine ?xc_BadMachine ?xm_BadMachine ?xs_BadMachine ?xl_BadMachine ?xq_BadMachine ?xcd_BadMachine ?xfl_BadMachine ?xfe_BadMachine ?xcc_BadMachine ?xg_BadNumber ?xb_BadNumber ?xt_BadNumber ?xd_BadNumber ?xx_BadNumber ?xk_BadNumber ?xsa_BadNumber ?xa_BadNumber ?xh_BadNumber ?xn_BadNumber ?xi_BadNumber ?xf_BadNumber ?xv_BadNumber ?xo_BadNumber ?xw_BadNumber ?xc_BadNumber ?xm_BadNumber ?xs_BadNumber ?xl_BadNumber ?xq_BadNumber ?xcd_BadNumber ?xfl_BadNumber ?xfe_BadNumber ?xcc_BadNumber ?xg_TooMany ?xb_TooMany ?xt_TooMany ?xd_TooMany ?xx_TooMany ?xk_TooMany ?xsa_TooMany ?xa_TooMany ?xh_TooMany ?xn_TooMany ?xi_TooMany ?xf_TooMany ?xv_TooMany ?xo_TooMany ?xw_TooMany ?xc_TooMany ?xm_TooMany ?xs_TooMany ?xl_TooMany ?xq_TooMany ?xcd_TooMany ?xfl_TooMany ?xfe_TooMany ?xcc_TooMany ?xg_BadWord ?xb_BadWord ?xt_BadWord ?xd_BadWord ?xx_BadWord ?xk_BadWord ?xa_BadWord ?xh_BadWord ?xc_BadWord ?xm_BadWord ?xs_BadWord ?xg_BadBack ?xb_BadBack ?xt_BadBack ?xd_BadBack ?xx_BadBack ?xk_BadBack ?xa_BadBack ?xh_BadBack ?xc_BadBack ?xm_BadBack ?xs_BadBack ?gk1 ?gk2 ?og_Machine ?op_Machine ?od_Machine ?oo_Machine ?os_Machine ?om_Machine ?ok_Machine ?oi_Machine ?ot_Machine ?oc_Machine ?ob_Machine ?on_Machine ?ouNoneType_Machine ?oubool_Machine ?ouint_Machine ?oustr_Machine ?oulist_Machine ?outuple_Machine ?oudict_Machine ?ofletters_Machine ?ofways_Machine ?ofends_Machine ?ma_Machineinit ?mi_Machineinit ?ml_Machineinit ?mc_Machineinit ?mk_Machineinit ?ma_Machineeq ?mi_Machineeq ?ml_Machineeq ?mc_Machineeq ?mk_Machineeq
    (case a0 => k_is)
    (case l0 => k_is)
    (case c0 => k_is)
    (case k0 => k_is)
    (case a1 => k_is)
    (case l1 => k_is)
    (case c1 => k_is)
    (case k1 => k_is)
    (case a2 => k_is)
    (case l2 => k_is)
    (case c2 => k_is)
    (case k2 => k_is)
    (case a3 => k_is)
    (case l3 => k_is)
    (case c3 => k_is)
    (case k3 => k_is)
    (case a4 => k_is)
    (case l4 => k_is)
    (case c4 => k_is)
    (case k4 => k_is)
    (case a5 => k_is)
    (case l5 => k_is)
    (case c5 => k_is)
    (case k5 => k_is)
    (case a6 => k_is)
    (case l6 => k_is)
    (case c6 => k_is)
    (case k6 => k_is)
    (case a7 => k_is)
    (case l7 => k_is)
    (case c7 => k_is)
    (case k7 => k_is)
    (case a8 => k_is)
    (case l8 => k_is)
    (case c8 => k_is)
    (case k8 => k_is)
    (case a9 => k_is)
    (case l9 => k_is)
    (case c9 => k_is)
    (case k9 => k_is)
    (case a10 => k_is)
    (case l10 => k_is)
    (case c10 => k_is)
    (case k10 => k_is)
    (case a11 => k_is)
    (case l11 => k_is)
    (case c11 => k_is)
    (case k11 => k_is)
    (case a12 => k_is)
    (case l12 => k_is)
    (case c12 => k_is)
    (case k12 => k_is)
    (case a13 => k_is)
    (case l13 => k_is)
    (case c13 => k_is)
    (case k13 => k_is)
    (case a14 => k_is)
    (case l14 => k_is)
    (case c14 => k_is)
    (case k14 => k_is)
    (case a15 => k_is)
    (case l15 => k_is)
    (case c15 => k_is)
    (case k15 => k_is)
    (case a16 => k_is)
    (case l16 => k_is)
    (case c16 => k_is)
    (case k16 => k_is)
    (case a17 => k_is)
    (case l17 => k_is)
    (case c17 => k_is)
    (case k17 => k_is)
    (case a18 => k_is)
    (case l18 => k_is)
    (case c18 => k_is)
    (case k18 => k_is)
    (case a19 => k_is)
    (case l19 => k_is)
    (case c19 => k_is)
    (case k19 => k_is)
    (case a20 => k_is)
    (case l20 => k_is)
    (case c20 => k_is)
    (case k20 => k_is)
    (case a21 => k_is)
    (case l21 => k_is)
    (case c21 => k_is)
    (case k21 => k_is)
    (case a22 => k_is)
    (case l22 => k_is)
    (case c22 => k_is)
    (case k22 => k_is)
    (case a23 => k_is)
    (case l23 => k_is)
    (case c23 => k_is)
    (case k23 => k_is)
    (case a24 => k_is)
    (case l24 => k_is)
    (case c24 => k_is)
    (case k24 => k_is)
    (case a25 => k_is)
    (case l25 => k_is)
    (case c25 => k_is)
    (case k25 => k_is)
    (case a26 => k_is)
    (case l26 => k_is)
    (case c26 => k_is)
    (case k26 => k_is)
    (case a27 => k_is)
    (case l27 => k_is)
    (case c27 => k_is)
    (case k27 => k_is)
    (case a28 => k_is)
    (case l28 => k_is)
    (case c28 => k_is)
    (case k28 => k_is)
    (case a29 => k_is)
    (case l29 => k_is)
    (case c29 => k_is)
    (case k29 => k_is)
    (case a30 => k_is)
    (case l30 => k_is)
    (case c30 => k_is)
    (case k30 => k_is)
    (case a31 => k_is)
    (case l31 => k_is)
    (case c31 => k_is)
    (case k31 => k_is)
    (case a32 => k_is)
    (case l32 => k_is)
    (case c32 => k_is)
    (case k32 => k_is)
    (case a33 => k_is)
    (case l33 => k_is)
    (case c33 => k_is)
    (case k33 => k_is)
    (case lc0 => k_is)
    (case lt0 => first | rfl | k_is)
    (case ch0 => rfl)
    (case np0 => first | rfl | k_is)
    (case mt0 => first | exact List.mem_singleton_self _ | decide | simp)
    (case g_MOST_BACK => k_is)
    (case g_MOST_READ => k_is)
    (case g_MOST_STATES => k_is)
    (case g_MOST_ROWS => k_is)
    (case z_len => k_is)
    (case z_int => k_is)
    (case z_bool => k_is)
    (case z_str => k_is)
    (case z_list => k_is)
    (case z_tuple => k_is)
    (case z_dict => k_is)
    (case z_isinstance => k_is)
    (case z_all => k_is)
    (case z_any => k_is)
    (case z_abs => k_is)
    (case z_min => k_is)
    (case z_max => k_is)
    (case z_range => k_is)
    (case z_enumerate => k_is)
    (case z_repr => k_is)
    (case z_sorted => k_is)
    (case z_super => k_is)
    (case z_op => k_is)
    (case h_top => first | rfl | decide +kernel)
    (case xg_GroupError => k_is)
    (case xb_GroupError => k_is)
    (case xt_GroupError => k_is)
    (case xd_GroupError => k_is)
    (case xg_BadMachine => k_is)
    (case xb_BadMachine => k_is)
    (case xt_BadMachine => k_is)
    (case xd_BadMachine => k_is)
    (case xx_BadMachine => k_is)
    (case xk_BadMachine => k_is)
    (case xsa_BadMachine => k_is)
    (case xa_BadMachine => k_is)
    (case xh_BadMachine => k_is)
    (case xn_BadMachine => k_is)
    (case xi_BadMachine => k_is)
    (case xf_BadMachine => k_is)
    (case xv_BadMachine => k_is)
    (case xo_BadMachine => k_is)
    (case xw_BadMachine => ks_is)
    (case xc_BadMachine => k_is)
    (case xm_BadMachine => k_is)
    (case xs_BadMachine => k_is)
    (case xl_BadMachine => k_is)
    (case xq_BadMachine => k_is)
    (case xcd_BadMachine => k_is)
    (case xfl_BadMachine => first | rfl | k_is)
    (case xfe_BadMachine => first | rfl | decide +kernel)
    (case xcc_BadMachine => k_is)
    (case xg_BadNumber => k_is)
    (case xb_BadNumber => k_is)
    (case xt_BadNumber => k_is)
    (case xd_BadNumber => k_is)
    (case xx_BadNumber => k_is)
    (case xk_BadNumber => k_is)
    (case xsa_BadNumber => k_is)
    (case xa_BadNumber => k_is)
    (case xh_BadNumber => k_is)
    (case xn_BadNumber => k_is)
    (case xi_BadNumber => k_is)
    (case xf_BadNumber => k_is)
    (case xv_BadNumber => k_is)
    (case xo_BadNumber => k_is)
    (case xw_BadNumber => ks_is)
    (case xc_BadNumber => k_is)
    (case xm_BadNumber => k_is)
    (case xs_BadNumber => k_is)
    (case xl_BadNumber => k_is)
    (case xq_BadNumber => k_is)
    (case xcd_BadNumber => k_is)
    (case xfl_BadNumber => first | rfl | k_is)
    (case xfe_BadNumber => first | rfl | decide +kernel)
    (case xcc_BadNumber => k_is)
    (case xg_TooMany => k_is)
    (case xb_TooMany => k_is)
    (case xt_TooMany => k_is)
    (case xd_TooMany => k_is)
    (case xx_TooMany => k_is)
    (case xk_TooMany => k_is)
    (case xsa_TooMany => k_is)
    (case xa_TooMany => k_is)
    (case xh_TooMany => k_is)
    (case xn_TooMany => k_is)
    (case xi_TooMany => k_is)
    (case xf_TooMany => k_is)
    (case xv_TooMany => k_is)
    (case xo_TooMany => k_is)
    (case xw_TooMany => ks_is)
    (case xc_TooMany => k_is)
    (case xm_TooMany => k_is)
    (case xs_TooMany => k_is)
    (case xl_TooMany => k_is)
    (case xq_TooMany => k_is)
    (case xcd_TooMany => k_is)
    (case xfl_TooMany => first | rfl | k_is)
    (case xfe_TooMany => first | rfl | decide +kernel)
    (case xcc_TooMany => k_is)
    (case xg_BadWord => k_is)
    (case xb_BadWord => k_is)
    (case xt_BadWord => k_is)
    (case xd_BadWord => k_is)
    (case xx_BadWord => k_exc)
    (case xk_BadWord => k_is)
    (case xa_BadWord => k_is)
    (case xh_BadWord => k_is)
    (case xc_BadWord => k_is)
    (case xm_BadWord => k_is)
    (case xs_BadWord => k_is)
    (case xg_BadBack => k_is)
    (case xb_BadBack => k_is)
    (case xt_BadBack => k_is)
    (case xd_BadBack => k_is)
    (case xx_BadBack => k_exc)
    (case xk_BadBack => k_is)
    (case xa_BadBack => k_is)
    (case xh_BadBack => k_is)
    (case xc_BadBack => k_is)
    (case xm_BadBack => k_is)
    (case xs_BadBack => k_is)
    (case gk1 => k_is)
    (case gk2 => k_is)
    (case og_Machine => k_is)
    (case op_Machine => k_is)
    (case od_Machine => k_is)
    (case oo_Machine => k_is)
    (case os_Machine => k_is)
    (case om_Machine => k_is)
    (case ok_Machine => k_is)
    (case oi_Machine => k_is)
    (case ot_Machine => k_is)
    (case oc_Machine => k_is)
    (case ob_Machine => k_is)
    (case on_Machine => k_is)
    (case ouNoneType_Machine => k_is)
    (case oubool_Machine => k_is)
    (case ouint_Machine => k_is)
    (case oustr_Machine => k_is)
    (case oulist_Machine => k_is)
    (case outuple_Machine => k_is)
    (case oudict_Machine => k_is)
    (case ofletters_Machine => k_is)
    (case ofways_Machine => k_is)
    (case ofends_Machine => k_is)
    (case ma_Machineinit => k_is)
    (case mi_Machineinit => k_is)
    (case ml_Machineinit => k_is)
    (case mc_Machineinit => k_is)
    (case mk_Machineinit => k_is)
    (case ma_Machineeq => k_is)
    (case mi_Machineeq => k_is)
    (case ml_Machineeq => k_is)
    (case mc_Machineeq => k_is)
    (case mk_Machineeq => k_is)
