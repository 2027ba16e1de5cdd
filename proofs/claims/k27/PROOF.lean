import PyProof.Rows.All
import Wide.All
import OpenK.AllK
import Wide.FinOn
import HandS.ForMost
import HandS.Evl
import HandS.Walk
import HandS.SortKw
import HandS.DictComp
import HandS.IsInst
import HandS.ForExc
import HandS.TupAny
import HandS.Conv
import HandS.Property
import HandS.ExcIs
import HandS.Deep
import HandS.SetBool
import HandS.SetKeys
import HandS.OwnIter
import HandS.OwnEq
import HandS.IterNext
import PyProof.InstSpecial
import KE.KOwnIter
import HandS.ClsMeth
import OpenK.KDescr
import HandS.Defaults
import OpenK.KMore
import HandS.Style
import HandS.More
import HandS.HeadHook3
import HandS.Proxy
import KE.KUnpackStar
import HandS.Text
import HandS.HotCalls
import HandS.RaiseMore
import HandS.WordsDict
import KE.DataMinMax
import HandS.Wide
import PyProof.StrBlock2
import PyProof.Rows.StrSplitJoin
import PyProof.Rows.StrItems
import PyProof.StrLawsChain
import HandS.Codes
import HandS.TupLe
import KE.OsRunLaw
import PySem.Challenge.RW_appendhall_k27_tree_of_nodes
set_option Elab.async false
set_option linter.all false
set_option maxRecDepth 100000
namespace Ap
open PySem PySem.Spec PyProof.Rows L2 Evl
section
variable {K : PySem.W.Frag} {σ : L2.St} {H H' : Hp} {ta tb tc te : TE} {t u : TT} {x y z v w : V} {r r' : R2}
theorem ev_chain {k m : Bool} (ha : Ev ta σ H x) (hb : Ev tb σ H y) (hr : RV r x y H (.bl k)) (hc : Ev tc σ H z) (hr' : RV r' y z H (.bl m)) : Ev (tChain r r' ta tb tc) σ H (.bl (k && m)) := fun H1 e Q q =>
  ha H1 e _ fun H2 e2 => hb H2 (e.trans e2) _ fun H3 e3 => hr H3 ((e.trans e2).trans e3) _ fun H4 e4 => ⟨k, rfl, by
    cases k with
    | true =>
      show tc σ H4 _
      exact hc H4 (((e.trans e2).trans e3).trans e4) _ fun H5 e5 => hr' H5 ((((e.trans e2).trans e3).trans e4).trans e5) Q fun H6 e6 => q H6 ((((e2.trans e3).trans e4).trans e5).trans e6)
    | false =>
      show Q (.bl false) H4
      exact q H4 ((e2.trans e3).trans e4)⟩
theorem rc_int {i : Int} : RC (fun xs H Q => (∃ i, xs = [.int i] ∧ Q (.int i) H) ∨ ∃ k, xs = [.bl k] ∧ Q (.int (if k then 1 else 0)) H) [.int i] H (.int i) := fun H1 _ _ q => Or.inl ⟨i, rfl, q H1 (Ex.refl H1)⟩
theorem rc_len {p : Addr} {xs : List V} (h : SqL K H p xs) : RC (fun xs H Q => ∃ p ys, xs = [.ref p] ∧ (SqL K H p ys ∨ SqT K H p ys) ∧ Q (.int ys.length) H) [.ref p] H (.int (xs.length : Int)) := fun H1 e _ q => ⟨p, xs, rfl, Or.inl (ex_l e h), q H1 (Ex.refl H1)⟩
end
section
variable {K : PySem.W.Frag} {σ : L2.St} {H H' : Hp} {ta tb tc te td ty tv : TE} {t u : TT} {x y z v w : V} {D : Ends} {tz : TS}
/-- isinstance(x, T) of a plain value -/
theorem rc_isi {x : V} {T X : String} {b : Bool} (ht : ∀ H, TyX K H x (.type X)) (hb : kitB X T = some b) : RC (rIsi K) [x, .ty T] H (.bl b) := fun H1 _ _ q => ⟨x, .ty T, .type X, .type T, b, rfl, .ty T, ht H1, kit_ty hb, q H1 (Ex.refl H1)⟩
theorem q_call {sp : Sp} {dvs vs : List V} {E : XK} {ta : TA} {i : Nat} (h : EvA ta σ H vs) (k : ∀ H1, Ex H H1 → sp (vs ++ dvs) H1 (fun v H2 => tz D (σ.set i (some v)) H2) E) : tSeq (tAsg (tCall sp dvs E ta) (gName i)) tz D σ H := h H (Ex.refl H) _ fun H1 e => k H1 e
end
def Dr (ds : List Int) : Prop := ∀ d ∈ ds, 0 ≤ d ∧ d < 5040
theorem Dr.nil : Dr [] := fun _ h => nomatch h
theorem Dr.app {ds : List Int} {d : Int} (h : Dr ds) (h0 : 0 ≤ d) (h1 : d < 5040) : Dr (ds ++ [d]) := fun e he => by
  rcases List.mem_append.mp he with he | he
  · exact h e he
  · rw [List.mem_singleton.mp he]
    exact ⟨h0, h1⟩
/-- a draw: the k-th one, 0 behind the last -/
def drw (ds : List Int) (k : Nat) : Int := ds.getD k 0
def spDraw (K : PySem.W.Frag) : Sp := fun vs H Q _ => ∃ (a : Addr) (ds : List Int) (k : Nat), vs = [.ref a, .int (k : Int)] ∧ SqL K H a (ds.map V.int) ∧ RetV (.int (drw ds k)) H Q
theorem spDraw_v {K : PySem.W.Frag} {H : Hp} {a : Addr} {ds : List Int} {j : Int} {k : Nat} (h : SqL K H a (ds.map V.int)) (e : j = (k : Int)) : SpV (spDraw K) [.ref a, .int j] H (.int (drw ds k)) := fun H1 e1 Q q E =>
  ⟨a, ds, k, by rw [e], ex_l e1 h, fun H2 e2 => q H2 e2⟩
def drI (ds : List Int) (j : Int) : Int := drw ds j.toNat
theorem spDrawI {K : PySem.W.Frag} {H : Hp} {a : Addr} {ds : List Int} {j : Int} (h : SqL K H a (ds.map V.int)) (e : 0 ≤ j) : SpV (spDraw K) [.ref a, .int j] H (.int (drI ds j)) := spDraw_v h (by omega)
structure Df (K : PySem.W.Frag) (mg : Str → Option Value) (x : Str) (st : Stmt) (ps : List Str) (f : Addr) (fd : FuncData) : Prop where
  F : Fun K x x st f fd
  b : Binds K fd ps []
  g : mg x = some (.ref f)
theorem df_mk {K : PySem.W.Frag} {mg : Str → Option Value} {h : Heap} (X : K.In h) (G : h.Ns mainGlobals mg) {x : Str} {st : Stmt} {ps : List Str} {f : Addr} {oc : Value} {od an : Option Addr} {sl : Array (Option Value)} {kV dc pm cd ct : Value}
    (a : PySem.W.nsIn K mainGlobals x = some (some (.ref f))) (l : K.lookup f = some ⟨oc, od, .func (PySem.W.fnOf x x (defArgs st) (defBody st) (defScope st) .none kV dc pm an cd ct), sl⟩) (c : PySem.W.codeIn K cd x = true) (k : PySem.W.keepIn K (.ref f) = true)
    (hb : ∀ (kV doc pm : Value) (an : Option Addr) (cdv ct : Value) (us : List Value), us.length = ps.length → bindArgs (PySem.W.fnOf x x (defArgs st) (defBody st) (defScope st) .none kV doc pm an cdv ct) ⟨us, []⟩ = pure (ps.zip us)) :
    ∃ f fd, Df K mg x st ps f fd := ⟨_, _, fun_mk l c k, (fun_mk l c k).binds hb, PySem.W.mg_of X G a⟩
theorem law_mk {K : PySem.W.Frag} {mg : Str → Option Value} {h : Heap} (X : K.In h) (G : h.Ns mainGlobals mg) {st : Stmt} {fa f : Addr} {oc : Value} {od an : Option Addr} {sl : Array (Option Value)} {kV dc pm cd ct : Value} (hfa : mg "law" = some (.ref fa))
    (a : PySem.W.nsIn K mainGlobals "law" = some (some (.ref f))) (l : K.lookup f = some ⟨oc, od, .func (PySem.W.fnOf "law" "law" (defArgs st) (defBody st) (defScope st) .none kV dc pm an cd ct), sl⟩) (c : PySem.W.codeIn K cd "law" = true) (k : PySem.W.keepIn K (.ref f) = true)
    (hb : ∀ (kV doc pm : Value) (an : Option Addr) (cdv ct : Value) (s : Shared) (v : Value), BindsTo s (PySem.W.fnOf "law" "law" (defArgs st) (defBody st) (defScope st) .none kV doc pm an cdv ct) ⟨[v], []⟩ [("script", v)]) :
    ∃ fd, (∀ (s : Shared) (v : Value), BindsTo s fd ⟨[v], []⟩ [("script", v)]) ∧ Fun K "law" "law" st fa fd := by
  have e := hfa.symm.trans (PySem.W.mg_of X G a)
  cases e
  exact ⟨_, fun s v => hb kV dc pm an cd ct s v, fun_mk l c k⟩
def spLaw (K : PySem.W.Frag) : Sp := fun vs H Q _ => ∃ (a : Addr) (ns : List Int), vs = [.ref a] ∧ SqL K H a (ns.map V.int) ∧ ns.length ≤ 63 ∧ ∀ H', Q (.bl true) H'
end Ap
set_option Elab.async false
set_option linter.all false
set_option maxRecDepth 100000
namespace Ap
open PySem PySem.Spec PyProof.Rows L2 Evl
section
variable {K : PySem.W.Frag} {H H' : Hp}
mutual
theorem dp_mono (e : Ex H H') : ∀ (d : PyData) (v : V), Dp K H v d → Dp K H' v d
  | .none, _, h => by cases h; exact .non
  | .bool b, _, h => by cases h; exact .bl b
  | .int i, _, h => by cases h; exact .int i
  | .str x, _, h => by cases h; exact .str x
  | .list ds, _, h => by
    cases h with
    | lst hs ha => exact .lst (ex_l e hs) (dpa_mono e ds _ ha)
  | .tuple ds, _, h => by
    cases h with
    | tup hs ha => exact .tup (ex_t e hs) (dpa_mono e ds _ ha)
  | .dict _, _, h => by cases h
theorem dpa_mono (e : Ex H H') : ∀ (ds : List PyData) (vs : List V), DpAll K H vs ds → DpAll K H' vs ds
  | [], _, h => by cases h; exact .nil
  | d :: ds, _, h => by
    cases h with
    | cons h1 h2 => exact .cons (dp_mono e d _ h1) (dpa_mono e ds _ h2)
end
theorem dpa_len : ∀ {vs : List V} {ds : List PyData}, DpAll K H vs ds → vs.length = ds.length
  | _, _, .nil => rfl
  | _, _, .cons _ h => by rw [List.length_cons, List.length_cons, dpa_len h]
theorem dpa_app : ∀ {vs ws : List V} {ds es : List PyData}, DpAll K H vs ds → DpAll K H ws es → DpAll K H (vs ++ ws) (ds ++ es)
  | _, _, _, _, .nil, h => h
  | _, _, _, _, .cons h1 h2, h => .cons h1 (dpa_app h2 h)
theorem dpa_one {v : V} {d : PyData} (h : Dp K H v d) : DpAll K H [v] [d] := .cons h .nil
theorem dpa_drop : ∀ {vs : List V} {ds : List PyData} (n : Nat), DpAll K H vs ds → DpAll K H (vs.drop n) (ds.drop n)
  | _, _, 0, h => h
  | _, _, n + 1, .nil => .nil
  | _, _, n + 1, .cons _ h2 => dpa_drop n h2
theorem dpa_take : ∀ {vs : List V} {ds : List PyData} (n : Nat), DpAll K H vs ds → DpAll K H (vs.take n) (ds.take n)
  | _, _, 0, _ => .nil
  | _, _, n + 1, .nil => .nil
  | _, _, n + 1, .cons h1 h2 => .cons h1 (dpa_take n h2)
end
/-- no dict within, no text out of range, at most n deep -/
def Sd (n : Nat) (d : PyData) : Prop := d.canLay0 = true ∧ d.depth ≤ n
def Sds (n : Nat) (ds : List PyData) : Prop := ∀ d ∈ ds, Sd n d
theorem sds_lay : ∀ {n : Nat} {ds : List PyData}, Sds n ds → PyData.canLayAll0 ds = true ∧ PyData.depthAll ds ≤ n
  | _, [], _ => ⟨by simp [PyData.canLayAll0], by simp [PyData.depthAll]⟩
  | n, d :: ds, h => by
    have h1 := h d List.mem_cons_self
    have h2 := sds_lay (fun e he => h e (List.mem_cons_of_mem _ he))
    exact ⟨by simp [PyData.canLayAll0, h1.1, h2.1], by have := h1.2; have := h2.2; simp only [PyData.depthAll]; omega⟩
theorem sd_list {n : Nat} {ds : List PyData} (h : Sds n ds) : Sd (n + 1) (.list ds) := ⟨by simp [PyData.canLay0, (sds_lay h).1], by have := (sds_lay h).2; simp only [PyData.depth]; omega⟩
theorem sd_str {n : Nat} {x : Str} (h : PyData.strOk x = true) : Sd n (.str x) := ⟨by simp [PyData.canLay0, h], by simp [PyData.depth]⟩
theorem Sds.drop {n : Nat} {ds : List PyData} (h : Sds n ds) (k : Nat) : Sds n (ds.drop k) := fun e he => h e (List.mem_of_mem_drop he)
theorem Sds.take {n : Nat} {ds : List PyData} (h : Sds n ds) (k : Nat) : Sds n (ds.take k) := fun e he => h e (List.mem_of_mem_take he)
theorem Sd.shaped {d : PyData} {n : Nat} (h : Sd n d) (l : n ≤ 64) : SeqAt.shaped d = true := by
  unfold SeqAt.shaped
  rw [h.1, decide_eq_true (Nat.le_trans h.2 l)]
  rfl
def ov (H H1 H2 : Hp) : Hp := fun a => match H a with
  | some o => some o
  | none => match H1 a with
    | some _ => none
    | none => H2 a
theorem ov_ex {H H1 H2 : Hp} (e : Ex H H1) (e2 : Ex H1 H2) : Ex (ov H H1 H2) H2 := fun a o h => by
  unfold ov at h
  cases h0 : H a with
  | some o' =>
    rw [h0] at h
    rw [← h]
    exact e2 a o' (e a o' h0)
  | none =>
    rw [h0] at h
    cases h1 : H1 a with
    | some o' => rw [h1] at h; cases h
    | none => rw [h1] at h; exact h
theorem ov_base {H H1 H2 : Hp} : Ex H (ov H H1 H2) := fun a o h => by
  unfold ov
  rw [h]
theorem ov_grow {H H1 H2 H3 : Hp} (e2 : Ex H2 H3) : Ex (ov H H1 H2) (ov H H1 H3) := fun a o h => by
  unfold ov at h ⊢
  cases h0 : H a with
  | some o' => rw [h0] at h; exact h
  | none =>
    rw [h0] at h
    cases h1 : H1 a with
    | some o' => rw [h1] at h; cases h
    | none =>
      rw [h1] at h
      exact e2 a o h
theorem ov_later {H H1 H2 H3 : Hp} (e1 : Ex H1 H2) : Ex (ov H H2 H3) (ov H H1 H3) := fun a o h => by
  unfold ov at h ⊢
  cases h0 : H a with
  | some o' => rw [h0] at h; exact h
  | none =>
    rw [h0] at h
    cases h2 : H2 a with
    | some o' => rw [h2] at h; cases h
    | none =>
      rw [h2] at h
      have h1 : H1 a = none := fresh_back e1 h2
      rw [h1]
      exact h
theorem ov_new {H H1 H2 : Hp} {p : Addr} (e : Ex H H1) (e2 : Ex H1 H2) (hp : H2 p = none) {u : HO} : ov H H1 (upd H2 p u) p = some u := by
  have h1 : H1 p = none := fresh_back e2 hp
  have h0 : H p = none := fresh_back e h1
  unfold ov
  rw [h0, h1]
  exact upd_same
def EvD (K : PySem.W.Frag) (te : TE) (σ : L2.St) (H : Hp) (d : PyData) : Prop := ∀ H1, Ex H H1 → ∀ Q : VK, (∀ v H2, Ex H1 H2 → Dp K (ov H H1 H2) v d → Q v H2) → te σ H1 Q
/-- a new list of data -/
def EvN (K : PySem.W.Frag) (te : TE) (σ : L2.St) (H : Hp) (ds : List PyData) : Prop := ∀ H1, Ex H H1 → ∀ Q : VK, (∀ p xs H2, H1 p = none → Ex H1 H2 → H2 p = some (.lst xs) → DpAll K (ov H H1 H2) xs ds → Q (.ref p) H2) → te σ H1 Q
section
variable {K : PySem.W.Frag} {σ : L2.St} {H H' : Hp} {ta tb tc te : TE} {t u : TT} {x y z v w : V} {d e : PyData} {ds es : List PyData} {r : R2}
theorem ed_of (h : Ev te σ H v) (hd : Dp K H v d) : EvD K te σ H d := fun H1 e Q q => h H1 e Q fun H2 e2 => q v H2 e2 (dp_mono ov_base d v hd)
theorem ed_is (h : EvD K te σ H d) (q : d = e) : EvD K te σ H e := q ▸ h
theorem EvD.mono (e : Ex H H') (h : EvD K te σ H d) : EvD K te σ H' d := fun H1 a Q q => h H1 (e.trans a) Q fun v H2 e2 hd => q v H2 e2 (dp_mono (fun b o hb => by
  unfold ov at hb ⊢
  cases h0 : H b with
  | some o' => rw [h0] at hb; rw [e b o' h0]; exact hb
  | none =>
    rw [h0] at hb
    cases h1 : H1 b with
    | some o' => rw [h1] at hb; cases hb
    | none =>
      rw [h1] at hb
      rw [fresh_back a h1]
      exact hb) d v hd)
theorem ed_new (h : EvN K te σ H ds) : EvD K te σ H (.list ds) := fun H1 e Q q => h H1 e _ fun p xs H2 np e2 hp hs => q _ H2 e2 (.lst (sq_of (by
  have h1 := fresh_back e np
  unfold ov
  rw [h1, np]
  exact hp)) hs)
theorem atI_len {α β : Type} {xs : List α} {ys : List β} (h : xs.length = ys.length) {i : Int} {y : β} (hy : atI ys i = some y) : ∃ j : Nat, ys[j]? = some y ∧ ∀ x, xs[j]? = some x → atI xs i = some x := by
  unfold atI at hy ⊢
  cases e : ixN ys.length i with
  | none => rw [e] at hy; cases hy
  | some j =>
    rw [e] at hy
    refine ⟨j, hy, fun x hx => ?_⟩
    rw [h, e]
    exact hx
/-- the same part of two lists of one length -/
def cutA {α : Type} (xs : List α) (lo hi : Option Int) : List α := (xs.drop (HT.sIx xs.length 0 lo)).take (HT.sIx xs.length xs.length hi - HT.sIx xs.length 0 lo)
theorem dpa_cut {vs : List V} {lo hi : Option Int} (h : DpAll K H vs ds) : DpAll K H (cutV vs lo hi) (cutA ds lo hi) := by
  unfold cutV cutA
  rw [dpa_len h]
  exact dpa_take _ (dpa_drop _ h)
theorem en_slL {tl th : TO} {lo hi : Option Int} (h : EvD K te σ H (.list ds)) (h1 : EvO tl σ H lo) (h2 : EvO th σ H hi) : EvN K (tSl (rSlL K) te tl th) σ H (cutA ds lo hi) := fun H1 e Q q =>
  h H1 e _ fun v H2 e2 hv => h1 H2 (e.trans e2) _ fun H3 e3 => h2 H3 ((e.trans e2).trans e3) _ fun H4 e4 => by
    have e24 := e2.trans (e3.trans e4)
    cases hv with
    | @lst a xs _ hs hd =>
      exact ⟨a, xs, rfl, ex_l ((ov_ex e e2).trans (e3.trans e4)) hs, fun p hp => q p _ _ (fresh_back e24 hp) (e24.trans (Ex.new hp)) upd_same (dpa_cut (dpa_mono (ov_grow ((e3.trans e4).trans (Ex.new hp))) ds xs hd))⟩
theorem ev_eqD {n m : Nat} (ha : EvD K ta σ H d) (hb : EvD K tb σ H e) (sd : Sd n d) (se : Sd m e) (hn : n ≤ 64) (hm : m ≤ 64) : Ev (tOp (rEqD K) ta tb) σ H (.bl (PyData.eqv d e)) := fun H1 a Q q =>
  ha H1 a _ fun v H2 e2 hv => hb H2 (a.trans e2) _ fun w H3 e3 hw => ⟨d, e, dp_mono ((ov_ex a e2).trans e3) d v hv, dp_mono (ov_ex (a.trans e2) e3) e w hw, sd.shaped hn, se.shaped hm, q H3 (e2.trans e3)⟩
theorem ev_neD {n m : Nat} (ha : EvD K ta σ H d) (hb : EvD K tb σ H e) (sd : Sd n d) (se : Sd m e) (hn : n ≤ 64) (hm : m ≤ 64) : Ev (tOp (rNeD K) ta tb) σ H (.bl (!PyData.eqv d e)) := fun H1 a Q q =>
  ha H1 a _ fun v H2 e2 hv => hb H2 (a.trans e2) _ fun w H3 e3 hw => ⟨d, e, dp_mono ((ov_ex a e2).trans e3) d v hv, dp_mono (ov_ex (a.trans e2) e3) e w hw, sd.shaped hn, se.shaped hm, q H3 (e2.trans e3)⟩
theorem ev_lenD (ha : EvD K ta σ H (.list ds)) : Ev (tCB (fun xs H Q => ∃ p ys, xs = [.ref p] ∧ (SqL K H p ys ∨ SqT K H p ys) ∧ Q (.int ys.length) H) (tCons ta tNil)) σ H (.int (ds.length : Int)) := fun H1 e Q q =>
  ha H1 e _ fun v H2 e2 hv => by
    cases hv with
    | @lst a xs _ hs hd => exact ⟨a, xs, rfl, .inl (ex_l (ov_ex e e2) hs), by rw [dpa_len hd]; exact q H2 e2⟩
variable {D : Ends} {tz : TS} {i : Nat}
theorem et_nil : EvT tYes σ H true := fun H1 _ _ q => q H1 (Ex.refl H1)
end
end Ap
set_option Elab.async false
set_option linter.all false
set_option maxRecDepth 100000
namespace Ap
open PySem PySem.Spec PyProof.Rows L2 Evl
def tMX (C : Addr) (m : Str) (sp : Sp) (E : L2.St → XK) (ta : TE) (t : TA) : TE := fun σ H Q => ta σ H fun x G => ∃ a dx fs, x = .ref a ∧ G a = some (.ins C dx fs) ∧ fs.lookup m = none ∧ t σ G fun vs G2 => sp (x :: vs) G2 Q (E σ)
theorem pe_mx {X : Cx} {CX : CXT} {k : Nat} {f C : Addr} {fd : FuncData} {ps : List Str} {sp : Sp} {E : L2.St → XK} {m : Str} {pos apos : Pos} {e o : Expr} {es : List Expr} {ta : TE} {t : TA} {pl : Sem Bool}
    (he : PE X o ta) (c : Cls X.K C) (hm : Meth X.K C m f) (F : FnOk X.prog X.w X.K X.mg X.base CX k f fd ps sp) (hr : Room k X.A) (hb : Binds X.K fd ps []) (hx : ∀ σ, PassesAt CX X σ (E σ)) (ha : PA X (e :: es) t)
    (z1 : starEach (e :: es) X.env = (false, eval e X.env) :: starEach es X.env := by rfl) (z2 : (backTo pos (starEach es X.env)).any (·.1) = false := by rfl)
    (z3 : eval (.Call (.Attribute o m apos) (e :: es) [] pos) X.env = (do { let ov ← eval o X.env; standAt apos.atName; let (f, first) ← holding [ov] (getMethod ov m pl); callWith pos f first (backTo pos (starEach (e :: es) X.env)) (backToKw pos (keywordEach [] X.env)) }) := by rfl) :
    PE X (.Call (.Attribute o m apos) (e :: es) [] pos) (tMX C m sp E ta t) := ⟨fun pins s σ H Q I h => PySem.W.methodCall_KW (pl := pl) (thn (he.run pins s σ H _ I h) fun u s1 hh => by
  obtain ⟨x, G, J, rx, a, dx, fs, ex, ea, l, q⟩ := hh
  subst ex
  cases (show u = Value.ref a from rx)
  exact getmeth_ok J ea c hm l (PySem.W.callWith_K (first := [.ref a]) (h₀ := X.base) I.ok.mod.kin hm.kp (thn (ha.run pos pins s1 σ G _ J q) fun us s2 ⟨vs, G2, J2, r, q2⟩ => ⟨J2.kIn, run_fnS (us := .ref a :: us) (vs := .ref a :: vs) F hr hb (hx σ) J2 (.cons rfl r) q2⟩) z1 z2)) z3⟩
/-- a block under a proposition -/
theorem pss_guard {X : Cx} {b : List Stmt} {t : TS} {p : Prop} (h : p → PSs X b t) : PSs X b (fun D σ H => p ∧ t D σ H) := ⟨fun pins s σ H D I q => (h q.1).run pins s σ H D I q.2⟩
/-- try: .. except X as n: suite, the errors of the body of one own class without fields -/
theorem ps_try_own {X : Cx} {C : Addr} {x n : Str} {c : Value} {i : Nat} {body suite : List Stmt} {b₀ : Stmt} {np pos pos' : Pos} {tb : WX → TS} {ts : Addr → TS} {Wout : WX} (hs : X.stack = X.env :: X.outer) (hf : X.env.frame = some X.env.locals) (hN : X.N.Nodup) (hi : X.N[i]? = some n) (hln : X.env.kindOf n = some .local) (hc : Names X x c) (tk : Takes X Wout)
    (hb : ∀ (W : WX) (pn : List (Addr × Obj)) (xe : Value → Shared → Prop), Takes (X.tr pn xe) W → PSs (X.tr pn xe) body (tb W))
    (hsu : ∀ (a : Addr) (oe : Obj) (pn : List (Addr × Obj)), Zc (.ref C) none oe → (∃ vs, oe.data = .fields vs) → PSs (X.suite a ((a, oe) :: pn)) (b₀ :: suite) (ts a)) :
    PS X (.Try body [.ExceptHandler (some (.Name x np)) (some n) (b₀ :: suite) pos'] [] [] pos) (fun D σ H => tb (wAs X.K c i (fun a cls d D σ H => (cls = .ref C ∧ d = none) ∧ ts a D σ H) Wout D) D σ H) :=
  ps_try_as hs hf hN hi hln hc tk (fun W pn xe tk' _ => hb W pn xe tk') (fun a oe cls d pn hz hf => pss_guard fun h => by
    obtain ⟨h1, h2⟩ := h
    subst h1
    subst h2
    exact hsu a oe pn hz hf)
/-- an own error class C over ValueError (through B), as the top left it -/
structure Err (K : PySem.W.Frag) (mg : Str → Option Value) (x : Str) (C B : Addr) : Prop where
  g : mg x = some (.ref C)
  kp : PySem.W.keepIn K (.ref C) = true
  ex : PySem.W.excIn K C [.type "ValueError", .type "Exception", .type "BaseException", .type "object"] "ValueError.__new__" = true
  bs : PySem.W.subIn K (.ref C) (.type "BaseException") = some true
  ty : PySem.W.typeIn K (.ref C) = some (.type "type")
  me : PySem.W.exmOne K (.ref C) (.ref C) = some true
  ec : ExcC K C
  k1 : PySem.W.kitOne K (.ref C) (.ref B) = some true
  k2 : PySem.W.kitOne K (.ref C) (.type "ValueError") = some true
theorem Err.mk' {X : Cx} {x m : Str} {C B : Addr} {j : Nat} {p p2 pos : Pos} (T : Err X.K X.mg x C B) (hg : Gl X x) (hdb : (x == ("__debug__" : Str)) = false := by decide) : PMk X (.Call (.Name x p) [.Constant (.str m) j p2] [] pos) (fun _ H Q => Q (.ref C) none H) :=
  pmk_own PySem.F.excBase_ValueError T.ex T.g T.kp (raises_own T.bs T.ty) hg hdb
/-- isinstance(e, T), e the error in hand -/
theorem ev_isE {K : PySem.W.Frag} {σ : L2.St} {H : Hp} {tx : TE} {D a : Addr} {i : Nat} {c : V} {cv : Value} {b : Bool} (h : σ[i]? = some (some (.ref a))) (hx : Ev tx σ H c) (hc : ∀ u, RelV c u → u = cv) (k : PySem.W.kitOne K (.ref D) cv = some b) : Ev (tCB (rIsE K D a) (tCons (tVar i) (tCons tx tNil))) σ H (.bl b) :=
  ev_cb (ea_cons (ev_var h) (ea_cons hx ea_nil)) fun H1 _ Q q => ⟨c, cv, b, rfl, hc, k, q H1 (Ex.refl H1)⟩
theorem cutA_from {α : Type} (xs : List α) (m : Nat) : cutA xs (some (m : Int)) none = xs.drop m := by
  unfold cutA
  rw [show HT.sIx xs.length 0 (some ((m : Nat) : Int)) = min m xs.length from HT.sIx_nat xs.length 0 m, HT.sIx_none]
  by_cases h : m ≤ xs.length
  · rw [Nat.min_eq_left h, ← List.length_drop, List.take_length]
  · rw [Nat.min_eq_right (by omega), List.drop_length, List.drop_eq_nil_of_le (by omega), List.take_nil]
structure Dm (K : PySem.W.Frag) (C : Addr) (x qual : Str) (st : Stmt) (ps : List Str) (f : Addr) (fd : FuncData) : Prop where
  F : Fun K x qual st f fd
  b : Binds K fd ps []
  m : Meth K C x f
theorem dm_mk {K : PySem.W.Frag} {h : Heap} (X : K.In h) {C : Addr} {x qual : Str} {st : Stmt} {ps : List Str} {f : Addr} {oc : Value} {od an : Option Addr} {sl : Array (Option Value)} {kV dc pm cd ct : Value}
    (a : PySem.W.findIn K (.ref C) x = some (some (.ref f))) (i : PySem.W.isFn K (.ref f) = true) (l : K.lookup f = some ⟨oc, od, .func (PySem.W.fnOf x qual (defArgs st) (defBody st) (defScope st) .none kV dc pm an cd ct), sl⟩) (c : PySem.W.codeIn K cd qual = true) (k : PySem.W.keepIn K (.ref f) = true)
    (hb : ∀ (kV doc pm : Value) (an : Option Addr) (cdv ct : Value) (us : List Value), us.length = ps.length → bindArgs (PySem.W.fnOf x qual (defArgs st) (defBody st) (defScope st) .none kV doc pm an cdv ct) ⟨us, []⟩ = pure (ps.zip us)) :
    ∃ f fd, Dm K C x qual st ps f fd := ⟨_, _, fun_mk l c k, (fun_mk l c k).binds hb, ⟨a, i, k⟩⟩
/-- a class of the text with an __init__ -/
structure Kl (K : PySem.W.Frag) (mg : Str → Option Value) (x : Str) (C : Addr) : Prop where
  cl : Cls K C
  g : mg x = some (.ref C)
  makes : PySem.W.makesIn K C = true
  kp : PySem.W.keepIn K (.ref C) = true
theorem Kl.make {K : PySem.W.Frag} {mg : Str → Option Value} {x : Str} {C f : Addr} {q : Str} {st : Stmt} {ps : List Str} {fd : FuncData} (L : Kl K mg x C) (D : Dm K C "__init__" q st ps f fd) : Mk K C f := ⟨L.makes, D.m.at_, D.m.fn, L.kp⟩
theorem kl_mk {K : PySem.W.Frag} {h : Heap} {mg : Str → Option Value} {x : Str} {C : Addr} (X : K.In h) (G : h.Ns mainGlobals mg) (a : PySem.W.nsIn K mainGlobals x = some (some (.ref C))) (pg : PySem.W.plainGet K C Str.empty = true) (hd : PySem.W.hasDictIn K C = true) (po : PySem.W.plainOver K C = true)
    (sa : PySem.W.findIn K (.ref C) "__setattr__" = some (some (.builtin "object.__setattr__"))) (mk : PySem.W.makesIn K C = true) (kp : PySem.W.keepIn K (.ref C) = true) : Kl K mg x C := ⟨⟨pg, hd, po, sa⟩, PySem.W.mg_of X G a, mk, kp⟩
theorem na_mk {K : PySem.W.Frag} {h : Heap} {C : Addr} {f : Str} (X : K.In h) (a : PySem.W.findIn K (.ref C) f = some none) : NoAttr K C f := a
/-- a property of an own class: its getter -/
structure Pr (K : PySem.W.Frag) (C : Addr) (x qual : Str) (st : Stmt) (f : Addr) (fd : FuncData) : Prop where
  F : Fun K x qual st f fd
  b : Binds K fd ["self"] []
  p : ∃ p, PropOf K C x p f
theorem pr_mk {K : PySem.W.Frag} {h : Heap} (X : K.In h) {C : Addr} {x qual : Str} {st : Stmt} {f p : Addr} {rest : List Value} {oc : Value} {od an : Option Addr} {sl : Array (Option Value)} {kV dc pm cd ct : Value}
    (a : PySem.W.findIn K (.ref C) x = some (some (.ref p))) (g : PySem.W.specialIn K (.ref p) "__get__" = some (some (.builtin "property.__get__"))) (t : PySem.W.takesIn K (.ref p) = some true) (r : PySem.W.recIn K p "property" = some (.ref f :: rest))
    (l : K.lookup f = some ⟨oc, od, .func (PySem.W.fnOf x qual (defArgs st) (defBody st) (defScope st) .none kV dc pm an cd ct), sl⟩) (c : PySem.W.codeIn K cd qual = true) (k : PySem.W.keepIn K (.ref f) = true)
    (hb : ∀ (kV doc pm : Value) (an : Option Addr) (cdv ct : Value) (us : List Value), us.length = (["self"] : List Str).length → bindArgs (PySem.W.fnOf x qual (defArgs st) (defBody st) (defScope st) .none kV doc pm an cdv ct) ⟨us, []⟩ = pure ((["self"] : List Str).zip us)) :
    ∃ f fd, Pr K C x qual st f fd := ⟨_, _, fun_mk l c k, (fun_mk l c k).binds hb, p, ⟨a, g, t, rest, r⟩⟩
theorem pe_pr {X : Cx} {CX : CXT} {k : Nat} {C g : Addr} {f : Str} {fd : FuncData} {sp : Sp} {E : XK} {e : Expr} {pos : Pos} {ta : TE} {q : Str} {st : Stmt} (he : PE X e ta) (c : Cls X.K C) (hp : Pr X.K C f q st g fd) (F : FnOk X.prog X.w X.K X.mg X.base CX k g fd ["self"] sp) (hr : Room (k + 1) X.A) (hx : Passes CX X.nox E)
    (hab : attributeBase e f X.env (eval e X.env) = eval e X.env) : PE X (.Attribute e f pos) (tProp C sp [] E ta) := by
  obtain ⟨p, hp'⟩ := hp.p
  exact pe_prop he c hp' F hr hp.b .nil hx hab
section
variable {K : PySem.W.Frag} {σ : L2.St} {H H' : Hp} {ta tb te : TE} {ds es : List PyData}
theorem rc_max2 {i j : Int} : RC (fun xs H Q => ∃ i j, xs = [.int i, .int j] ∧ Q (.int (if j > i then j else i)) H) [.int i, .int j] H (.int (if j > i then j else i)) := fun H1 _ Q q => ⟨i, j, rfl, q H1 (Ex.refl H1)⟩
theorem rc_min2 {i j : Int} : RC (fun xs H Q => ∃ i j, xs = [.int i, .int j] ∧ Q (.int (if j < i then j else i)) H) [.int i, .int j] H (.int (if j < i then j else i)) := fun H1 _ Q q => ⟨i, j, rfl, q H1 (Ex.refl H1)⟩
end
theorem kit_own {K : PySem.W.Frag} {t : Value} {B : Addr} (hd : PySem.W.hasDictIn K B = true) (ht : PySem.W.typeIn K (.ref B) = some (.type "type")) (hs : PySem.W.subIn K t (.ref B) = some true) : PySem.W.kitOne K t (.ref B) = some true := by
  obtain ⟨cd, hc, _⟩ := PySem.W.any_some hd
  unfold PySem.W.kitOne
  split
  · rfl
  · show (if ((PySem.W.clsIn K B).isSome && PySem.W.typeIn K (.ref B) == some (.type "type")) = true then PySem.W.subIn K t (.ref B) else none) = some true
    rw [hc, ht, if_pos (by rfl)]
    exact hs
theorem kit_blt {K : PySem.W.Frag} {t : Value} {n : String} (hm : PySem.W.kitMeta n = true) (hs : PySem.W.subIn K t (.type n) = some true) : PySem.W.kitOne K t (.type n) = some true := by
  unfold PySem.W.kitOne
  split
  · rfl
  · show (if PySem.W.kitMeta n = true then PySem.W.subIn K t (.type n) else none) = some true
    rw [if_pos hm]
    exact hs
theorem err_mk {K : PySem.W.Frag} {h : Heap} {mg : Str → Option Value} {x y : Str} {C B : Addr} (X : K.In h) (G : h.Ns mainGlobals mg) (a : PySem.W.nsIn K mainGlobals x = some (some (.ref C))) (b : PySem.W.nsIn K mainGlobals y = some (some (.ref B))) (kp : PySem.W.keepIn K (.ref C) = true)
    (ex : PySem.W.excIn K C [.type "ValueError", .type "Exception", .type "BaseException", .type "object"] "ValueError.__new__" = true) (bs : PySem.W.subIn K (.ref C) (.type "BaseException") = some true) (ty : PySem.W.typeIn K (.ref C) = some (.type "type")) (ss : PySem.W.subIn K (.ref C) (.ref C) = some true)
    (hg : PySem.W.findIn K (.ref C) "__getattribute__" = some (some (.builtin "BaseException.__getattribute__"))) (hk : PySem.W.findIn K (.ref C) "__getattr__" = some none) (hd : PySem.W.hasDictIn K C = true) (ha : PySem.W.findIn K (.ref C) "__class__" = some (some (.builtin "object.__class__")))
    (hn : PySem.W.specialIn K (.builtin "object.__class__") "__get__" = some (some (.builtin "getset_descriptor.__get__"))) (ht : PySem.W.takesIn K (.builtin "object.__class__") = some true) (hm : PySem.W.mroIn K C (.type "object") = some true)
    (dB : PySem.W.hasDictIn K B = true) (tB : PySem.W.typeIn K (.ref B) = some (.type "type")) (sb : PySem.W.subIn K (.ref C) (.ref B) = some true) (sv : PySem.W.subIn K (.ref C) (.type "ValueError") = some true) : Err K mg x C B ∧ mg y = some (.ref B) :=
  ⟨⟨PySem.W.mg_of X G a, kp, ex, bs, ty, PySem.W.exm_ref bs hd ty ss, ⟨hg, hk, bs, hd, ha, hn, ht, hm⟩, kit_own dB tB sb, kit_blt (by decide +kernel) sv⟩, PySem.W.mg_of X G b⟩
end Ap
set_option Elab.async false
set_option linter.all false
set_option maxRecDepth 100000
namespace Ap
open PySem PySem.Spec PyProof.Rows L2 Evl
mutual
inductive Dx (K : PySem.W.Frag) (H : Hp) : V → PyData → Prop
  | non : Dx K H .non .none
  | bl (b : Bool) : Dx K H (.bl b) (.bool b)
  | int (i : Int) : Dx K H (.int i) (.int i)
  | str (x : Str) : Dx K H (.str x) (.str x)
  | lst {a : Addr} {xs : List V} {ds : List PyData} : SqL K H a xs → DxAll K H xs ds → Dx K H (.ref a) (.list ds)
  | tup {a : Addr} {xs : List V} {ds : List PyData} : SqT K H a xs → DxAll K H xs ds → Dx K H (.ref a) (.tuple ds)
  | dic {a : Addr} {kvs : List (Key × V)} : H a = some (.dK kvs) → Dx K H (.ref a) (.dict [])
inductive DxAll (K : PySem.W.Frag) (H : Hp) : List V → List PyData → Prop
  | nil : DxAll K H [] []
  | cons {v : V} {vs : List V} {d : PyData} {ds : List PyData} : Dx K H v d → DxAll K H vs ds → DxAll K H (v :: vs) (d :: ds)
end
section
variable {K : PySem.W.Frag} {H H' : Hp}
mutual
theorem dx_mono (e : Ex H H') : ∀ (d : PyData) (v : V), Dx K H v d → Dx K H' v d
  | .none, _, h => by cases h; exact .non
  | .bool b, _, h => by cases h; exact .bl b
  | .int i, _, h => by cases h; exact .int i
  | .str x, _, h => by cases h; exact .str x
  | .list ds, _, h => by
    cases h with
    | lst hs ha => exact .lst (Evl.ex_l e hs) (dxa_mono e ds _ ha)
  | .tuple ds, _, h => by
    cases h with
    | tup hs ha => exact .tup (ex_t e hs) (dxa_mono e ds _ ha)
  | .dict _, _, h => by
    cases h with
    | dic h => exact .dic (e _ _ h)
theorem dxa_mono (e : Ex H H') : ∀ (ds : List PyData) (vs : List V), DxAll K H vs ds → DxAll K H' vs ds
  | [], _, h => by cases h; exact .nil
  | d :: ds, _, h => by
    cases h with
    | cons h1 h2 => exact .cons (dx_mono e d _ h1) (dxa_mono e ds _ h2)
end
theorem dxa_len : ∀ {vs : List V} {ds : List PyData}, DxAll K H vs ds → vs.length = ds.length
  | _, _, .nil => rfl
  | _, _, .cons _ h => by rw [List.length_cons, List.length_cons, dxa_len h]
theorem dxa_at : ∀ {vs : List V} {ds : List PyData} {i : Nat} {d : PyData}, DxAll K H vs ds → ds[i]? = some d → ∃ v, vs[i]? = some v ∧ Dx K H v d
  | _, _, i, d, .nil, h => by simp at h
  | _, _, 0, d, .cons h1 _, h => ⟨_, rfl, by
    have e := Option.some.inj (show some _ = some d from h)
    rw [← e]
    exact h1⟩
  | _, _, i + 1, d, .cons _ h2, h => by
    obtain ⟨v, e, q⟩ := dxa_at (i := i) h2 (by simpa using h)
    exact ⟨v, by simpa using e, q⟩
end
def EvX (K : PySem.W.Frag) (te : TE) (σ : L2.St) (H : Hp) (d : PyData) : Prop := ∀ H1, Ex H H1 → ∀ Q : VK, (∀ v H2, Ex H1 H2 → Dx K (ov H H1 H2) v d → Q v H2) → te σ H1 Q
def EvXs (K : PySem.W.Frag) (ta : TA) (σ : L2.St) (H : Hp) (ds : List PyData) : Prop := ∀ H1, Ex H H1 → ∀ Q : List V → Hp → Prop, (∀ vs H2, Ex H1 H2 → DxAll K (ov H H1 H2) vs ds → Q vs H2) → ta σ H1 Q
section
variable {K : PySem.W.Frag} {σ : L2.St} {H H' : Hp} {ta tb tc te : TE} {t u : TT} {x y z v w : V} {d e : PyData} {ds es : List PyData} {r : R2}
theorem ex_of (h : Ev te σ H v) (hd : Dx K H v d) : EvX K te σ H d := fun H1 e Q q => h H1 e Q fun H2 e2 => q v H2 e2 (dx_mono ov_base d v hd)
theorem ex_var {i : Nat} (h : σ[i]? = some (some v)) (hd : Dx K H v d) : EvX K (tVar i) σ H d := ex_of (ev_var h) hd
theorem EvX.mono (e : Ex H H') (h : EvX K te σ H d) : EvX K te σ H' d := fun H1 a Q q => h H1 (e.trans a) Q fun v H2 e2 hd => q v H2 e2 (dx_mono (fun b o hb => by
  unfold ov at hb ⊢
  cases h0 : H b with
  | some o' => rw [h0] at hb; rw [e b o' h0]; exact hb
  | none =>
    rw [h0] at hb
    cases h1 : H1 b with
    | some o' => rw [h1] at hb; cases hb
    | none =>
      rw [h1] at hb
      rw [fresh_back a h1]
      exact hb) d v hd)
theorem exs_nil : EvXs K tNil σ H [] := fun H1 _ _ q => q [] H1 (Ex.refl H1) .nil
theorem exs_cons {tr : TA} (h : EvX K te σ H d) (hr : EvXs K tr σ H ds) : EvXs K (tCons te tr) σ H (d :: ds) := fun H1 e Q q =>
  h H1 e _ fun v H2 e2 hv => hr H2 (e.trans e2) _ fun vs H3 e3 hs => q _ H3 (e2.trans e3) (.cons (dx_mono (ov_grow e3) d v hv) (dxa_mono (ov_later e2) ds vs hs))
theorem ex_ixT {i : Int} (ha : EvX K ta σ H (.tuple ds)) (hb : Ev tb σ H (.int i)) (h : atI ds i = some d) : EvX K (tOp (rIxT K) ta tb) σ H d := fun H1 e Q q =>
  ha H1 e _ fun v H2 e2 hv => hb H2 (e.trans e2) _ fun H3 e3 => by
    cases hv with
    | tup hs hd =>
      obtain ⟨j, hj, hx⟩ := atI_len (dxa_len hd) h
      obtain ⟨x, ex, dx⟩ := dxa_at hd hj
      exact ⟨_, _, i, x, rfl, rfl, ex_t ((ov_ex e e2).trans e3) hs, hx x ex, q x H3 (e2.trans e3) (dx_mono (ov_grow e3) d x dx)⟩
/-- a list that stands in the base, by its items -/
theorem exn_tup {a : Addr} {xs : List V} (ha : Ev ta σ H (.ref a)) (hs : SqL K H a xs) (hd : DxAll K H xs ds) : EvX K (tThen ta (kTup K)) σ H (.tuple ds) := fun H1 e Q q =>
  ha H1 e _ fun H2 e2 => .inl ⟨a, xs, rfl, Evl.ex_l (e.trans e2) hs, fun p hp => q _ _ (e2.trans (Ex.new hp)) (.tup (st_of (ov_new e e2 hp)) (dxa_mono ov_base ds xs hd))⟩
theorem ev_lenXT (ha : EvX K ta σ H (.tuple ds)) : Ev (tCB (fun xs H Q => ∃ p ys, xs = [.ref p] ∧ (SqL K H p ys ∨ SqT K H p ys) ∧ Q (.int ys.length) H) (tCons ta tNil)) σ H (.int (ds.length : Int)) := fun H1 e Q q =>
  ha H1 e _ fun v H2 e2 hv => by
    cases hv with
    | @tup a xs _ hs hd => exact ⟨a, xs, rfl, .inr (ex_t (ov_ex e e2) hs), by rw [dxa_len hd]; exact q H2 e2⟩
variable {D : Ends} {tz : TS} {i : Nat}
end
end Ap
set_option Elab.async false
set_option linter.all false
set_option maxRecDepth 100000
set_option maxHeartbeats 2000000
set_option Elab.async false
set_option linter.all false
set_option maxRecDepth 100000
set_option maxHeartbeats 2000000
namespace Ap
open PySem PySem.Spec PyProof.Rows L2 Evl
section
variable {X : Cx} {pins : List (Addr × Obj)} {σ : L2.St} {H : Hp} {s : Shared}
theorem own_call {A1 : Around} {CX : CXT} {n : Nat} {f a : Addr} {fd : FuncData} {ps : List Str} {sp : Sp} {E : XK} {Q : VK} (sb : Sub X n A1) (I : L2.Inv X pins σ H s) (F : FnOk X.prog X.w X.K X.mg X.base CX n f fd ps sp) (b : Binds X.K fd ps []) {Z : Value → Shared → Prop} (hx : ∀ e s', CX X.stack H s E e s' → Z e s') (hsp : sp [.ref a] H Q E) :
    wpAny (model X.prog X.w) A1 (call (.ref f) [.ref a]) (fun u s' => ∃ v H', L2.Inv X pins σ H' s' ∧ RelV v u ∧ Q v H') Z s := by
  have e0 : Env0 X.prog X.w X.K X.mg X.base A1 X.stack s H := by
    have e := I.env0
    exact ⟨by rw [sb.fr]; exact e.frames, e.mod, e.bs, e.bsz, e.funs, e.frf, e.hok, e.bare⟩
  have hl := F.len _ _ _ _ hsp
  refine wpAny_call (codeAny_mono (F.run A1 X.stack s H ⟨[.ref a], []⟩ [.ref a] [.ref a] Q E sb.room e0 (by
    have := b s [.ref a] I.kIn (by simpa using hl)
    simpa using this) (.cons rfl .nil) hsp) fun r s' hq => ?_)
  cases r with
  | error e => exact hx e s' hq
  | ok fl =>
    cases fl with
    | ret u => exact I.after hq
    | next => exact False.elim hq
    | brk => exact False.elim hq
    | cont => exact False.elim hq
theorem own_len {A1 : Around} {CX : CXT} {n : Nat} {f a C dx : Addr} {fs : List (Str × V)} {fd : FuncData} {ps : List Str} {sp : Sp} {E : XK} {R : Int → Hp → Prop} (sb : Sub X n A1.in1) (I : L2.Inv X pins σ H s) (ha : H a = some (.ins C dx fs)) (m : Meth X.K C "__len__" f)
    (F : FnOk X.prog X.w X.K X.mg X.base CX n f fd ps sp) (b : Binds X.K fd ps []) {Z : Value → Shared → Prop} (hx : ∀ e s', CX X.stack H s E e s' → Z e s') (hsp : sp [.ref a] H (fun v H' => ∃ k : Int, v = .int k ∧ 0 ≤ k ∧ k < 2 ^ 63 ∧ R k H') E) :
    wpAny (model X.prog X.w) A1 (call (.builtin "len") [.ref a]) (fun r s' => ∃ (k : Int) (t : Tok) (H' : Hp), r = .int k t ∧ 0 ≤ k ∧ k < 2 ^ 63 ∧ L2.Inv X pins σ H' s' ∧ R k H') Z s := by
  obtain ⟨mA, J, _⟩ := ins_get I.hok ha
  obtain ⟨od, J, _⟩ := J.look
  refine Calls.call_function_entry kind_len plain_len entry_len (args_len1 _) ?_
  unfold Builtin.«len»
  refine wpAny_bind (m := oneArg "len" _) (wpAny_pure ?_)
  refine wpAny_bind (m := callSpecial? (.ref a) (Str.ofString "__len__")) (PySem.W.special_fn (name := "__len__") (args := []) I.kIn J m.at_ (beq_iff_eq.mp m.fn) (wpAny_mono (own_call sb I F b hx hsp) (fun u s' hr => ?_) fun _ _ y => y))
  obtain ⟨v, H', I', rv, k, rfl, h0, h1, hR⟩ := hr
  obtain ⟨t, rfl⟩ := rv
  refine wpAny_bind (wpAny_holding (wpAny_pure ?_))
  refine wpAny_bind (wpAny_letGo ?_)
  show wpAny _ _ (if k < 0 then _ else _) _ _ _
  rw [if_neg (by omega)]
  show wpAny _ _ (if k ≥ 2 ^ 63 then _ else _) _ _ _
  rw [if_neg (by omega)]
  exact wpAny_bind (wpAny_mkInt (wpAny_pure ⟨_, rfl, k, _, H', rfl, h0, h1, I'.tok _, hR⟩))
def rLenO (C : Addr) (sp : Sp) (E : XK) : List V → Hp → VK → Prop := fun xs H Q => ∃ a dx fs, xs = [V.ref a] ∧ H a = some (.ins C dx fs) ∧ sp [.ref a] H (fun v H' => ∃ k : Int, v = .int k ∧ 0 ≤ k ∧ k < 2 ^ 63 ∧ Q v H') E
theorem call_lenO {CX : CXT} {n : Nat} {f C : Addr} {fd : FuncData} {ps : List Str} {sp : Sp} {E : XK} (m : Meth X.K C "__len__" f) (F : FnOk X.prog X.w X.K X.mg X.base CX n f fd ps sp) (hr : Room (n + 1) X.A) (b : Binds X.K fd ps []) (hx : Passes CX X E) : CallR X (.builtin "len") (rLenO C sp E) := by
  intro pins s σ H xs us Q I r h
  obtain ⟨a, dx, fs, rfl, ha, hsp⟩ := h
  obtain ⟨u, rfl, rx⟩ := vals1 r
  cases rx
  refine wpAny_mono (own_len (R := fun k H' => Q (.int k) H') (Sub.in1 (⟨hr, rfl⟩ : Sub X (n + 1) X.A)) I ha m F b (fun e s' hq => hx pins σ H s e s' I hq) (by
    refine cast (congrArg (fun z => sp [.ref a] H z E) (funext fun v => funext fun H' => propext ?_)) hsp
    exact ⟨fun ⟨k, e, h0, h1, q⟩ => ⟨k, e, h0, h1, e ▸ q⟩, fun ⟨k, e, h0, h1, q⟩ => ⟨k, e, h0, h1, e ▸ q⟩⟩)) (fun r s' hr => ?_) fun _ _ y => y
  obtain ⟨k, t, H', rfl, _, _, I', q⟩ := hr
  exact ⟨.int k, H', I', ⟨t, rfl⟩, q⟩
end
end Ap
set_option Elab.async false
set_option linter.all false
set_option maxRecDepth 100000
namespace Ap
open PySem PySem.Spec PyProof.Rows L2 Evl
def tyN : PyData → String
  | .none => "NoneType"
  | .bool _ => "bool"
  | .int _ => "int"
  | .str _ => "str"
  | .list _ => "list"
  | .tuple _ => "tuple"
  | .dict _ => "dict"
theorem tyx_dx {K : PySem.W.Frag} {H : Hp} : ∀ {d : PyData} {v : V}, Dx K H v d → TyX K H v (.type (tyN d))
  | _, _, .non => .base .non
  | _, _, .bl b => .base (.bl b)
  | _, _, .int i => .base (.int i)
  | _, _, .str x => .base (.str x)
  | _, _, .lst hs _ => by
    rcases hs with (h | ⟨o, h⟩) | ⟨o, its, n, h, hc, _⟩
    · exact .base (.lst h)
    · exact .base (.frz h)
    · exact .kList h hc
  | _, _, .tup hs _ => by
    rcases hs with (h | ⟨o, h⟩) | ⟨o, its, n, h, hc, _⟩
    · exact .base (.tup h)
    · exact .fTuple h
    · exact .kTuple h hc
  | _, _, .dic h => .base (.dK h)
def isInt : PyData → Bool
  | .int _ => true
  | .bool _ => true
  | _ => false
def isBoo : PyData → Bool
  | .bool _ => true
  | _ => false
def isStr : PyData → Bool
  | .str _ => true
  | _ => false
def isTup : PyData → Bool
  | .tuple _ => true
  | _ => false
theorem kit_int : ∀ d : PyData, kitB (tyN d) "int" = some (isInt d)
  | .none => (by decide +kernel : kitB "NoneType" "int" = some false)
  | .bool _ => (by decide +kernel : kitB "bool" "int" = some true)
  | .int _ => (by decide +kernel : kitB "int" "int" = some true)
  | .str _ => (by decide +kernel : kitB "str" "int" = some false)
  | .list _ => (by decide +kernel : kitB "list" "int" = some false)
  | .tuple _ => (by decide +kernel : kitB "tuple" "int" = some false)
  | .dict _ => (by decide +kernel : kitB "dict" "int" = some false)
theorem kit_bool : ∀ d : PyData, kitB (tyN d) "bool" = some (isBoo d)
  | .none => (by decide +kernel : kitB "NoneType" "bool" = some false)
  | .bool _ => (by decide +kernel : kitB "bool" "bool" = some true)
  | .int _ => (by decide +kernel : kitB "int" "bool" = some false)
  | .str _ => (by decide +kernel : kitB "str" "bool" = some false)
  | .list _ => (by decide +kernel : kitB "list" "bool" = some false)
  | .tuple _ => (by decide +kernel : kitB "tuple" "bool" = some false)
  | .dict _ => (by decide +kernel : kitB "dict" "bool" = some false)
theorem kit_str : ∀ d : PyData, kitB (tyN d) "str" = some (isStr d)
  | .none => (by decide +kernel : kitB "NoneType" "str" = some false)
  | .bool _ => (by decide +kernel : kitB "bool" "str" = some false)
  | .int _ => (by decide +kernel : kitB "int" "str" = some false)
  | .str _ => (by decide +kernel : kitB "str" "str" = some true)
  | .list _ => (by decide +kernel : kitB "list" "str" = some false)
  | .tuple _ => (by decide +kernel : kitB "tuple" "str" = some false)
  | .dict _ => (by decide +kernel : kitB "dict" "str" = some false)
theorem kit_tup : ∀ d : PyData, kitB (tyN d) "tuple" = some (isTup d)
  | .none => (by decide +kernel : kitB "NoneType" "tuple" = some false)
  | .bool _ => (by decide +kernel : kitB "bool" "tuple" = some false)
  | .int _ => (by decide +kernel : kitB "int" "tuple" = some false)
  | .str _ => (by decide +kernel : kitB "str" "tuple" = some false)
  | .list _ => (by decide +kernel : kitB "list" "tuple" = some false)
  | .tuple _ => (by decide +kernel : kitB "tuple" "tuple" = some true)
  | .dict _ => (by decide +kernel : kitB "dict" "tuple" = some false)
section
variable {K : PySem.W.Frag} {σ : L2.St} {H : Hp} {te : TE} {d : PyData} {T : String} {b : Bool}
theorem ev_isiX (h : EvX K te σ H d) (k : kitB (tyN d) T = some b) : Ev (tCB (rIsi K) (tCons te (tCons (tC (.ty T)) tNil))) σ H (.bl b) := fun H1 e Q q => h H1 e _ fun v H2 e2 hv =>
  ⟨v, .ty T, .type (tyN d), .type T, b, rfl, .ty T, tyx_dx (dx_mono (ov_ex e e2) d v hv), kit_ty k, q H2 e2⟩
end
/-- bounded: texts, lists and tuples of at most 1000, at most n deep -/
inductive Okd : Nat → PyData → Prop
  | non {n : Nat} : Okd n .none
  | bl {n : Nat} (b : Bool) : Okd n (.bool b)
  | int {n : Nat} (i : Int) : Okd n (.int i)
  | str {n : Nat} {x : Str} (h : x.length ≤ 1000) : Okd n (.str x)
  | dic {n : Nat} {kvs : List (PyData × PyData)} : Okd n (.dict kvs)
  | lst {n : Nat} {ds : List PyData} (h : ds.length ≤ 1000) (hs : ∀ d, d ∈ ds → Okd n d) : Okd (n + 1) (.list ds)
  | tup {n : Nat} {ds : List PyData} (h : ds.length ≤ 1000) (hs : ∀ d, d ∈ ds → Okd n d) : Okd (n + 1) (.tuple ds)
  | lsa {n : Nat} {ds : List PyData} (h : ds.length ≤ 1000) : Okd n (.list ds)
def chOk (c : Nat) : Bool := (decide ((32 : Int) ≤ (c : Int)) && decide ((c : Int) ≤ 126)) && !decide (V.int (c : Int) = V.int 37)
section
variable {K : PySem.W.Frag} {σ : L2.St} {H : Hp} {te tl : TE} {t : TT}
theorem rc_lenS {z : Str} (h : z.length ≤ 100000) : RC (fun xs H Q => ∃ z, xs = [.str z] ∧ z.length ≤ sizeLine ∧ Q (.int z.length) H) [.str z] H (.int (z.length : Int)) := fun H1 _ Q q => ⟨z, rfl, sz_of h, q H1 (Ex.refl H1)⟩
end
section
variable {K : PySem.W.Frag} {σ : L2.St} {H : Hp} {te tl : TE} {t : TT}
theorem fn_false {P : Program} {w : World} {K : PySem.W.Frag} {mg : Str → Option Value} {base : Heap} {CX : CXT} {k : Nat} {f : Addr} {fd : FuncData} {ps : List Str} : FnOk P w K mg base CX k f fd ps (fun _ _ _ _ => False) := ⟨fun _ _ _ _ h => h.elim, fun _ _ _ _ _ _ _ _ _ _ _ _ _ h => h.elim⟩
end
end Ap
set_option Elab.async false
set_option linter.all false
set_option maxRecDepth 100000
namespace Ap
open PySem PySem.Spec PyProof.Rows L2 Evl ClX
theorem Okd.mono {n m : Nat} {d : PyData} (h : Okd n d) : n ≤ m → Okd m d := by
  induction h generalizing m with
  | non => exact fun _ => .non
  | bl b => exact fun _ => .bl b
  | int i => exact fun _ => .int i
  | str h => exact fun _ => .str h
  | dic => exact fun _ => .dic
  | lst h hs ih =>
    intro hl
    obtain ⟨k, rfl⟩ : ∃ k, m = k + 1 := ⟨m - 1, by omega⟩
    exact .lst h fun d hd => ih d hd (by omega)
  | tup h hs ih =>
    intro hl
    obtain ⟨k, rfl⟩ : ∃ k, m = k + 1 := ⟨m - 1, by omega⟩
    exact .tup h fun d hd => ih d hd (by omega)
  | lsa h => exact fun _ => .lsa h
theorem op_mulS {X : Cx} : OpR X (binaryOp .Mult) (fun x y H Q => ∃ (z : Str) (n : Int), x = .str z ∧ y = .int n ∧ PySem.MulOk z n ∧ Q (.str (Txt.mul z n)) H) := by
  intro pins s σ H x y v u Q I rx ry h
  obtain ⟨z, n, rfl, rfl, hok, q⟩ := h
  obtain ⟨t, rfl⟩ := rx
  obtain ⟨t2, rfl⟩ := ry
  exact PySem.SB.mul hok fun t' k => ⟨.str (Txt.mul z n), H, I.tok _, ⟨t', rfl⟩, q⟩
end Ap
set_option Elab.async false
set_option linter.all false
set_option maxRecDepth 100000
set_option Elab.async false
set_option linter.all false
set_option maxRecDepth 100000
set_option Elab.async false
set_option linter.all false
set_option maxRecDepth 100000
set_option Elab.async false
set_option linter.all false
set_option maxRecDepth 100000
set_option maxHeartbeats 2000000
namespace Ap
open PySem PySem.Spec PyProof.Rows L2 Evl
def lookS {α : Type} : List (Str × α) → Str → Option α
  | [], _ => none
  | p :: r, z => if p.1 = z then some p.2 else lookS r z
/-- a constant dict of texts to nested tuples -/
structure KdC (K : PySem.W.Frag) (w : World) (mg : Str → Option Value) (x : Str) (a : Addr) (L : List (Str × PyData)) : Prop where
  g : mg x = some (.ref a)
  D : ∃ es n, KDict K w a es n
  at_ : ∀ z, (∃ d v x, PySem.W.nsIn K a z = some (some v) ∧ lookS L z = some d ∧ RelV x v ∧ ∀ H, Dp K H x d) ∨ (PySem.W.nsIn K a z = some none ∧ lookS L z = none)
theorem KdC.dict {K : PySem.W.Frag} {w : World} {mg : Str → Option Value} {x : Str} {a : Addr} {L : List (Str × PyData)} (C : KdC K w mg x a L) : ∃ es n, KDict K w a es n := C.D
end Ap
set_option Elab.async false
set_option linter.all false
set_option maxRecDepth 100000
set_option maxHeartbeats 2000000
set_option Elab.async false
set_option linter.all false
set_option maxRecDepth 100000
namespace Ap
open PySem PySem.Spec PyProof.Rows L2 Evl
/-- what such a def promises: a is where the exception stands, D its class -/
structure FnE (P : Program) (w : World) (K : PySem.W.Frag) (mg : Str → Option Value) (base : Heap) (D : Addr) (k : Nat) (f : Addr) (fd : FuncData) (ps : List Str) (sp : Addr → Sp) : Prop where
  len : ∀ a vs H Q E, sp a vs H Q E → vs.length = ps.length
  run : ∀ (A : Around) (outer : List Env) (s : Shared) (H : Hp) (args : Args) (us : List Value) (vs : List V) (Q : VK) (E : XK) (p : Addr × Obj), L2H.RoomH k A → Zc (.ref D) none p.2 → (∃ v, p.2.data = .fields v) → L2H.PinOk outer H s p → Env0 P w K mg base A outer s H → BindsTo s fd args (ps.zip us) → Vals vs us → sp p.1 vs H Q E →
    codeAny (model P w) A (.call (.ref f) args) (CR CX0 outer P w H s Q E) s
theorem FnE.mono {P : Program} {w : World} {K : PySem.W.Frag} {mg : Str → Option Value} {base : Heap} {D : Addr} {j k : Nat} {f : Addr} {fd : FuncData} {ps : List Str} {sp : Addr → Sp} (F : FnE P w K mg base D j f fd ps sp) (h : j ≤ k) : FnE P w K mg base D k f fd ps sp := ⟨F.len, fun A outer s H args us vs Q E p hr => F.run A outer s H args us vs Q E p (hr.mono h)⟩
end Ap
set_option Elab.async false
set_option linter.all false
set_option maxRecDepth 100000
set_option maxHeartbeats 2000000
namespace Ap
open PySem PySem.Spec PyProof.Rows L2 Evl
def rStrB : List V → Hp → VK → Prop := fun xs H Q => (∃ i, xs = [.int i] ∧ i.natAbs.log2 < 1920 ∧ Q (.str (toString i)) H) ∨ (∃ a, xs = [.str a] ∧ Q (.str a) H)
theorem call_strB {X : Cx} : CallR X (.type "str") rStrB := by
  intro pins s σ H xs us Q I rs h
  rcases h with h | h
  · exact call_str_int pins s σ H xs us Q I rs h
  · exact SkE.call_str_str pins s σ H xs us Q I rs h
end Ap
set_option Elab.async false
set_option linter.all false
set_option maxRecDepth 100000
namespace Ap
open PySem PySem.Spec PyProof.Rows L2 Evl
section
variable {K : PySem.W.Frag} {σ : L2.St} {H H' : Hp} {ta tb tc te : TE} {t u : TT} {x y z v w : V}
theorem et_orF (h1 : EvT t σ H false) (h2 : EvT u σ H false) : EvT (tOr t u) σ H false := et_or (a := false) (b := false) h1 (fun _ => h2)
theorem et_andT (h1 : EvT t σ H true) (h2 : EvT u σ H true) : EvT (tAnd t u) σ H true := et_and (a := true) (b := true) h1 (fun _ => h2)
theorem et_nt (h : EvT t σ H true) : EvT (tNot t) σ H false := et_not h
theorem et_nf (h : EvT t σ H false) : EvT (tNot t) σ H true := et_not h
theorem ev_andT (h1 : Ev ta σ H (.bl true)) (h2 : Ev tb σ H (.bl true)) : Ev (tAndV ta tb) σ H (.bl true) := ev_andV (a := true) (b := true) h1 (fun _ => h2)
theorem ev_orF (h1 : Ev ta σ H (.bl false)) (h2 : Ev tb σ H (.bl false)) : Ev (tOrV ta tb) σ H (.bl false) := ev_orV (a := false) (b := false) h1 (fun _ => h2)
theorem ev_nt (h : Ev ta σ H (.bl true)) : Ev (tNotV ta) σ H (.bl false) := ev_notV h
theorem ev_nf (h : Ev ta σ H (.bl false)) : Ev (tNotV ta) σ H (.bl true) := ev_notV h
theorem rc_isiI : RC (rIsi K) [.int x', .ty "int"] H (.bl true) := rc_isi (X := "int") (fun _ => .base (.int _)) (by decide +kernel)
theorem rc_isiIB : RC (rIsi K) [.int x', .ty "bool"] H (.bl false) := rc_isi (X := "int") (fun _ => .base (.int _)) (by decide +kernel)
theorem rc_isiB : RC (rIsi K) [.bl x', .ty "bool"] H (.bl true) := rc_isi (X := "bool") (fun _ => .base (.bl _)) (by decide +kernel)
theorem rc_isiBI : RC (rIsi K) [.bl x', .ty "int"] H (.bl true) := rc_isi (X := "bool") (fun _ => .base (.bl _)) (by decide +kernel)
theorem rv_eqI {i j : Int} : RV rEq (.int i) (.int j) H (.bl (decide (i = j))) := by
  have h := rv_eq (x := .int i) (y := .int j) (H := H) rfl
  have e : decide (V.int i = V.int j) = decide (i = j) := by
    by_cases q : i = j
    · rw [decide_eq_true q, decide_eq_true (by rw [q])]
    · rw [decide_eq_false q, decide_eq_false (fun h => q (V.int.inj h))]
  rwa [e] at h
theorem rv_neI {i j : Int} : RV rNe (.int i) (.int j) H (.bl (!decide (i = j))) := by
  have h := rv_ne (x := .int i) (y := .int j) (H := H) rfl
  have e : decide (V.int i = V.int j) = decide (i = j) := by
    by_cases q : i = j
    · rw [decide_eq_true q, decide_eq_true (by rw [q])]
    · rw [decide_eq_false q, decide_eq_false (fun h => q (V.int.inj h))]
  rwa [e] at h
end
end Ap
set_option Elab.async false
set_option linter.all false
set_option maxRecDepth 100000
namespace Ap
open PySem PySem.Spec PyProof.Rows L2 Evl
structure MP where
  p : Hp → Hp → Prop
  m : ∀ B B' H H', Ex B B' → Ex H H' → p B H → p B' H'
def cutIn (S : Addr → Bool) (H : Hp) : Hp := fun a => if S a = true then H a else none
theorem cutIn_ex {S : Addr → Bool} {H H' : Hp} (e : Ex H H') : Ex (cutIn S H) (cutIn S H') := fun a o h => by
  unfold cutIn at h ⊢
  split at h
  · rename_i q
    rw [if_pos q]
    exact e a o h
  · cases h
theorem cutIn_sub {S : Addr → Bool} {H : Hp} : Ex (cutIn S H) H := fun a o h => by
  unfold cutIn at h
  split at h
  · exact h
  · cases h
theorem cutIn_at {S : Addr → Bool} {H : Hp} {a : Addr} {o : HO} (h : cutIn S H a = some o) : S a = true ∧ H a = some o := by
  unfold cutIn at h
  split at h
  · rename_i q
    exact ⟨q, h⟩
  · cases h
theorem cutIn_yes {S : Addr → Bool} {H : Hp} {a : Addr} (h : S a = true) : cutIn S H a = H a := by
  unfold cutIn
  rw [if_pos h]
theorem cutIn_no {S : Addr → Bool} {H : Hp} {a : Addr} (h : S a = false) : cutIn S H a = none := by
  unfold cutIn
  rw [if_neg (by rw [h]; decide)]
def Emp : MP := ⟨fun _ _ => True, fun _ _ _ _ _ _ _ => trivial⟩
def Pt (a : Addr) (o : HO) : MP := ⟨fun _ H => H a = some o, fun _ _ _ _ _ e h => e _ _ h⟩
def Star (P Q : MP) : MP := ⟨fun B H => ∃ S : Addr → Bool, P.p B (cutIn S H) ∧ Q.p B (cutIn (fun a => !S a) H), fun _ _ _ _ b e ⟨S, h1, h2⟩ => ⟨S, P.m _ _ _ _ b (cutIn_ex e) h1, Q.m _ _ _ _ b (cutIn_ex e) h2⟩⟩
def Stars : List MP → MP
  | [] => Emp
  | P :: l => Star P (Stars l)
def Each {α : Type} (xs : List α) (f : α → MP) : MP := Stars (xs.map f)
def ExM {α : Type} (f : α → MP) : MP := ⟨fun B H => ∃ x, (f x).p B H, fun _ _ _ _ b e ⟨x, h⟩ => ⟨x, (f x).m _ _ _ _ b e h⟩⟩
/-- what is known of the base besides -/
def DpM (K : PySem.W.Frag) (vs : List V) (ds : List PyData) (P : MP) : MP := ⟨fun B H => DpAll K B vs ds ∧ P.p B H, fun _ _ _ _ b e ⟨a, h⟩ => ⟨dpa_mono b _ _ a, P.m _ _ _ _ b e h⟩⟩
theorem cut_cut {S T : Addr → Bool} {H : Hp} : cutIn S (cutIn T H) = cutIn (fun a => T a && S a) H := by
  funext a
  unfold cutIn
  cases hs : S a <;> cases ht : T a <;> simp [hs, ht]
theorem cut_all {H : Hp} : cutIn (fun _ => true) H = H := funext fun a => cutIn_yes rfl
theorem cut_all' {H : Hp} : cutIn (fun a => !((fun _ => false) a)) H = H := funext fun a => cutIn_yes rfl
theorem star_comm {P Q : MP} {B H : Hp} (h : (Star P Q).p B H) : (Star Q P).p B H := by
  obtain ⟨S, h1, h2⟩ := h
  refine ⟨fun a => !S a, h2, ?_⟩
  have e : (fun a => !!S a) = S := by
    funext a
    exact Bool.not_not _
  show P.p B (cutIn (fun a => !!S a) H)
  rw [e]
  exact h1
theorem star_l {P Q : MP} {B H : Hp} (h : (Star P Q).p B H) : P.p B H := by
  obtain ⟨S, h1, h2⟩ := h
  exact P.m _ _ _ _ (Ex.refl B) cutIn_sub h1
theorem star_r {P Q : MP} {B H : Hp} (h : (Star P Q).p B H) : Q.p B H := by
  obtain ⟨S, h1, h2⟩ := h
  exact Q.m _ _ _ _ (Ex.refl B) cutIn_sub h2
theorem star_mono {P P' Q Q' : MP} {B H : Hp} (hp : ∀ H, P.p B H → P'.p B H) (hq : ∀ H, Q.p B H → Q'.p B H) (h : (Star P Q).p B H) : (Star P' Q').p B H := by
  obtain ⟨S, h1, h2⟩ := h
  exact ⟨S, hp _ h1, hq _ h2⟩
theorem star_swap {P Q R : MP} {B H : Hp} (h : (Star P (Star Q R)).p B H) : (Star Q (Star P R)).p B H := by
  obtain ⟨S, h1, T, h2, h3⟩ := h
  rw [cut_cut] at h2 h3
  refine ⟨fun a => !S a && T a, h2, fun a => S a, ?_, ?_⟩
  · rw [cut_cut]
    refine P.m _ _ _ _ (Ex.refl B) (fun a o h => ?_) h1
    obtain ⟨q, h⟩ := cutIn_at h
    rw [cutIn_yes (by show (!(!S a && T a) && S a) = true; rw [q]; rfl)]
    exact h
  · rw [cut_cut]
    refine R.m _ _ _ _ (Ex.refl B) (fun a o h => ?_) h3
    obtain ⟨q, h⟩ := cutIn_at h
    have q : (!S a && !T a) = true := q
    rw [cutIn_yes (by
      show (!(!S a && T a) && !S a) = true
      cases hs : S a <;> cases ht : T a <;> rw [hs, ht] at q <;> first | rfl | cases q)]
    exact h
theorem star_assoc {P Q R : MP} {B H : Hp} (h : (Star (Star P Q) R).p B H) : (Star P (Star Q R)).p B H := star_mono (fun _ h => h) (fun _ h => star_comm h) (star_swap (star_mono (P' := R) (fun _ h => h) (fun _ h => h) (star_comm h)) |> star_mono (fun _ h => h) (fun _ h => h))
theorem star_assoc' {P Q R : MP} {B H : Hp} (h : (Star P (Star Q R)).p B H) : (Star (Star P Q) R).p B H := by
  have h1 : (Star R (Star P Q)).p B H := by
    have h2 : (Star P (Star R Q)).p B H := star_mono (fun _ h => h) (fun _ h => star_comm h) h
    exact star_swap h2
  exact star_comm h1
theorem stars_app : ∀ {l k : List MP} {B H : Hp}, (Star (Stars l) (Stars k)).p B H → (Stars (l ++ k)).p B H
  | [], _, _, _, h => star_r h
  | P :: l, k, _, _, h => star_mono (fun _ h => h) (fun _ h => stars_app h) (star_assoc h)
theorem stars_app' : ∀ {l k : List MP} {B H : Hp}, (Stars (l ++ k)).p B H → (Star (Stars l) (Stars k)).p B H
  | [], _, _, _, h => ⟨fun _ => false, trivial, by
    rw [cut_all']
    exact h⟩
  | P :: l, k, _, _, h => star_assoc' (star_mono (fun _ h => h) (fun _ h => stars_app' h) h)
theorem stars_pull : ∀ (l : List MP) (i : Nat) {B H : Hp} {P : MP}, l[i]? = some P → (Stars l).p B H → (Stars (P :: l.eraseIdx i)).p B H
  | [], i, _, _, _, e, _ => by simp at e
  | Q :: l, 0, _, _, _, e, h => by
    cases (show some Q = some _ from e)
    exact h
  | Q :: l, i + 1, _, _, P, e, h => star_swap (star_mono (P := Q) (Q := Stars l) (Q' := Stars (P :: l.eraseIdx i)) (fun _ h => h) (fun _ h => stars_pull l i (by simpa using e) h) h)
theorem stars_put : ∀ (l : List MP) (i : Nat) {B H : Hp} {P P' : MP}, l[i]? = some P → (Stars (P' :: l.eraseIdx i)).p B H → (Stars (l.set i P')).p B H
  | [], i, _, _, _, _, e, _ => by simp at e
  | Q :: l, 0, _, _, _, _, e, h => h
  | Q :: l, i + 1, _, _, P, P', e, h => star_mono (P := Q) (Q := Stars (P' :: l.eraseIdx i)) (Q' := Stars (l.set i P')) (fun _ h => h) (fun _ h => stars_put l i (P := P) (by simpa using e) h) (star_swap h)
theorem stars_at {l : List MP} {i : Nat} {B H : Hp} {P : MP} (e : l[i]? = some P) (h : (Stars l).p B H) : P.p B H := star_l (stars_pull l i e h)
/-- the base (what never changes), and what stands apart from it -/
def At (B : Hp) (l : List MP) (H : Hp) : Prop := ∃ S : Addr → Bool, Ex B (cutIn S H) ∧ (Stars l).p B (cutIn (fun a => !S a) H)
section
variable {K : PySem.W.Frag} {B H H1 : Hp} {l l' : List MP} {P Q : MP} {i : Nat} {a p : Addr} {o u : HO}
theorem at_map (f : ∀ H, (Stars l).p B H → (Stars l').p B H) (h : At B l H) : At B l' H := by
  obtain ⟨S, h1, h2⟩ := h
  exact ⟨S, h1, f _ h2⟩
theorem at_base (h : At B l H) : Ex B H := by
  obtain ⟨S, h1, h2⟩ := h
  exact h1.trans cutIn_sub
theorem at_ex (h : At B l H) (e : Ex H H1) : At B l H1 := by
  obtain ⟨S, h1, h2⟩ := h
  exact ⟨S, h1.trans (cutIn_ex e), (Stars l).m _ _ _ _ (Ex.refl B) (cutIn_ex e) h2⟩
theorem at_p (i : Nat) (e : l[i]? = some P) (h : At B l H) : P.p B H := by
  obtain ⟨S, h1, h2⟩ := h
  exact P.m _ _ _ _ (Ex.refl B) cutIn_sub (stars_at e h2)
theorem at_get (i : Nat) (e : l[i]? = some (Pt a o)) (h : At B l H) : H a = some o := at_p i e h
theorem at_start : At H [] H := ⟨fun _ => true, by
  rw [cut_all]
  exact Ex.refl H, trivial⟩
theorem at_drop (h : At B (P :: l) H) : At B l H := at_map (l := P :: l) (fun _ h => star_r h) h
theorem at_pull (i : Nat) (e : l[i]? = some P) (h : At B l H) : At B (P :: l.eraseIdx i) H := at_map (fun _ h => stars_pull l i e h) h
theorem at_put (i : Nat) (e : l[i]? = some P) (h : At B (Q :: l.eraseIdx i) H) : At B (l.set i Q) H := at_map (fun _ h => stars_put l i e h) h
theorem at_swap {R : MP} (h : At B (P :: R :: l) H) : At B (R :: P :: l) H := at_map (l := P :: R :: l) (l' := R :: P :: l) (fun _ h => star_swap h) h
theorem at_join {R : MP} (h : At B (P :: R :: l) H) : At B (Star P R :: l) H := at_map (l := P :: R :: l) (l' := Star P R :: l) (fun _ h => star_assoc' h) h
theorem at_split {R : MP} (h : At B (Star P R :: l) H) : At B (P :: R :: l) H := at_map (l := Star P R :: l) (l' := P :: R :: l) (fun _ h => star_assoc h) h
theorem at_stars {k : List MP} (h : At B (Stars k :: l) H) : At B (k ++ l) H := at_map (l := Stars k :: l) (fun _ h => stars_app h) h
theorem at_stars' (k : List MP) (h : At B (k ++ l) H) : At B (Stars k :: l) H := at_map (l' := Stars k :: l) (fun _ h => stars_app' h) h
theorem at_exm {α : Type} {f : α → MP} (h : At B (ExM f :: l) H) : ∃ x, At B (f x :: l) H := by
  obtain ⟨S, h1, T, ⟨x, h2⟩, h3⟩ := h
  exact ⟨x, S, h1, T, h2, h3⟩
theorem at_exm' {α : Type} {f : α → MP} (x : α) (h : At B (f x :: l) H) : At B (ExM f :: l) H := by
  obtain ⟨S, h1, T, h2, h3⟩ := h
  exact ⟨S, h1, T, ⟨x, h2⟩, h3⟩
theorem at_dpm {vs : List V} {ds : List PyData} (h : At B (DpM K vs ds P :: l) H) : DpAll K B vs ds ∧ At B (P :: l) H := by
  obtain ⟨S, h1, T, ⟨x, h2⟩, h3⟩ := h
  exact ⟨x, S, h1, T, h2, h3⟩
theorem at_dpm' {vs : List V} {ds : List PyData} (x : DpAll K B vs ds) (h : At B (P :: l) H) : At B (DpM K vs ds P :: l) H := by
  obtain ⟨S, h1, T, h2, h3⟩ := h
  exact ⟨S, h1, T, ⟨x, h2⟩, h3⟩
theorem upd_cut {S : Addr → Bool} (hS : S a = false) : cutIn S (upd H a o) = cutIn S H := by
  funext b
  by_cases q : b = a
  · rw [q, cutIn_no hS, cutIn_no hS]
  · unfold cutIn
    rw [upd_ne q]
/-- what stands at one of the places is written -/
theorem star_upd (h : (Star (Pt a o) P).p B H) : (Star (Pt a u) P).p B (upd H a u) := by
  obtain ⟨S, h1, h2⟩ := h
  have hs := (cutIn_at (show cutIn S H a = some o from h1)).1
  refine ⟨S, ?_, ?_⟩
  · show cutIn S (upd H a u) a = some u
    rw [cutIn_yes hs, upd_same]
  · rw [upd_cut (S := fun b => !S b) (by rw [hs]; rfl)]
    exact h2
theorem cut_upd {S : Addr → Bool} (hS : S a = true) : cutIn S (upd H a o) = upd (cutIn S H) a o := by
  funext b
  by_cases q : b = a
  · rw [q, cutIn_yes hS, upd_same, upd_same]
  · rw [upd_ne q]
    unfold cutIn
    rw [upd_ne q]
theorem at_upd (i : Nat) (e : l[i]? = some (Pt a o)) (h : At B l H) : At B (l.set i (Pt a u)) (upd H a u) := by
  obtain ⟨S, h1, h2⟩ := h
  have hs : (!S a) = true := (cutIn_at (show cutIn (fun a => !S a) H a = some o from stars_at e h2)).1
  have hs' : S a = false := by
    cases q : S a
    · rfl
    · rw [q] at hs; cases hs
  refine ⟨S, by rw [upd_cut hs']; exact h1, ?_⟩
  rw [cut_upd hs]
  exact stars_put l i e (star_upd (stars_pull l i e h2))
/-- something new -/
theorem star_new (h : P.p B H) (np : H p = none) (e : Ex H H1) (hp : H1 p = some o) : (Star (Pt p o) P).p B H1 := by
  refine ⟨fun a => decide (a = p), ?_, P.m _ _ _ _ (Ex.refl B) (fun a u h => ?_) h⟩
  · show cutIn (fun a => decide (a = p)) H1 p = some o
    rw [cutIn_yes (decide_eq_true rfl)]
    exact hp
  · have ne : a ≠ p := ne_of_none h np
    rw [cutIn_yes (by show (!decide (a = p)) = true; rw [decide_eq_false ne]; rfl)]
    exact e a u h
theorem at_new (h : At B l H) (np : H p = none) (e : Ex H H1) (hp : H1 p = some o) : At B (Pt p o :: l) H1 := by
  obtain ⟨S, h1, h2⟩ := h
  refine ⟨fun a => S a && !decide (a = p), fun a u ha => ?_, ?_⟩
  · obtain ⟨q, hh⟩ := cutIn_at (h1 a u ha)
    rw [cutIn_yes (by show (S a && !decide (a = p)) = true; rw [q, decide_eq_false (ne_of_none hh np)]; rfl)]
    exact e a u hh
  · refine star_new (P := Stars l) (H := cutIn (fun a => !S a) H) h2 ?_ (fun a u ha => ?_) ?_
    · unfold cutIn
      split
      · exact np
      · rfl
    · obtain ⟨q, hh⟩ := cutIn_at ha
      rw [cutIn_yes (by
        show (!(S a && !decide (a = p))) = true
        cases hs : S a
        · rfl
        · rw [hs] at q; cases q)]
      exact e a u hh
    · rw [cutIn_yes (by show (!(S p && !decide (p = p))) = true; rw [decide_eq_true rfl]; simp)]
      exact hp
/-- a new thing that belongs to the base from now on: all that is new does -/
theorem at_grow (h : At B l H) (e : Ex H H1) : At (ov B H H1) l H1 := by
  obtain ⟨S, h1, h2⟩ := h
  refine ⟨fun a => S a || (H a).isNone, ?_, (Stars l).m _ _ _ _ ov_base (fun a o ha => ?_) h2⟩
  · intro a o ha
    unfold ov at ha
    cases hb : B a with
    | some o' =>
      rw [hb] at ha
      have hc := h1 a o' hb
      obtain ⟨q, hh⟩ := cutIn_at hc
      rw [cutIn_yes (by show (S a || (H a).isNone) = true; rw [q]; rfl), ← ha]
      exact e a o' hh
    | none =>
      rw [hb] at ha
      cases h0 : H a with
      | some o' => rw [h0] at ha; cases ha
      | none =>
        rw [h0] at ha
        rw [cutIn_yes (by show (S a || (H a).isNone) = true; rw [h0]; simp)]
        exact ha
  · obtain ⟨q, hh⟩ := cutIn_at ha
    rw [cutIn_yes (by
      show (!(S a || (H a).isNone)) = true
      rw [hh]
      cases hs : S a
      · rfl
      · rw [hs] at q; cases q)]
    exact e a o hh
end
theorem map_erase {α β : Type} (f : α → β) : ∀ (xs : List α) (i : Nat), (xs.map f).eraseIdx i = (xs.eraseIdx i).map f
  | [], _ => rfl
  | x :: xs, 0 => rfl
  | x :: xs, i + 1 => by
    show f x :: (xs.map f).eraseIdx i = _
    rw [map_erase f xs i]
    rfl
section
variable {α : Type} {B H : Hp} {l : List MP} {xs : List α} {f : α → MP} {i : Nat} {x x' : α}
theorem each_at (h : At B (Each xs f :: l) H) (e : xs[i]? = some x) : At B (f x :: Each (xs.eraseIdx i) f :: l) H := by
  have h1 : At B (Stars (f x :: (xs.map f).eraseIdx i) :: l) H := at_map (l := Each xs f :: l) (l' := Stars (f x :: (xs.map f).eraseIdx i) :: l) (fun _ h => star_mono (P := Stars (xs.map f)) (fun _ h => stars_pull (xs.map f) i (by rw [List.getElem?_map, e]; rfl) h) (fun _ h => h) h) h
  rw [map_erase f xs i] at h1
  exact at_split h1
theorem each_set (hi : i < xs.length) (h : At B (f x' :: Each (xs.eraseIdx i) f :: l) H) : At B (Each (xs.set i x') f :: l) H := by
  have h1 := at_join h
  have e2 : Each (xs.set i x') f = Stars ((xs.map f).set i (f x')) := by
    unfold Each
    rw [List.map_set]
  rw [e2]
  refine at_map (l := Star (f x') (Each (xs.eraseIdx i) f) :: l) (l' := Stars ((xs.map f).set i (f x')) :: l) (fun _ h => star_mono (P := Star (f x') (Each (xs.eraseIdx i) f)) (fun _ h => stars_put (xs.map f) i (P := f xs[i]) (by rw [List.getElem?_map, List.getElem?_eq_getElem hi]; rfl) ?_) (fun _ h => h) h) h1
  rw [map_erase]
  exact h
theorem each_nil (h : At B l H) : At B (Each ([] : List α) f :: l) H := by
  refine at_map (l := l) (l' := Each ([] : List α) f :: l) (fun _ h => ?_) h
  exact ⟨fun _ => false, trivial, by
    rw [cut_all']
    exact h⟩
end
theorem stars_perm {l l' : List MP} (h : l.Perm l') : ∀ {B H : Hp}, (Stars l).p B H → (Stars l').p B H := by
  induction h with
  | nil => exact fun h => h
  | cons x _ ih => exact fun h => star_mono (P := x) (fun _ h => h) (fun _ h => ih h) h
  | swap x y l => exact fun h => star_swap h
  | trans _ _ ih1 ih2 => exact fun h => ih2 (ih1 h)
theorem at_perm {B H : Hp} {l l' : List MP} (p : l.Perm l') (h : At B l H) : At B l' H := at_map (fun _ h => stars_perm p h) h
theorem range_get {α : Type} (d : α) : ∀ l : List α, (List.range l.length).map (fun i => l.getD i d) = l := fun l => by
  refine List.ext_getElem (by simp) fun i h1 h2 => ?_
  simp [List.getD_eq_getElem?_getD, List.getElem?_eq_getElem h2]
theorem at_ix {B H : Hp} {l : List MP} (n : Nat) (is : List Nat) (h : At B l H) (hp : is.isPerm (List.range n) = true := by decide) (hn : n ≤ l.length := by simp) : At B (is.map (fun i => l.getD i Emp) ++ l.drop n) H := by
  refine at_perm ?_ h
  have p := List.isPerm_iff.mp hp
  have e : (List.range n).map (fun i => l.getD i Emp) = l.take n := by
    have e1 := range_get Emp (l.take n)
    rw [List.length_take, Nat.min_eq_left hn] at e1
    refine Eq.trans (List.map_congr_left fun i hi => ?_) e1
    have hi := List.mem_range.mp hi
    rw [List.getD_eq_getElem?_getD, List.getD_eq_getElem?_getD, List.getElem?_take_of_lt hi]
  have q := (p.map (fun i => l.getD i Emp)).append_right (l.drop n)
  rw [e, List.take_append_drop] at q
  exact q.symm
theorem each_app {α : Type} {B H : Hp} {l : List MP} {xs : List α} {f : α → MP} {x : α} (h : At B (f x :: Each xs f :: l) H) : At B (Each (xs ++ [x]) f :: l) H := by
  have h1 := at_join h
  have e : (f x :: xs.map f).Perm ((xs ++ [x]).map f) := by
    rw [List.map_append]
    exact (List.perm_append_singleton (f x) (xs.map f)).symm
  exact at_map (l := Star (f x) (Each xs f) :: l) (l' := Each (xs ++ [x]) f :: l) (fun _ h => star_mono (P := Stars (f x :: xs.map f)) (fun _ h => stars_perm e h) (fun _ h => h) h) h1
end Ap
set_option Elab.async false
set_option linter.all false
set_option maxRecDepth 100000
namespace Ap
open PySem PySem.Spec PyProof.Rows L2 Evl
structure Rr where
  r : V → Hp → Prop
  m : ∀ {v : V} {B B' : Hp}, Ex B B' → r v B → r v B'
def rV (x : V) : Rr := ⟨fun v _ => v = x, fun _ h => h⟩
def rD (K : PySem.W.Frag) (d : PyData) : Rr := ⟨fun v B => Dp K B v d, fun e h => dp_mono e _ _ h⟩
def Wv (te : TE) (σ : L2.St) (B : Hp) (l : List MP) (R : Rr) : Prop := ∀ B1 H, Ex B B1 → At B1 l H → ∀ Q : VK, (∀ v B2 H2, Ex B1 B2 → At B2 l H2 → R.r v B2 → Q v H2) → te σ H Q
def Wa (K : PySem.W.Frag) (ta : TA) (σ : L2.St) (B : Hp) (l : List MP) (ds : List PyData) : Prop := ∀ B1 H, Ex B B1 → At B1 l H → ∀ Q : List V → Hp → Prop, (∀ vs B2 H2, Ex B1 B2 → At B2 l H2 → DpAll K B2 vs ds → Q vs H2) → ta σ H Q
section
variable {K : PySem.W.Frag} {σ : L2.St} {B B' H H' : Hp} {l l' : List MP} {ta tb te : TE} {t : TT} {x y v : V} {d : PyData} {ds : List PyData} {R R' : Rr} {P : MP} {i j : Nat} {a p : Addr} {o u : HO}
theorem Wv.to (hr : ∀ v B, R.r v B → R'.r v B) (h : Wv te σ B l R) : Wv te σ B l R' := fun B1 H1 e1 hA Q q => h B1 H1 e1 hA Q fun v B2 H2 e2 hA2 hv => q v B2 H2 e2 hA2 (hr v B2 hv)
/-- what is known without the base growing -/
theorem wv_of (h : ∀ B1 H, Ex B B1 → At B1 l H → Ev te σ H x) : Wv te σ B l (rV x) := fun B1 H1 e1 hA Q q => h B1 H1 e1 hA H1 (Ex.refl H1) Q fun H2 e2 => q x B1 H2 (Ex.refl B1) (at_ex hA e2) rfl
theorem wv_dp (h : Wv te σ B l (rV x)) (hd : Dp K B x d) : Wv te σ B l (rD K d) := fun B1 H1 e1 hA Q q => h B1 H1 e1 hA Q fun v B2 H2 e2 hA2 hv => q v B2 H2 e2 hA2 (by
  have hv : v = x := hv
  rw [hv]
  exact dp_mono (e1.trans e2) _ _ hd)
theorem wv_var (h : σ[i]? = some (some v)) (hd : Dp K B v d) : Wv (tVar i) σ B l (rD K d) := wv_dp (wv_of fun _ _ _ _ => ev_var h) hd
theorem wa_nil : Wa K tNil σ B l [] := fun B1 H1 _ hA Q q => q [] B1 H1 (Ex.refl B1) hA .nil
theorem wa_cons {tr : TA} (h : Wv te σ B l (rD K d)) (hr : Wa K tr σ B l ds) : Wa K (tCons te tr) σ B l (d :: ds) := fun B1 H1 e1 hA Q q =>
  h B1 H1 e1 hA _ fun v B2 H2 e2 hA2 hv => hr B2 H2 (e1.trans e2) hA2 _ fun vs B3 H3 e3 hA3 hs => q (v :: vs) B3 H3 (e2.trans e3) hA3 (.cons (dp_mono e3 _ _ hv) hs)
theorem at_tup {vs : List V} (hA : At B l H) (hp : H p = none) : Ex B (ov B H (upd H p (.tup vs))) ∧ At (ov B H (upd H p (.tup vs))) l (upd H p (.tup vs)) ∧ ov B H (upd H p (.tup vs)) p = some (.tup vs) :=
  ⟨ov_base, at_grow hA (Ex.new hp), ov_new (at_base hA) (Ex.refl H) hp⟩
theorem wv_tup {ta : TA} (h : Wa K ta σ B l ds) (hl : ds.length ≤ 100000) : Wv (tTup ta) σ B l (rD K (.tuple ds)) := fun B1 H1 e1 hA Q q =>
  h B1 H1 e1 hA _ fun vs B2 H2 e2 hA2 hs => ⟨by rw [dpa_len hs]; exact sz_of hl, fun p hp => by
    obtain ⟨k1, k2, k3⟩ := at_tup (vs := vs) hA2 hp
    exact q _ _ _ (e2.trans k1) k2 (.tup (st_of k3) (dpa_mono k1 _ _ hs))⟩
variable {D : Ends} {tz tu tw : TS}
theorem qe_asg (hA : At B l H) (h : Ev te σ H x) (k : ∀ H1, At B l H1 → tz D (σ.set i (some x)) H1) : tSeq (tAsg te (gName i)) tz D σ H := q_asg h fun H1 e => k H1 (at_ex hA e)
theorem qe_lst {xs : List V} (hA : At B l H) (h : EvL te σ H xs) (k : ∀ p H1, At B (Pt p (.lst xs) :: l) H1 → tz D (σ.set i (some (.ref p))) H1) : tSeq (tAsg te (gName i)) tz D σ H := q_asgL h fun p H1 np e hp => k p H1 (at_new hA np e hp)
theorem se_ret (hA : At B l H) (h : Ev te σ H x) (k : ∀ H1, At B l H1 → D.rt x H1) : tRet te D σ H := s_ret h fun H1 e => k H1 (at_ex hA e)
theorem qe_when {b : Bool} (hA : At B l H) (h : EvT t σ H b) (h1 : b = true → ∀ H1, At B l H1 → tu { D with nx := tz D } σ H1) (h2 : b = false → ∀ H1, At B l H1 → tz D σ H1) : tSeq (tIfS t tu tNext) tz D σ H := q_when h (fun hb H1 e => h1 hb H1 (at_ex hA e)) (fun hb H1 e => h2 hb H1 (at_ex hA e))
/-- l.append(e) -/
theorem qe_app {q : Addr} {xs : List V} (k : Nat) (hk : l[k]? = some (Pt q (.lst xs))) (hA : At B l H) (ha : Ev ta σ H (.ref q)) (h : Ev te σ H v) (hz : xs.length < 100000) (c : ∀ H1, At B (l.set k (Pt q (.lst (xs ++ [v])))) H1 → tz D σ H1) : tSeq (tDrop (tBM K "list" rAppend ta (tCons te tNil))) tz D σ H :=
  q_app (at_get k hk hA) ha h hz fun H1 e => c _ (at_upd k hk (at_ex hA e))
theorem se_app {q : Addr} {xs : List V} (k : Nat) (hk : l[k]? = some (Pt q (.lst xs))) (hA : At B l H) (ha : Ev ta σ H (.ref q)) (h : Ev te σ H v) (hz : xs.length < 100000) (c : ∀ H1, At B (l.set k (Pt q (.lst (xs ++ [v])))) H1 → D.nx σ H1) : tDrop (tBM K "list" rAppend ta (tCons te tNil)) D σ H :=
  s_app (at_get k hk hA) ha h hz fun H1 e => c _ (at_upd k hk (at_ex hA e))
theorem ev_fld {C dx : Addr} {fs : List (Str × V)} {f : Str} (h : Ev ta σ H (.ref a)) (ha : H a = some (.ins C dx fs)) (c : Cls K C) (n : NoAttr K C f) (hl : fs.lookup f = some v) : Ev (tFld K ta f) σ H v := fun H1 e Q q => h H1 e _ fun H2 e2 => ⟨a, C, dx, fs, v, rfl, (e.trans e2) _ _ ha, c, n, hl, q H2 e2⟩
theorem qe_fld {C dx : Addr} {fs : List (Str × V)} {f : Str} (k : Nat) (hk : l[k]? = some (Pt a (.ins C dx fs))) (hA : At B l H) (hv : Ev tb σ H y) (ho : ∀ H1, Ev ta σ H1 (.ref a)) (c : Cls K C) (n : NoAttr K C f) (hl : fs.length < 1000) (g : ∀ H1, At B (l.set k (Pt a (.ins C dx (putF f y fs)))) H1 → tz D σ H1) : tSeq (sFld K ta tb f) tz D σ H :=
  hv H (Ex.refl H) _ fun H1 e1 => ho H1 H1 (Ex.refl H1) _ fun H2 e2 => ⟨a, C, dx, fs, rfl, at_get k hk (at_ex hA (e1.trans e2)), c, n, hl, g _ (at_upd k hk (at_ex hA (e1.trans e2)))⟩
theorem se_fld {C dx : Addr} {fs : List (Str × V)} {f : Str} (k : Nat) (hk : l[k]? = some (Pt a (.ins C dx fs))) (hA : At B l H) (hv : Ev tb σ H y) (ho : ∀ H1, Ev ta σ H1 (.ref a)) (c : Cls K C) (n : NoAttr K C f) (hl : fs.length < 1000) (g : ∀ H1, At B (l.set k (Pt a (.ins C dx (putF f y fs)))) H1 → D.nx σ H1) : sFld K ta tb f D σ H :=
  hv H (Ex.refl H) _ fun H1 e1 => ho H1 H1 (Ex.refl H1) _ fun H2 e2 => ⟨a, C, dx, fs, rfl, at_get k hk (at_ex hA (e1.trans e2)), c, n, hl, g _ (at_upd k hk (at_ex hA (e1.trans e2)))⟩
/-- o.f = {} -/
theorem qe_fldD {C dx : Addr} {fs : List (Str × V)} {f : Str} (k : Nat) (hk : l[k]? = some (Pt a (.ins C dx fs))) (hA : At B l H) (ho : ∀ H1, Ev ta σ H1 (.ref a)) (c : Cls K C) (n : NoAttr K C f) (hl : fs.length < 1000) (g : ∀ p H1, At B (Pt p (.dK []) :: l.set k (Pt a (.ins C dx (putF f (.ref p) fs)))) H1 → tz D σ H1) : tSeq (sFld K ta tDNewK f) tz D σ H := fun p hp =>
  have hA1 := at_new hA hp (Ex.new hp) upd_same
  ho _ _ (Ex.refl _) _ fun H2 e2 => ⟨a, C, dx, fs, rfl, at_get (k + 1) (by simpa using hk) (at_ex hA1 e2), c, n, hl, g p _ (by
    have h := at_upd (u := .ins C dx (putF f (.ref p) fs)) (k + 1) (by simpa using hk) (at_ex hA1 e2)
    simpa using h)⟩
theorem se_fldD {C dx : Addr} {fs : List (Str × V)} {f : Str} (k : Nat) (hk : l[k]? = some (Pt a (.ins C dx fs))) (hA : At B l H) (ho : ∀ H1, Ev ta σ H1 (.ref a)) (c : Cls K C) (n : NoAttr K C f) (hl : fs.length < 1000) (g : ∀ p H1, At B (Pt p (.dK []) :: l.set k (Pt a (.ins C dx (putF f (.ref p) fs)))) H1 → D.nx σ H1) : sFld K ta tDNewK f D σ H :=
  qe_fldD (tz := fun D => D.nx) k hk hA ho c n hl g
/-- C(..) -/
theorem make_at {C : Addr} {sp : Sp} {E : XK} {ta : TA} {vs : List V} {Q : VK} (hA : At B l H) (h : EvA ta σ H vs) (k : ∀ x dx H1, At B (Pt x (.ins C dx []) :: l) H1 → sp (.ref x :: (vs ++ [])) H1 (fun v H2 => v = .non ∧ Q (.ref x) H2) E) : tMake C sp [] E ta σ H Q := h H (Ex.refl H) _ fun H1 e1 x dx nx ndx ne => by
  have h1 := at_new (at_ex hA e1) ndx (Ex.new ndx) (upd_same (o := .own x))
  have nx' : upd H1 dx (.own x) x = none := by rw [upd_ne (Ne.symm ne)]; exact nx
  have h2 := at_new h1 nx' (Ex.new nx') (upd_same (o := .ins C dx []))
  exact k x dx _ (at_drop (at_swap h2))
end
def isLst : PyData → Bool
  | .list _ => true
  | _ => false
theorem kit_lst : ∀ d : PyData, kitB (tyN d) "list" = some (isLst d)
  | .none => (by decide +kernel : kitB "NoneType" "list" = some false)
  | .bool _ => (by decide +kernel : kitB "bool" "list" = some false)
  | .int _ => (by decide +kernel : kitB "int" "list" = some false)
  | .str _ => (by decide +kernel : kitB "str" "list" = some false)
  | .list _ => (by decide +kernel : kitB "list" "list" = some true)
  | .tuple _ => (by decide +kernel : kitB "tuple" "list" = some false)
  | .dict _ => (by decide +kernel : kitB "dict" "list" = some false)
section
variable {K : PySem.W.Frag} {σ : L2.St} {H : Hp} {te ta tb : TE} {d : PyData} {ds : List PyData} {T T1 T2 : String} {b b1 b2 : Bool}
/-- a call on data: its arguments known as data alone -/
theorem ev_callD {sp : Sp} {E : XK} {ta : TA} {x : V} (h : EvXs K ta σ H ds) (hs : ∀ vs H1, Ex H H1 → DxAll K H1 vs ds → ∀ Q : VK, (∀ H2, Ex H1 H2 → Q x H2) → sp (vs ++ []) H1 Q E) : Ev (tCall sp [] E ta) σ H x := fun H1 e Q q => h H1 e _ fun vs H2 e2 hv => hs vs H2 (e.trans e2) (dxa_mono (ov_ex e e2) _ _ hv) Q fun H3 e3 => q H3 (e2.trans e3)
end
/-- bounded, and no dict within -/
inductive Okn : Nat → PyData → Prop
  | non {n : Nat} : Okn n .none
  | bl {n : Nat} (b : Bool) : Okn n (.bool b)
  | int {n : Nat} (i : Int) : Okn n (.int i)
  | str {n : Nat} (x : Str) : Okn n (.str x)
  | lst {n : Nat} {ds : List PyData} (h : ds.length ≤ 50000) (hs : ∀ d, d ∈ ds → Okn n d) : Okn (n + 1) (.list ds)
  | tup {n : Nat} {ds : List PyData} (h : ds.length ≤ 50000) (hs : ∀ d, d ∈ ds → Okn n d) : Okn (n + 1) (.tuple ds)
theorem Okn.mono {n m : Nat} {d : PyData} (h : Okn n d) : n ≤ m → Okn m d := by
  induction h generalizing m with
  | non => exact fun _ => .non
  | bl b => exact fun _ => .bl b
  | int i => exact fun _ => .int i
  | str x => exact fun _ => .str x
  | lst h hs ih =>
    intro hl
    obtain ⟨k, rfl⟩ : ∃ k, m = k + 1 := ⟨m - 1, by omega⟩
    exact .lst h fun d hd => ih d hd (by omega)
  | tup h hs ih =>
    intro hl
    obtain ⟨k, rfl⟩ : ∃ k, m = k + 1 := ⟨m - 1, by omega⟩
    exact .tup h fun d hd => ih d hd (by omega)
theorem et_isN {σ : L2.St} {H : Hp} {ta : TE} {x : V} (h : Ev ta σ H x) : EvT (tTest (tOp (fun x y H Q => y = .non ∧ Q (.bl (decide (x = .non))) H) ta (tC .non))) σ H (decide (x = .non)) := et_test (ev_op h ev_c (fun G _ _ q => ⟨rfl, q G (Ex.refl G)⟩))
theorem rv_eqT {H : Hp} {x : V} (h : scal x x = true) : RV rEq x x H (.bl true) := by
  have := rv_eq (H := H) h
  rwa [decide_eq_true rfl] at this
section
variable {K : PySem.W.Frag} {σ : L2.St} {B H : Hp} {l : List MP} {ta td ty tv : TE} {x y v : V} {R : Rr} {a : Addr} {D : Ends} {tz : TS}
/-- o.f += e -/
theorem qe_faug {C dx : Addr} {fs : List (Str × V)} {f : Str} {i j : Int} (k : Nat) (hk : l[k]? = some (Pt a (.ins C dx fs))) (hA : At B l H) (ho : Ev ta σ H (.ref a)) (hv : ∀ H1, Ev tv σ H1 (.int j)) (c : Cls K C) (n : NoAttr K C f) (hf : fs.lookup f = some (.int i)) (hl : fs.length < 1000)
    (g : ∀ H1, At B (l.set k (Pt a (.ins C dx (putF f (.int (i + j)) fs)))) H1 → tz D σ H1) : tSeq (sFldAug K ta tv rAdd f) tz D σ H :=
  ho H (Ex.refl H) _ fun H1 e1 => ⟨a, C, dx, fs, .int i, rfl, at_get k hk (at_ex hA e1), c, n, hf, hv H1 H1 (Ex.refl H1) _ fun H2 e2 => ⟨i, j, rfl, rfl, dx, fs, at_get k hk (at_ex hA (e1.trans e2)), hl, g _ (at_upd k hk (at_ex hA (e1.trans e2)))⟩⟩
end
theorem List.set_getElem?_self' {α : Type} : ∀ {l : List α} {i : Nat} {x : α}, l[i]? = some x → l.set i x = l
  | [], _, _, _ => rfl
  | y :: r, 0, x, h => by
    have e : y = x := by simpa using h
    rw [e, List.set_cons_zero]
  | y :: r, i + 1, x, h => by rw [List.set_cons_succ, List.set_getElem?_self' (by simpa using h)]
/-- what an expression does, its value set to a name | dropped | tested -/
theorem q_do {σ : L2.St} {H : Hp} {D : Ends} {tz : TS} {te : TE} {i : Nat} (h : te σ H (fun v H' => tz D (σ.set i (some v)) H')) : tSeq (tAsg te (gName i)) tz D σ H := h
section
variable {K : PySem.W.Frag} {σ : L2.St} {H : Hp} {te ta tb : TE} {tr : TA} {v : V} {D : Ends} {tz : TS} {E : XK} {sp : Sp} {r : R2}
theorem go_cons {Q : List V → Hp → Prop} (h : Ev te σ H v) (k : ∀ H1, Ex H H1 → tr σ H1 fun xs H2 => Q (v :: xs) H2) : tCons te tr σ H Q := h H (Ex.refl H) _ k
theorem go_cons' {Q : List V → Hp → Prop} (h : te σ H fun v H1 => tr σ H1 fun xs H2 => Q (v :: xs) H2) : tCons te tr σ H Q := h
theorem go_nil {Q : List V → Hp → Prop} (h : Q [] H) : tNil σ H Q := h
theorem go_lst {Q : VK} (h : tr σ H fun xs H1 => xs.length ≤ sizeLine ∧ ∀ p, H1 p = none → Q (.ref p) (upd H1 p (.lst xs))) : tLst tr σ H Q := h
theorem go_call {Q : VK} (h : tr σ H fun vs H1 => sp (vs ++ []) H1 Q E) : tCall sp [] E tr σ H Q := h
theorem go_ev {Q : VK} (h : Ev te σ H v) (k : ∀ H1, Ex H H1 → Q v H1) : te σ H Q := h H (Ex.refl H) Q k
theorem q_drop0 (h : te σ H fun _ H1 => tz D σ H1) : tSeq (tDrop te) tz D σ H := h
theorem s_drop0 (h : te σ H fun _ H1 => D.nx σ H1) : tDrop te D σ H := h
end
end Ap
set_option Elab.async false
set_option linter.all false
set_option maxRecDepth 100000
namespace Ap
open PySem PySem.Spec PyProof.Rows L2 Evl PySem.W
theorem ints_reads {h : Heap} : ∀ {vs : List Value} {ns : List Int}, IntsAre vs ns → ReadsAll h vs (ns.map PyData.int) []
  | _, _, .nil => .nil
  | _, _, .cons n t hr => .cons (as := []) (bs := []) (.int n t) (ints_reads hr)
def mxD (d : Int) : List Int → Int
  | [] => d
  | n :: r => r.foldl max n
/-- max(xs, default=d) of ints -/
def rMaxDef (K : PySem.W.Frag) : List V → List V → Hp → VK → Prop := fun vs zs H Q => ∃ (a : Addr) (ns : List Int) (d : Int), vs = [V.ref a] ∧ zs = [.int d] ∧ SqL K H a (ns.map V.int) ∧ Q (.int (mxD d ns)) H
theorem alike_ints (ns : List Int) : AlikeAll (ns.map PyData.int) := by
  refine ⟨fun x hx y hy => ?_, fun x hx => ?_⟩
  · obtain ⟨a, _, rfl⟩ := List.mem_map.mp hx
    obtain ⟨b, _, rfl⟩ := List.mem_map.mp hy
    simp [alike]
  · obtain ⟨a, _, rfl⟩ := List.mem_map.mp hx
    exact fun h => nomatch h
theorem depth_ints : ∀ ns : List Int, PyData.depthAll (ns.map PyData.int) = 0
  | [] => by simp [PyData.depthAll]
  | n :: r => by simp [PyData.depthAll, PyData.depth, depth_ints r]
theorem cr_maxDef {X : Cx} (hc : X.calm = true) (hu : X.A.units + 1 < cLine) : CallRK X (.builtin "max") [Str.ofString "default"] (rMaxDef X.K) := by
  intro pins s σ H vs zs us ws Q I r rz h
  obtain ⟨a, ns, d, rfl, rfl, hs, q⟩ := h
  obtain ⟨its, rv, hl, _⟩ := I.list hs
  rw [Vals.ref1 r]
  obtain ⟨w1, rfl, e1⟩ := vals1 rz
  obtain ⟨t, rfl⟩ : ∃ t, w1 = Value.int d t := e1
  refine max_list_default (I.ok.hd hc) hl.isList (ints_reads rv.ints) (alike_ints ns) (by rw [depth_ints]; exact hu) (fun h0 h' tk hk => ?_) (fun y ys i v h' tk bs hxs hv hr hk => ?_)
  · have : ns = [] := by simpa using h0
    subst this
    exact ⟨.int d, H, I.kept hk, ⟨_, rfl⟩, q⟩
  · cases ns with
    | nil => cases hxs
    | cons n r =>
      have e := List.cons.inj hxs
      rw [← e.1, ← e.2, maxD_ints] at hr
      cases hr
      exact ⟨.int _, H, I.kept hk, ⟨_, rfl⟩, q⟩
/-- a list whose items stand for these data -/
def LstM (K : PySem.W.Frag) (a : Addr) (ds : List PyData) : MP := ExM fun xs : List V => DpM K xs ds (Pt a (.lst xs))
abbrev DI := List (Int × PyData)
def kvD (l : DI) (vs : List V) : List (Key × V) := (l.zip vs).map fun p => (Sum.inl p.1.1, p.2)
/-- a dict from integers to data -/
def DctM (K : PySem.W.Frag) (a : Addr) (l : DI) : MP := ExM fun vs : List V => DpM K vs (l.map (·.2)) (Pt a (.dK (kvD l vs)))
def look (l : DI) (k : Int) : Option PyData := (l.find? fun p => decide (p.1 = k)).map (·.2)
def putL (l : DI) (k : Int) (d : PyData) : DI := if (l.any fun p => decide (p.1 = k)) = true then l.map (fun p => if p.1 = k then (p.1, d) else p) else l ++ [(k, d)]
section
variable {K : PySem.W.Frag} {B H : Hp}
theorem look_cons (p : Int × PyData) (r : DI) (k : Int) : look (p :: r) k = if p.1 = k then some p.2 else look r k := by
  unfold look
  rw [List.find?_cons]
  by_cases h : p.1 = k
  · rw [decide_eq_true h, if_pos h]
    rfl
  · rw [decide_eq_false h, if_neg h]
theorem kvD_cons (p : Int × PyData) (r : DI) (v : V) (vs : List V) : kvD (p :: r) (v :: vs) = (Sum.inl p.1, v) :: kvD r vs := rfl
/-- looking up: in the dict and in what it stands for -/
theorem kv_look : ∀ {l : DI} {vs : List V} (k : Int), DpAll K B vs (l.map (·.2)) → (look l k = none ∧ valV (kvD l vs) (Sum.inl k) = none) ∨ ∃ v d, look l k = some d ∧ valV (kvD l vs) (Sum.inl k) = some v ∧ Dp K B v d
  | [], [], k, _ => .inl ⟨rfl, rfl⟩
  | p :: r, v :: vs, k, h => by
    cases h with
    | cons h1 h2 =>
      rw [look_cons, kvD_cons]
      by_cases e : p.1 = k
      · rw [if_pos e]
        exact .inr ⟨v, p.2, rfl, by rw [valV_pos (p := ((Sum.inl p.1 : Key), v)) (by show (Sum.inl p.1 : Key) = Sum.inl k; rw [e])], h1⟩
      · rw [if_neg e, valV_neg (p := ((Sum.inl p.1 : Key), v)) (fun h => e (Sum.inl.inj h))]
        exact kv_look k h2
theorem kv_any : ∀ {l : DI} {vs : List V} (k : Int), DpAll K B vs (l.map (·.2)) → ((kvD l vs).any fun kv => decide (kv.1 = Sum.inl k)) = l.any fun p => decide (p.1 = k)
  | [], [], _, _ => rfl
  | p :: r, v :: vs, k, h => by
    cases h with
    | cons h1 h2 =>
      rw [kvD_cons, List.any_cons, List.any_cons, kv_any k h2]
      congr 1
      by_cases e : p.1 = k
      · rw [decide_eq_true e, decide_eq_true (by show (Sum.inl p.1 : Key) = _; rw [e])]
      · rw [decide_eq_false e, decide_eq_false (fun h => e (Sum.inl.inj h))]
theorem kv_len {l : DI} {vs : List V} (h : DpAll K B vs (l.map (·.2))) : (kvD l vs).length = l.length := by
  have := dpa_len h
  rw [List.length_map] at this
  unfold kvD
  rw [List.length_map, List.length_zip, this, Nat.min_self]
/-- one more, or one in its place -/
theorem kv_put {l : DI} {vs : List V} {k : Int} {v : V} {d : PyData} (h : DpAll K B vs (l.map (·.2))) (hv : Dp K B v d) : ∃ vs', putK (kvD l vs) (Sum.inl k) v = kvD (putL l k d) vs' ∧ DpAll K B vs' ((putL l k d).map (·.2)) := by
  unfold putK putL
  rw [kv_any k h]
  by_cases e : (l.any fun p => decide (p.1 = k)) = true
  · rw [if_pos e, if_pos e]
    clear e
    induction l generalizing vs with
    | nil => cases h; exact ⟨[], rfl, .nil⟩
    | cons p r ih =>
      cases h with
      | @cons w ws _ _ h1 h2 =>
        obtain ⟨vs', a, b⟩ := ih h2
        rw [kvD_cons, List.map_cons, List.map_cons, a]
        by_cases q : p.1 = k
        · rw [if_pos q, if_pos (by show (Sum.inl p.1 : Key) = _; rw [q])]
          exact ⟨v :: vs', rfl, .cons hv b⟩
        · rw [if_neg q, if_neg (fun h => q (Sum.inl.inj h))]
          exact ⟨w :: vs', rfl, .cons h1 b⟩
  · rw [if_neg e, if_neg e]
    refine ⟨vs ++ [v], ?_, ?_⟩
    · have hl := dpa_len h
      rw [List.length_map] at hl
      unfold kvD
      rw [List.zip_append hl.symm, List.map_append]
      rfl
    · rw [List.map_append]
      exact dpa_app h (dpa_one hv)
end
end Ap
set_option Elab.async false
set_option linter.all false
set_option maxRecDepth 100000
namespace Ap
open PySem PySem.Spec PyProof.Rows L2 Evl PySem.W
section
variable {K : PySem.W.Frag} {σ : L2.St} {B B' H H' H1 : Hp} {l : List MP} {ta tb tc te td ty tv : TE} {t : TT} {x y v : V} {d : PyData} {ds es : List PyData} {R : Rr} {a p : Addr} {xs vs : List V} {m : DI} {D : Ends} {tz tu : TS} {i j n : Nat} {k : Int}
theorem lst_at (n : Nat) (e : l[n]? = some (LstM K a ds)) (h : At B l H) : ∃ xs, DpAll K B xs ds ∧ H a = some (.lst xs) := at_p n e h
theorem dct_at (n : Nat) (e : l[n]? = some (DctM K a m)) (h : At B l H) : ∃ vs, DpAll K B vs (m.map (·.2)) ∧ H a = some (.dK (kvD m vs)) := at_p n e h
theorem lst_upd {xs' : List V} (n : Nat) (e : l[n]? = some (LstM K a ds)) (h : At B l H) (hd : DpAll K B xs' es) : At B (l.set n (LstM K a es)) (upd H a (.lst xs')) := by
  obtain ⟨xs, h1⟩ := at_exm (at_pull n e h)
  obtain ⟨_, h2⟩ := at_dpm h1
  exact at_put n e (at_exm' xs' (at_dpm' hd (at_upd 0 rfl h2)))
theorem dct_upd {vs' : List V} {m' : DI} (n : Nat) (e : l[n]? = some (DctM K a m)) (h : At B l H) (hd : DpAll K B vs' (m'.map (·.2))) : At B (l.set n (DctM K a m')) (upd H a (.dK (kvD m' vs'))) := by
  obtain ⟨xs, h1⟩ := at_exm (at_pull n e h)
  obtain ⟨_, h2⟩ := at_dpm h1
  exact at_put n e (at_exm' vs' (at_dpm' hd (at_upd 0 rfl h2)))
/-- m[k], there -/
theorem wv_dgetM (n : Nat) (e : l[n]? = some (DctM K a m)) (hd : ∀ B1 H, Ex B B1 → At B1 l H → Ev td σ H (.ref a)) (hy : ∀ B1 H, Ex B B1 → At B1 l H → Ev ty σ H (.int k)) (h : look m k = some d) : Wv (tDGet td ty) σ B l (rD K d) := fun B1 H e1 hA Q q =>
  hd B1 H e1 hA H (Ex.refl H) _ fun H2 e2 => hy B1 H2 e1 (at_ex hA e2) H2 (Ex.refl H2) _ fun H3 e3 => by
    have hA3 := at_ex hA (e2.trans e3)
    obtain ⟨vs, h1, h2⟩ := dct_at n e hA3
    rcases kv_look k h1 with ⟨a1, a2⟩ | ⟨v, d', a1, a2, a3⟩
    · rw [a1] at h; cases h
    · rw [a1] at h
      cases h
      exact ⟨a, v, rfl, .inl ⟨_, Sum.inl k, .inl h2, rfl, a2.symm⟩, q v B1 H3 (Ex.refl B1) hA3 a3⟩
theorem sm_put (n : Nat) (e : l[n]? = some (DctM K a m)) (hA : At B l H) (hv : Wv tv σ B l (rD K d)) (hd : ∀ B1 H1, Ex B B1 → At B1 l H1 → Ev td σ H1 (.ref a)) (hy : ∀ B1 H1, Ex B B1 → At B1 l H1 → Ev ty σ H1 (.int k)) (hz : m.length < 100000)
    (g : ∀ B1 H1, Ex B B1 → At B1 (l.set n (DctM K a (putL m k d))) H1 → D.nx σ H1) : sDPut td ty tv D σ H :=
  hv B H (Ex.refl B) hA _ fun v B1 H1 b1 hA1 hr => hd B1 H1 b1 hA1 H1 (Ex.refl H1) _ fun H2 e2 => hy B1 H2 b1 (at_ex hA1 e2) H2 (Ex.refl H2) _ fun H3 e3 => by
    have hA3 := at_ex hA1 (e2.trans e3)
    obtain ⟨vs, h1, h2⟩ := dct_at n e hA3
    obtain ⟨vs', a1, a2⟩ := kv_put (k := k) h1 hr
    refine ⟨a, _, rfl, DPut.k (k := Sum.inl k) h2 (sz_lt (by rw [kv_len h1]; exact hz)), ?_⟩
    rw [a1]
    exact g B1 _ b1 (dct_upd n e hA3 a2)
theorem at_closeL (n : Nat) (e : l[n]? = some (Pt a (.lst xs))) (hd : DpAll K B xs ds) (h : At B l H) : At B (l.set n (LstM K a ds)) H := at_put n e (at_exm' xs (at_dpm' hd (at_pull n e h)))
theorem at_closeD (n : Nat) (e : l[n]? = some (Pt a (.dK (kvD m vs)))) (hd : DpAll K B vs (m.map (·.2))) (h : At B l H) : At B (l.set n (DctM K a m)) H := at_put n e (at_exm' vs (at_dpm' hd (at_pull n e h)))
end
end Ap
namespace Ap
open PySem PySem.Spec PyProof.Rows L2
theorem kit_ownB {K : PySem.W.Frag} {t : Value} {B : Addr} {b : Bool} (hd : PySem.W.hasDictIn K B = true) (ht : PySem.W.typeIn K (.ref B) = some (.type "type")) (hs : PySem.W.subIn K t (.ref B) = some b) (hne : b = false → (t == Value.ref B) = false) : PySem.W.kitOne K t (.ref B) = some b := by
  obtain ⟨cd, hc, _⟩ := PySem.W.any_some hd
  unfold PySem.W.kitOne
  cases b with
  | true =>
    split
    · rfl
    · show (if ((PySem.W.clsIn K B).isSome && PySem.W.typeIn K (.ref B) == some (.type "type")) = true then PySem.W.subIn K t (.ref B) else none) = some true
      rw [hc, ht, if_pos (by rfl)]
      exact hs
  | false =>
    rw [if_neg (by rw [hne rfl]; decide)]
    show (if ((PySem.W.clsIn K B).isSome && PySem.W.typeIn K (.ref B) == some (.type "type")) = true then PySem.W.subIn K t (.ref B) else none) = some false
    rw [hc, ht, if_pos (by rfl)]
    exact hs
/-- the law's end, the ground's own word handed on -/
theorem walk_ofX {l : PySem.W.OpenLaw} {n k : Nat} {q : Program} {loose : List Str} {XP : (Str → Option Value) → Heap → Prop} {YP : World → Heap → Prop} {d : DefRec} {K : Params → PySem.W.Frag} {CX : World → CXT} {sp : World → Sp} {x : Str}
    (hn : l.most = some n) (hn2 : n ≤ sizeLine) (hdf : d.params.defaults = []) (hr : Room k callerA) (hY : ∀ (w : World) (h : Heap), YP w h → (K w.params).In h)
    (F : ∀ (w : World) (mg : Str → Option Value) (fa : Addr) (h : Heap), (K w.params).In h → h.Ns mainGlobals mg → XP mg h → mg d.name = some (.ref fa) →
      ∃ fd : FuncData, (∀ (s : Shared) (u : Value), BindsTo s fd ⟨[u], []⟩ [(x, u)]) ∧ ∀ base : Heap, (K w.params).In base → base.Ns mainGlobals mg → FnOk l.prog w (K w.params) mg base (CX w) k fa fd [x] (sp w))
    (hsp : ∀ (w : World) (H : Hp) (a : Addr) (ns : List Int), ns.length ≤ n → Only H → SqL (K w.params) H a (ns.map V.int) → sp w [.ref a] H (fun v _ => v = .bl true) fun _ _ _ => False)
    (hCX : ∀ (w : World) (H : Hp) (s : Shared) (e : Value) (s' : Shared), CX w [] H s (fun _ _ _ => False) e s' → False) :
    PySem.W.WalkO q loose XP YP l.row.toRowW d [] (fun f vs => PySem.call f vs) := by
  refine Att.attach_call hn hdf fun w s₀ s₁ mg mb fa o pm cd doc a vs ns G Y ho hd hcd hmg hobj hints hlen hg => ?_
  have KX := hY w _ Y
  obtain ⟨fd, hb, hF⟩ := F w mg fa _ KX G.T.g G.X hmg
  exact law_call KX G.T.g G.T.b G.T.builtins G.T.nolimit hg hobj hints (Nat.le_trans hlen hn2) hr hF hb (fun H hO hS => hsp w H a ns hlen hO hS) fun H e s' => hCX w H s₁ e s'
end Ap
set_option Elab.async false
set_option linter.all false
set_option maxRecDepth 100000
namespace Ap
open PySem PySem.Spec PyProof.Rows L2 Evl PySem.W
def allC (cs : List Nat) : Bool := cs.all chOk
section
variable {K : PySem.W.Frag} {σ : L2.St} {B H : Hp} {l : List MP} {ta td te tn : TE} {t : TT} {x y v : V} {R : Rr} {s : Addr} {D : Ends} {tz tu : TS} {i j : Nat} {n : Int} {E : XK}
theorem sm_appF {K : PySem.W.Frag} {a : Addr} {ds : List PyData} {d : PyData} (n : Nat) (e : l[n]? = some (LstM K a ds)) (hA : At B l H) (ha : ∀ H1, At B l H1 → Ev ta σ H1 (.ref a)) (h : Wv te σ B l (rD K d)) (hz : ds.length < 100000) (c : ∀ B1 H1, Ex B B1 → At B1 (l.set n (LstM K a (ds ++ [d]))) H1 → D.nx σ H1) : tDrop (tBM K "list" rAppend ta (tCons te tNil)) D σ H :=
  ha H hA H (Ex.refl H) _ fun H1 e1 => by
    have hA1 := at_ex hA e1
    obtain ⟨xs, h1, h2⟩ := lst_at n e hA1
    refine ⟨.inl ⟨rfl, xs, sq_of h2⟩, h B H1 (Ex.refl B) hA1 _ fun v B2 H2 b2 hA2 hv => ?_⟩
    obtain ⟨xs, h1, h2⟩ := lst_at n e hA2
    exact ⟨a, xs, v, rfl, rfl, h2, sz_lt (by rw [dpa_len h1]; exact hz), c B2 _ b2 (lst_upd n e hA2 (dpa_app h1 (dpa_one hv)))⟩
theorem qm_appF {K : PySem.W.Frag} {a : Addr} {ds : List PyData} {d : PyData} (n : Nat) (e : l[n]? = some (LstM K a ds)) (hA : At B l H) (ha : ∀ H1, At B l H1 → Ev ta σ H1 (.ref a)) (h : Wv te σ B l (rD K d)) (hz : ds.length < 100000) (c : ∀ B1 H1, Ex B B1 → At B1 (l.set n (LstM K a (ds ++ [d]))) H1 → tz D σ H1) : tSeq (tDrop (tBM K "list" rAppend ta (tCons te tNil))) tz D σ H :=
  sm_appF (D := { D with nx := tz D }) n e hA ha h hz c
theorem look_mem {l : DI} {k : Int} {d : PyData} (h : look l k = some d) : (k, d) ∈ l := by
  induction l with
  | nil => cases h
  | cons q r ih =>
    rw [look_cons] at h
    by_cases e : q.1 = k
    · rw [if_pos e] at h
      have h := Option.some.inj h
      refine List.mem_cons.mpr (.inl ?_)
      rw [← e, ← h]
    · rw [if_neg e] at h
      exact List.mem_cons_of_mem _ (ih h)
variable {φ ψ χ : Int → Prop} {tb : TE} {tw : TS}
theorem allC_app {cs ds : List Nat} (h1 : allC cs = true) (h2 : allC ds = true) : allC (cs ++ ds) = true := by
  unfold allC at *
  rw [List.all_append, h1, h2]
  rfl
end
end Ap
set_option Elab.async false
set_option linter.all false
set_option maxRecDepth 100000
set_option maxHeartbeats 4000000
namespace Ap
open PySem PySem.Spec PyProof.Rows L2 Evl PySem.W
local macro_rules | `(tactic| walk_at "sq") => `(tactic| first | assumption | (refine Evl.ex_l (by assumption) ?_; walk_at "sq"))
local macro_rules | `(tactic| walk_at "st") => `(tactic| first | assumption | (refine Evl.ex_t (by assumption) ?_; walk_at "st"))
local macro_rules | `(tactic| walk_at "ev") => `(tactic| (repeat' (first
  | (with_reducible first
    | exact ev_c
    | refine' ev_var ?_
    | exact ea_nil
    | refine' ea_cons ?_ ?_
    | refine' ev_op ?_ ?_ ?_
    | refine' ev_chain ?_ ?_ ?_ ?_ ?_
    | refine' ev_un ?_ ?_
    | exact rv_I0
    | refine' rv_I ?_
    | refine' ev_cb ?_ ?_
    | refine' ev_call ?_ ?_
    | exact rc_int
    | exact rc_max2
    | exact rc_min2
    | exact ru_neg
    | exact rc_isiI
    | exact rc_isiIB
    | exact rc_isiB
    | exact rc_isiBI
    | exact rv_eqI
    | exact rv_neI
    | refine' et_test ?_
    | refine' et_B ?_)
  | ((with_reducible show _ = _); rfl)
  | ((with_reducible show SqL _ _ _ _); walk_at "sq")
  | ((with_reducible show SqT _ _ _ _); walk_at "st")
  | ((with_reducible show CPow _ _); exact ⟨by decide, by decide, by decide⟩)
  | ((with_reducible show CDiv _ _); first | exact ⟨by decide, by decide⟩ | exact ⟨by omega, by omega⟩)
  | ((with_reducible show CMul _ _); first | exact .inr (by decide) | exact .inl (by decide) | exact .inr ⟨by omega, by omega⟩ | exact .inl ⟨by omega, by omega⟩)
  | ((with_reducible show SpV (spDraw _) _ _ _); refine' spDrawI ?_ ?_)
  | ((with_reducible show SpV _ _ _ _); walk_at "sp")
  | ((with_reducible show RC _ _ _ _); refine' rc_len ?_)
  | ((with_reducible show RV _ _ _ _ _); first | exact rv_eq rfl | exact rv_ne rfl | (refine' rv_ixL ?hq ?eq; (case hq => walk_at "sq"); (case eq => rfl)))
  | ((with_reducible show _ ≤ _); first | decide | omega)
  | ((with_reducible show _ < _); first | decide | omega)
  | decide)))
local macro_rules | `(tactic| walk_at "bo") => `(tactic| first | rfl | exact decide_eq_true (by omega) | exact decide_eq_false (by omega) | (rw [decide_eq_true (by omega)]; done) | (rw [decide_eq_false (by omega)]; done) | (simp; omega) | (simp; done))
local macro_rules | `(tactic| walk_at "tf") => `(tactic| first
  | ((with_reducible refine' et_orF ?_ ?_) <;> walk_at "tf")
  | ((with_reducible refine' et_andT ?_ ?_) <;> walk_at "tf")
  | ((with_reducible refine' et_nt ?_) <;> walk_at "tf")
  | ((with_reducible refine' et_nf ?_) <;> walk_at "tf")
  | (refine' et_is ?c ?d; (case c => walk_at "ev"); (case d => walk_at "bo")))
local macro_rules | `(tactic| walk_at "vt") => `(tactic| first
  | ((with_reducible refine' ev_andT ?_ ?_) <;> walk_at "vt")
  | ((with_reducible refine' ev_orF ?_ ?_) <;> walk_at "vt")
  | ((with_reducible refine' ev_nt ?_) <;> walk_at "vt")
  | ((with_reducible refine' ev_nf ?_) <;> walk_at "vt")
  | (refine' ev_is ?c ?d; (case c => walk_at "ev"); (case d => first | rfl | (refine congrArg V.bl ?_; walk_at "bo"))))
def topS (i : Nat) : Stmt := PySem.Challenge.pw_appendhall_k27_tree_of_nodes.main.body.getD i (.Pass ⟨0, 0, 0, 0⟩)
abbrev s_File___init__ : Stmt := inClass (topS 6) 0
abbrev N_File___init__ : List Str := ["self"]
theorem sc_File___init__ : FnScope N_File___init__ ["self"] (defScope s_File___init__) := ⟨rfl, rfl, rfl, by decide +kernel, rfl, by decide +kernel, by decide +kernel⟩
abbrev s_File_pieces : Stmt := inClass (topS 6) 1
abbrev N_File_pieces : List Str := ["self"]
theorem sc_File_pieces : FnScope N_File_pieces ["self"] (defScope s_File_pieces) := ⟨rfl, rfl, rfl, by decide +kernel, rfl, by decide +kernel, by decide +kernel⟩
abbrev s_File_length : Stmt := inClass (topS 6) 3
abbrev N_File_length : List Str := ["self"]
theorem sc_File_length : FnScope N_File_length ["self"] (defScope s_File_length) := ⟨rfl, rfl, rfl, by decide +kernel, rfl, by decide +kernel, by decide +kernel⟩
abbrev s_File_add_piece : Stmt := inClass (topS 6) 4
abbrev N_File_add_piece : List Str := ["self", "piece", "offset", "text"]
theorem sc_File_add_piece : FnScope N_File_add_piece ["self", "piece"] (defScope s_File_add_piece) := ⟨rfl, rfl, rfl, by decide +kernel, rfl, by decide +kernel, by decide +kernel⟩
abbrev s_Directory___init__ : Stmt := inClass (topS 7) 0
abbrev N_Directory___init__ : List Str := ["self"]
theorem sc_Directory___init__ : FnScope N_Directory___init__ ["self"] (defScope s_Directory___init__) := ⟨rfl, rfl, rfl, by decide +kernel, rfl, by decide +kernel, by decide +kernel⟩
abbrev s_Directory_limit : Stmt := inClass (topS 7) 1
abbrev N_Directory_limit : List Str := ["self"]
theorem sc_Directory_limit : FnScope N_Directory_limit ["self"] (defScope s_Directory_limit) := ⟨rfl, rfl, rfl, by decide +kernel, rfl, by decide +kernel, by decide +kernel⟩
abbrev s_Directory_set_limit : Stmt := inClass (topS 7) 2
abbrev N_Directory_set_limit : List Str := ["self", "most"]
theorem sc_Directory_set_limit : FnScope N_Directory_set_limit ["self", "most"] (defScope s_Directory_set_limit) := ⟨rfl, rfl, rfl, by decide +kernel, rfl, by decide +kernel, by decide +kernel⟩
abbrev s_Directory_names : Stmt := inClass (topS 7) 3
abbrev N_Directory_names : List Str := ["self"]
theorem sc_Directory_names : FnScope N_Directory_names ["self"] (defScope s_Directory_names) := ⟨rfl, rfl, rfl, by decide +kernel, rfl, by decide +kernel, by decide +kernel⟩
abbrev s_Directory_child : Stmt := inClass (topS 7) 4
abbrev N_Directory_child : List Str := ["self", "name"]
theorem sc_Directory_child : FnScope N_Directory_child ["self", "name"] (defScope s_Directory_child) := ⟨rfl, rfl, rfl, by decide +kernel, rfl, by decide +kernel, by decide +kernel⟩
abbrev s_Directory_put : Stmt := inClass (topS 7) 5
abbrev N_Directory_put : List Str := ["self", "name", "number"]
theorem sc_Directory_put : FnScope N_Directory_put ["self", "name", "number"] (defScope s_Directory_put) := ⟨rfl, rfl, rfl, by decide +kernel, rfl, by decide +kernel, by decide +kernel⟩
abbrev s_Directory_take : Stmt := inClass (topS 7) 6
abbrev N_Directory_take : List Str := ["self", "name"]
theorem sc_Directory_take : FnScope N_Directory_take ["self", "name"] (defScope s_Directory_take) := ⟨rfl, rfl, rfl, by decide +kernel, rfl, by decide +kernel, by decide +kernel⟩
abbrev s_Tree___init__ : Stmt := inClass (topS 10) 0
abbrev N_Tree___init__ : List Str := ["self"]
theorem sc_Tree___init__ : FnScope N_Tree___init__ ["self"] (defScope s_Tree___init__) := ⟨rfl, rfl, rfl, by decide +kernel, rfl, by decide +kernel, by decide +kernel⟩
abbrev s_Tree___len__ : Stmt := inClass (topS 10) 1
abbrev N_Tree___len__ : List Str := ["self"]
theorem sc_Tree___len__ : FnScope N_Tree___len__ ["self"] (defScope s_Tree___len__) := ⟨rfl, rfl, rfl, by decide +kernel, rfl, by decide +kernel, by decide +kernel⟩
abbrev s_Tree_node : Stmt := inClass (topS 10) 2
abbrev N_Tree_node : List Str := ["self", "number"]
theorem sc_Tree_node : FnScope N_Tree_node ["self", "number"] (defScope s_Tree_node) := ⟨rfl, rfl, rfl, by decide +kernel, rfl, by decide +kernel, by decide +kernel⟩
abbrev s_Tree_attach : Stmt := inClass (topS 10) 3
abbrev N_Tree_attach : List Str := ["self", "parent", "name", "node", "number"]
theorem sc_Tree_attach : FnScope N_Tree_attach ["self", "parent", "name", "node"] (defScope s_Tree_attach) := ⟨rfl, rfl, rfl, by decide +kernel, rfl, by decide +kernel, by decide +kernel⟩
abbrev s_Tree_move_node : Stmt := inClass (topS 10) 4
abbrev N_Tree_move_node : List Str := ["self", "number", "parent", "name", "old_parent", "old_name"]
theorem sc_Tree_move_node : FnScope N_Tree_move_node ["self", "number", "parent", "name"] (defScope s_Tree_move_node) := ⟨rfl, rfl, rfl, by decide +kernel, rfl, by decide +kernel, by decide +kernel⟩
abbrev s_Tree_look_up : Stmt := inClass (topS 10) 5
abbrev N_Tree_look_up : List Str := ["self", "names", "number", "name", "node"]
theorem sc_Tree_look_up : FnScope N_Tree_look_up ["self", "names"] (defScope s_Tree_look_up) := ⟨rfl, rfl, rfl, by decide +kernel, rfl, by decide +kernel, by decide +kernel⟩
abbrev s_Tree_names_of : Stmt := inClass (topS 10) 6
abbrev N_Tree_names_of : List Str := ["self", "number", "names", "at", "name"]
theorem sc_Tree_names_of : FnScope N_Tree_names_of ["self", "number"] (defScope s_Tree_names_of) := ⟨rfl, rfl, rfl, by decide +kernel, rfl, by decide +kernel, by decide +kernel⟩
abbrev s_Tree_above : Stmt := inClass (topS 10) 7
abbrev N_Tree_above : List Str := ["self", "number", "parents", "at", "_"]
theorem sc_Tree_above : FnScope N_Tree_above ["self", "number"] (defScope s_Tree_above) := ⟨rfl, rfl, rfl, by decide +kernel, rfl, by decide +kernel, by decide +kernel⟩
abbrev s_Tree_size_of : Stmt := inClass (topS 10) 8
abbrev N_Tree_size_of : List Str := ["self", "number", "node", "child"]
theorem sc_Tree_size_of : FnScope N_Tree_size_of ["self", "number"] (defScope s_Tree_size_of) := ⟨rfl, rfl, rfl, by decide +kernel, rfl, by decide +kernel, by decide +kernel⟩
abbrev s_Tree_height_of : Stmt := inClass (topS 10) 9
abbrev N_Tree_height_of : List Str := ["self", "number", "node", "child"]
theorem sc_Tree_height_of : FnScope N_Tree_height_of ["self", "number"] (defScope s_Tree_height_of) := ⟨rfl, rfl, rfl, by decide +kernel, rfl, by decide +kernel, by decide +kernel⟩
abbrev s_Tree__enter : Stmt := inClass (topS 10) 11
abbrev N_Tree__enter : List Str := ["self", "number", "parent", "name"]
theorem sc_Tree__enter : FnScope N_Tree__enter ["self", "number", "parent", "name"] (defScope s_Tree__enter) := ⟨rfl, rfl, rfl, by decide +kernel, rfl, by decide +kernel, by decide +kernel⟩
abbrev s__children : Stmt := topS 11
abbrev N__children : List Str := ["directory", "name"]
theorem sc__children : FnScope N__children ["directory"] (defScope s__children) := ⟨rfl, rfl, rfl, by decide +kernel, rfl, by decide +kernel, by decide +kernel⟩
abbrev s__law_stream : Stmt := topS 13
abbrev N__law_stream : List Str := ["script", "many", "draws", "cell", "rest", "k", "mixed", "wide", "j"]
theorem sc__law_stream : FnScope N__law_stream ["script", "many"] (defScope s__law_stream) := ⟨rfl, rfl, rfl, by decide +kernel, rfl, by decide +kernel, by decide +kernel⟩
abbrev s__law_draw : Stmt := topS 14
abbrev N__law_draw : List Str := ["draws", "k"]
theorem sc__law_draw : FnScope N__law_draw ["draws", "k"] (defScope s__law_draw) := ⟨rfl, rfl, rfl, by decide +kernel, rfl, by decide +kernel, by decide +kernel⟩
abbrev s__law_good : Stmt := topS 15
abbrev N__law_good : List Str := ["name"]
theorem sc__law_good : FnScope N__law_good ["name"] (defScope s__law_good) := ⟨rfl, rfl, rfl, by decide +kernel, rfl, by decide +kernel, by decide +kernel⟩
abbrev s__law_name : Stmt := topS 16
abbrev N__law_name : List Str := ["draw", "signs", "name", "rest", "k"]
theorem sc__law_name : FnScope N__law_name ["draw"] (defScope s__law_name) := ⟨rfl, rfl, rfl, by decide +kernel, rfl, by decide +kernel, by decide +kernel⟩
abbrev s__law_near : Stmt := topS 17
abbrev N__law_near : List Str := ["name", "draw", "signs", "at", "sign"]
theorem sc__law_near : FnScope N__law_near ["name", "draw"] (defScope s__law_near) := ⟨rfl, rfl, rfl, by decide +kernel, rfl, by decide +kernel, by decide +kernel⟩
abbrev s__law_names : Stmt := topS 18
abbrev N__law_names : List Str := ["draws", "at", "names", "k", "draw"]
theorem sc__law_names : FnScope N__law_names ["draws", "at"] (defScope s__law_names) := ⟨rfl, rfl, rfl, by decide +kernel, rfl, by decide +kernel, by decide +kernel⟩
abbrev s__law_text : Stmt := topS 19
abbrev N__law_text : List Str := ["draw", "signs", "size", "rest", "part", "k"]
theorem sc__law_text : FnScope N__law_text ["draw"] (defScope s__law_text) := ⟨rfl, rfl, rfl, by decide +kernel, rfl, by decide +kernel, by decide +kernel⟩
abbrev s__law_same : Stmt := topS 20
abbrev N__law_same : List Str := ["actual", "due", "k"]
theorem sc__law_same : FnScope N__law_same ["actual", "due"] (defScope s__law_same) := ⟨rfl, rfl, rfl, by decide +kernel, rfl, by decide +kernel, by decide +kernel⟩
abbrev s__law_at : Stmt := topS 21
abbrev N__law_at : List Str := ["nodes", "path", "k"]
theorem sc__law_at : FnScope N__law_at ["nodes", "path"] (defScope s__law_at) := ⟨rfl, rfl, rfl, by decide +kernel, rfl, by decide +kernel, by decide +kernel⟩
abbrev s__law_inside : Stmt := topS 22
abbrev N__law_inside : List Str := ["path", "top"]
theorem sc__law_inside : FnScope N__law_inside ["path", "top"] (defScope s__law_inside) := ⟨rfl, rfl, rfl, by decide +kernel, rfl, by decide +kernel, by decide +kernel⟩
abbrev s__law_attach : Stmt := topS 23
abbrev N__law_attach : List Str := ["tree", "nodes", "at", "name", "draw", "path", "number", "folder", "made", "text", "kept"]
theorem sc__law_attach : FnScope N__law_attach ["tree", "nodes", "at", "name", "draw"] (defScope s__law_attach) := ⟨rfl, rfl, rfl, by decide +kernel, rfl, by decide +kernel, by decide +kernel⟩
abbrev s__law_move : Stmt := topS 24
abbrev N__law_move : List Str := ["tree", "nodes", "number", "at", "name", "old", "path", "inner", "node", "row", "k"]
theorem sc__law_move : FnScope N__law_move ["tree", "nodes", "number", "at", "name"] (defScope s__law_move) := ⟨rfl, rfl, rfl, by decide +kernel, rfl, by decide +kernel, by decide +kernel⟩
abbrev s__law_numbers : Stmt := topS 25
abbrev N__law_numbers : List Str := ["actual", "due"]
theorem sc__law_numbers : FnScope N__law_numbers ["actual", "due"] (defScope s__law_numbers) := ⟨rfl, rfl, rfl, by decide +kernel, rfl, by decide +kernel, by decide +kernel⟩
abbrev s__law_node_is : Stmt := topS 26
abbrev N__law_node_is : List Str := ["tree", "nodes", "number", "name", "kind", "path", "handed", "above", "k", "turn", "names", "numbers", "inner", "node", "size", "height", "due"]
theorem sc__law_node_is : FnScope N__law_node_is ["tree", "nodes", "number", "name"] (defScope s__law_node_is) := ⟨rfl, rfl, rfl, by decide +kernel, rfl, by decide +kernel, by decide +kernel⟩
abbrev s__law_unknown : Stmt := topS 27
abbrev N__law_unknown : List Str := ["tree", "number", "e"]
theorem sc__law_unknown : FnScope N__law_unknown ["tree", "number"] (defScope s__law_unknown) := ⟨rfl, rfl, rfl, by decide +kernel, rfl, by decide +kernel, by decide +kernel⟩
abbrev s_law : Stmt := topS 28
abbrev N_law : List Str := ["script", "draws", "names", "tree", "nodes", "k", "draw", "second", "folders", "j", "at", "name", "number", "odd"]
theorem sc_law : FnScope N_law ["script"] (defScope s_law) := ⟨rfl, rfl, rfl, by decide +kernel, rfl, by decide +kernel, by decide +kernel⟩
section
variable {P : Program} {w : World} {K : PySem.W.Frag} {mg : Str → Option Value} {base : Heap}
structure Glo (mg : Str → Option Value) : Prop where
  len : mg "len" = none
  int : mg "int" = none
  range : mg "range" = none
  min : mg "min" = none
  sum : mg "sum" = none
  isinstance : mg "isinstance" = none
  bool : mg "bool" = none
  tuple : mg "tuple" = none
  list : mg "list" = none
  str : mg "str" = none
  sorted : mg "sorted" = none
  max : mg "max" = none
  ValueError : mg "ValueError" = none
theorem r_do {σ : L2.St} {H : Hp} {D : Ends} {te : TE} (h : te σ H D.rt) : tRet te D σ H := h
theorem qe_fldN {σ : L2.St} {B H : Hp} {l : List MP} {ta te : TE} {D : Ends} {tz : TS} {a C dx : Addr} {fs : List (Str × V)} {f : Str} {u : HO} (k : Nat) (hk : l[k]? = some (Pt a (.ins C dx fs))) (hA : At B l H) (hv : ∀ Q : VK, (∀ p H1, H p = none → Ex H H1 → H1 p = some u → Q (.ref p) H1) → te σ H Q) (ho : ∀ H1, Ev ta σ H1 (.ref a)) (c : Cls K C) (n : NoAttr K C f) (hl : fs.length < 1000) (g : ∀ p H1, At B (Pt p u :: l.set k (Pt a (.ins C dx (putF f (.ref p) fs)))) H1 → tz D σ H1) : tSeq (sFld K ta te f) tz D σ H :=
  hv _ fun p H1 np e1 hp => by
    have hA1 := at_new hA np e1 hp
    exact ho _ _ (Ex.refl _) _ fun H2 e2 => ⟨a, C, dx, fs, rfl, at_get (k + 1) (by simpa using hk) (at_ex hA1 e2), c, n, hl, g p _ (by
      have h := at_upd (u := .ins C dx (putF f (.ref p) fs)) (k + 1) (by simpa using hk) (at_ex hA1 e2)
      simpa using h)⟩
theorem k_tup {B H : Hp} {l : List MP} {p : Addr} {ds : List PyData} {Q : VK} (n : Nat) (hn : l[n]? = some (LstM K p ds)) (hA : At B l H) (q : ∀ v B1 H1, Ex B B1 → At B1 l H1 → Dp K B1 v (.tuple ds) → Q v H1) : kTup K (.ref p) H Q := by
  obtain ⟨xs, hxs, hp⟩ := lst_at (K := K) n hn hA
  refine .inl ⟨p, xs, rfl, sq_of hp, fun o ho => ?_⟩
  obtain ⟨k1, k2, k3⟩ := Ap.at_tup (vs := xs) hA ho
  exact q _ _ _ k1 k2 (.tup (st_of k3) (dpa_mono k1 _ _ hxs))
theorem go_thenK {σ : L2.St} {H : Hp} {te : TE} {k : V → Hp → VK → Prop} {Q : VK} (h : te σ H fun v H1 => k v H1 Q) : tThen te k σ H Q := h
def pcLen : PyData → Int
  | .tuple [_, _, _, .str t] => (t.length : Int)
  | _ => 0
def flN (ps : List PyData) : Int := (ps.map pcLen).sum
theorem flN_snoc (ps : List PyData) (d : PyData) : flN (ps ++ [d]) = flN ps + pcLen d := by
  unfold flN
  rw [List.map_append, List.sum_append]
  simp
structure FlC (K : PySem.W.Frag) (C : Addr) : Prop where
  cl : Cls K C
  nP : NoAttr K C "_pieces"
  nS : NoAttr K C "_sealed"
  nL : NoAttr K C "_length"
def fF (p : Addr) (b : Bool) (n : Int) : List (Str × V) := [("_pieces", .ref p), ("_sealed", .bl b), ("_length", .int n)]
def FlM (K : PySem.W.Frag) (C f : Addr) (ps : List PyData) (b : Bool) : MP := ExM fun x : Addr × Addr => Stars [Pt f (.ins C x.1 (fF x.2 b (flN ps))), LstM K x.2 ps]
theorem fl_open {B H : Hp} {F : List MP} {C f : Addr} {ps : List PyData} {b : Bool} (h : At B (FlM K C f ps b :: F) H) : ∃ dx p, At B (Pt f (.ins C dx (fF p b (flN ps))) :: LstM K p ps :: F) H := by
  obtain ⟨⟨dx, p⟩, h⟩ := at_exm h
  exact ⟨dx, p, at_stars (k := [_, _]) h⟩
theorem fl_close {B H : Hp} {F : List MP} {C f dx p : Addr} {ps : List PyData} {b : Bool} (h : At B (Pt f (.ins C dx (fF p b (flN ps))) :: LstM K p ps :: F) H) : At B (FlM K C f ps b :: F) H := at_exm' (dx, p) (at_stars' [_, _] h)
theorem fl_ins {B H : Hp} {F : List MP} {C f : Addr} {ps : List PyData} {b : Bool} (h : At B (FlM K C f ps b :: F) H) : ∃ dx p, H f = some (.ins C dx (fF p b (flN ps))) := by
  obtain ⟨dx, p, h⟩ := fl_open h
  exact ⟨dx, p, at_get 0 rfl h⟩
def spFlI (K : PySem.W.Frag) (C : Addr) : Sp := fun vs H Q _ => ∃ (f dx : Addr) (B : Hp) (F : List MP), vs = [.ref f] ∧ At B (Pt f (.ins C dx []) :: F) H ∧ ∀ H1, At B (FlM K C f [] false :: F) H1 → Q .non H1
theorem ok_finit {f C : Addr} {fd : FuncData} (F : Fun K "__init__" "File.__init__" s_File___init__ f fd) (L : FlC K C) (T : Glo mg) : FnOk P w K mg base CX0 1 f fd ["self"] (spFlI K C) := by
  refine F.ok sc_File___init__ (fun vs H Q E h => ?_) (fun cdv A outer s H vs Q E hr h => ?_)
  · obtain ⟨d, dx, B, Fr, rfl, _⟩ := h
    rfl
  · obtain ⟨d, dx, B, Fr, rfl, hA, q⟩ := h
    refine ⟨_, (pss_cons (ps_fld (pv 0) (pe_lst pa_nil) rfl)
  (pss_cons (ps_fld (pv 0) pe_bl rfl)
  (pss_one (ps_fld (pv 0) pe_int rfl)))), ?_⟩
    refine qe_fldN (K := K) (u := .lst []) 0 rfl hA (fun Q' hQ => el_lst ea_nil (by decide) H (Ex.refl H) _ fun p H1 np e1 hp => hQ p H1 np e1 hp) (fun _ => ev_var rfl) L.cl L.nP (by show 0 < 1000; decide) fun p H1 hA => ?_
    refine qe_fld (K := K) 1 rfl hA ev_c (fun _ => ev_var rfl) L.cl L.nS (by show 1 < 1000; decide) fun H2 hA => ?_
    refine se_fld (K := K) 1 rfl hA ev_c (fun _ => ev_var rfl) L.cl L.nL (by show 2 < 1000; decide) fun H3 hA => ?_
    exact q H3 (fl_close (at_ix 2 [1, 0] (at_closeL (K := K) (ds := []) 0 rfl .nil hA)))
def spFlP (K : PySem.W.Frag) (C : Addr) : Sp := fun vs H Q _ => ∃ (f : Addr) (ps : List PyData) (b : Bool) (B : Hp) (F : List MP), vs = [.ref f] ∧ At B (FlM K C f ps b :: F) H ∧ ∀ v B1 H1, Ex B B1 → Dp K B1 v (.tuple ps) → At B1 (FlM K C f ps b :: F) H1 → Q v H1
theorem ok_fpieces {f C : Addr} {fd : FuncData} (F : Fun K "pieces" "File.pieces" s_File_pieces f fd) (L : FlC K C) (T : Glo mg) : FnOk P w K mg base CX0 1 f fd ["self"] (spFlP K C) := by
  refine F.ok sc_File_pieces (fun vs H Q E h => ?_) (fun cdv A outer s H vs Q E hr h => ?_)
  · obtain ⟨d, ps, b, B, Fr, rfl, _⟩ := h
    rfl
  · obtain ⟨d, ps, b, B, Fr, rfl, hA, q⟩ := h
    refine ⟨_, (pss_one (ps_ret (pe_tupleOf (by rfl) T.tuple (pe_fld (pv 0) rfl)))), ?_⟩
    obtain ⟨dx, p, hA⟩ := fl_open hA
    exact r_do (go_thenK (go_ev (ev_fld (K := K) (ev_var rfl) (at_get 0 rfl hA) L.cl L.nP rfl) fun H1 e1 => k_tup (K := K) 1 rfl (at_ex hA e1) fun v B1 H2 b1 hA hv => q v B1 H2 b1 hv (fl_close hA)))
def spFlL (K : PySem.W.Frag) (C : Addr) : Sp := fun vs H Q _ => ∃ (f : Addr) (ps : List PyData) (b : Bool) (B : Hp) (F : List MP), vs = [.ref f] ∧ At B (FlM K C f ps b :: F) H ∧ ∀ H1, Ex H H1 → Q (.int (flN ps)) H1
theorem ok_flength {f C : Addr} {fd : FuncData} (F : Fun K "length" "File.length" s_File_length f fd) (L : FlC K C) (T : Glo mg) : FnOk P w K mg base CX0 1 f fd ["self"] (spFlL K C) := by
  refine F.ok sc_File_length (fun vs H Q E h => ?_) (fun cdv A outer s H vs Q E hr h => ?_)
  · obtain ⟨d, ps, b, B, Fr, rfl, _⟩ := h
    rfl
  · obtain ⟨d, ps, b, B, Fr, rfl, hA, q⟩ := h
    refine ⟨_, (pss_one (ps_ret (pe_fld (pv 0) rfl))), ?_⟩
    obtain ⟨dx, p, hd⟩ := fl_ins hA
    exact s_ret (ev_fld (K := K) (ev_var rfl) hd L.cl L.nL rfl) q
def spFlA (K : PySem.W.Frag) (C : Addr) : Sp := fun vs H Q _ => ∃ (f : Addr) (v : V) (ps : List PyData) (a1 a2 a3 : PyData) (z : Str) (b : Bool) (B : Hp) (F : List MP), vs = [.ref f, v] ∧ At B (FlM K C f ps b :: F) H ∧ Dp K B v (.tuple [a1, a2, a3, .str z]) ∧ z.length ≤ 1000 ∧ ps.length < 1000 ∧ ∀ B1 H1, Ex B B1 → At B1 (FlM K C f (ps ++ [.tuple [a1, a2, a3, .str z]]) b :: F) H1 → Q (.int (flN ps)) H1
theorem ok_fadd {f C : Addr} {fd : FuncData} (F : Fun K "add_piece" "File.add_piece" s_File_add_piece f fd) (L : FlC K C) (T : Glo mg) : FnOk P w K mg base CX0 1 f fd ["self", "piece"] (spFlA K C) := by
  refine F.ok sc_File_add_piece (fun vs H Q E h => ?_) (fun cdv A outer s H vs Q E hr h => ?_)
  · obtain ⟨d, v, ps, a1, a2, a3, z, b, B, Fr, rfl, _⟩ := h
    rfl
  · obtain ⟨d, v, ps, a1, a2, a3, z, b, B, Fr, rfl, hA, hv, hz, hl, q⟩ := h
    refine ⟨_, (pss_cons (ps_set (i := 2) sc_File_add_piece.nd rfl (.inl rfl) (pe_fld (pv 0) rfl))
  (pss_cons (ps_set (i := 3) sc_File_add_piece.nd rfl (.inl rfl) (pe_ix ix_tup (pv 1) pe_int (fun _ _ => rfl)))
  (pss_cons (ps_expr (pe_bm PySem.F.plainAttrs_list PySem.F.slot_list_append PySem.F.type_list_append mt_append (pe_fld (pv 0) rfl) (pa_cons (pv 1) pa_nil)))
  (pss_cons (ps_fldaug (pv 0) (pe_callB call_len_str (by rfl) T.len PySem.boot_len (pa_cons (pv 3) pa_nil)) in_add)
  (pss_one (ps_ret (pv 2))))))), ?_⟩
    obtain ⟨ta, x1, x2, x3, rfl, hs⟩ : ∃ ta x1 x2 x3, v = .ref ta ∧ SqT K B ta [x1, x2, x3, .str z] := by
      cases hv with
      | tup hs hd => cases hd with
        | cons g1 r => cases r with
          | cons g2 r => cases r with
            | cons g3 r => cases r with
              | cons g4 r => cases r; cases g4; exact ⟨_, _, _, _, rfl, hs⟩
    obtain ⟨dx, p, hA⟩ := fl_open hA
    refine qe_asg hA (ev_fld (K := K) (ev_var rfl) (at_get 0 rfl hA) L.cl L.nL rfl) fun H1 hA => ?_
    refine qe_asg hA (ev_op (ev_var rfl) ev_c (rv_ixT (ex_t (at_base hA) hs) (atI_nat (j := 3) rfl))) fun H2 hA => ?_
    refine qm_appF (K := K) (ds := ps) (d := .tuple [a1, a2, a3, .str z]) 1 rfl hA (fun H3 hA => ev_fld (K := K) (ev_var rfl) (at_get 0 rfl hA) L.cl L.nP rfl) (wv_var rfl hv) (by omega) fun B1 H3 b1 hA => ?_
    refine qe_faug (K := K) (i := flN ps) (j := (z.length : Int)) 0 rfl hA (ev_var rfl) (fun H4 => ev_cb (ea_cons (ev_var rfl) ea_nil) (rc_lenS (by omega))) L.cl L.nL rfl (by show 3 < 1000; decide) fun H4 hA => ?_
    have e : flN ps + (z.length : Int) = flN (ps ++ [.tuple [a1, a2, a3, .str z]]) := by rw [flN_snoc]; rfl
    rw [e] at hA
    have hA : At B1 (Pt d (.ins C dx (fF p b (flN (ps ++ [.tuple [a1, a2, a3, .str z]])))) :: LstM K p (ps ++ [.tuple [a1, a2, a3, .str z]]) :: Fr) H4 := hA
    exact se_ret hA (ev_var rfl) fun H5 hA => q B1 H5 b1 (fl_close hA)
def kvT (l : List (Str × V)) : List (Key × V) := l.map fun p => (Sum.inr p.1, p.2)
theorem kvT_val (k : Str) : ∀ l : List (Str × V), valV (kvT l) (Sum.inr k) = valV l k
  | [] => rfl
  | p :: r => by
    have ih := kvT_val k r
    show valV ((Sum.inr p.1, p.2) :: kvT r) (Sum.inr k) = valV (p :: r) k
    by_cases h : p.1 = k
    · rw [valV_pos (p := (Sum.inr p.1, p.2)) (by show Sum.inr p.1 = Sum.inr k; rw [h]), valV_pos h]
    · rw [valV_neg (p := (Sum.inr p.1, p.2)) (fun e => h (Sum.inr.inj e)), valV_neg h, ih]
theorem kvT_any (k : Str) : ∀ l : List (Str × V), ((kvT l).any fun kv => decide (kv.1 = Sum.inr k)) = l.any fun kv => decide (kv.1 = k)
  | [] => rfl
  | p :: r => by
    have ih := kvT_any k r
    show (decide ((Sum.inr p.1 : Key) = Sum.inr k) || (kvT r).any _) = (decide (p.1 = k) || r.any _)
    rw [ih]
    congr 1
    by_cases h : p.1 = k
    · rw [decide_eq_true h, decide_eq_true (by rw [h])]
    · rw [decide_eq_false h, decide_eq_false (fun e => h (Sum.inr.inj e))]
theorem kvT_put (l : List (Str × V)) (k : Str) (v : V) : putK (kvT l) (Sum.inr k) v = kvT (putK l k v) := by
  unfold putK
  rw [kvT_any]
  split
  · unfold kvT
    rw [List.map_map, List.map_map]
    refine List.map_congr_left fun p _ => ?_
    show (if (Sum.inr p.1 : Key) = Sum.inr k then ((Sum.inr p.1 : Key), v) else (Sum.inr p.1, p.2)) = (Sum.inr (if p.1 = k then (p.1, v) else p).1, (if p.1 = k then (p.1, v) else p).2)
    by_cases h : p.1 = k
    · rw [if_pos h, if_pos (by rw [h])]
    · rw [if_neg h, if_neg (fun e => h (Sum.inr.inj e))]
  · unfold kvT
    rw [List.map_append]
    rfl
theorem kvT_drop (l : List (Str × V)) (k : Str) : dropK (kvT l) (Sum.inr k) = kvT (dropK l k) := by
  unfold dropK kvT
  rw [List.filter_map]
  congr 1
  refine List.filter_congr fun p _ => ?_
  show decide ((Sum.inr p.1 : Key) ≠ Sum.inr k) = decide (p.1 ≠ k)
  by_cases h : p.1 = k
  · simp [h]
  · simp [h]
theorem kvT_keys (l : List (Str × V)) : (kvT l).map (·.1) = (l.map (·.1)).map Sum.inr := by
  unfold kvT
  rw [List.map_map, List.map_map]
  rfl
theorem go_dget1 {σ : L2.St} {H : Hp} {td ty : TE} {Q : VK} (h : td σ H fun x H1 => ∃ a, x = .ref a ∧ IsD H1 a ∧ ty σ H1 fun y H2 => ∃ o, DGet H2 a y o ∧ Q (o.getD .non) H2) : tDGet1 td ty σ H Q := h
theorem go_dpop1 {σ : L2.St} {H : Hp} {td ty : TE} {Q : VK} (h : td σ H fun x H1 => ∃ a, x = .ref a ∧ IsD H1 a ∧ ty σ H1 fun y H2 => ∃ kvs k v, H2 a = some (.dK kvs) ∧ y = kV k ∧ valV kvs k = some v ∧ Q v (upd H2 a (.dK (dropK kvs k)))) : tDPop1 td ty σ H Q := h
theorem s_dput {σ : L2.St} {H : Hp} {D : Ends} {td ty tv : TE} (h : tv σ H fun v H1 => td σ H1 fun x H2 => ty σ H2 fun y H3 => ∃ a H4, x = .ref a ∧ DPut H3 a y v H4 ∧ D.nx σ H4) : sDPut td ty tv D σ H := h
theorem et_dnin {σ : L2.St} {H : Hp} {ty td : TE} {a : Addr} {l : List (Str × V)} {z : Str} (hy : Ev ty σ H (.str z)) (hd : Ev td σ H (.ref a)) (h : H a = some (.dK (kvT l))) : EvT (tB (tDNotIn ty td)) σ H (!(valV l z).isSome) := et_B (fun H1 e Q q => hy H1 e _ fun H2 e2 => hd H2 (e.trans e2) _ fun H3 e3 => ⟨a, valV l z, rfl, by
  rw [← kvT_val]
  exact DGet.k (k := Sum.inr z) (((e.trans e2).trans e3) _ _ h), q H3 (e2.trans e3)⟩)
structure DrC (K : PySem.W.Frag) (C : Addr) : Prop where
  cl : Cls K C
  nE : NoAttr K C "_entries"
  nL : NoAttr K C "_limit"
def fDr (e : Addr) (lim : V) : List (Str × V) := [("_entries", .ref e), ("_limit", lim)]
def DrM (K : PySem.W.Frag) (C d : Addr) (l : List (Str × V)) (lim : V) : MP := ExM fun x : Addr × Addr => Stars [Pt d (.ins C x.1 (fDr x.2 lim)), Pt x.2 (.dK (kvT l))]
theorem dr_open {B H : Hp} {F : List MP} {C d : Addr} {l : List (Str × V)} {lim : V} (h : At B (DrM K C d l lim :: F) H) : ∃ dx e, At B (Pt d (.ins C dx (fDr e lim)) :: Pt e (.dK (kvT l)) :: F) H := by
  obtain ⟨⟨dx, e⟩, h⟩ := at_exm h
  exact ⟨dx, e, at_stars (k := [_, _]) h⟩
theorem dr_close {B H : Hp} {F : List MP} {C d dx e : Addr} {l : List (Str × V)} {lim : V} (h : At B (Pt d (.ins C dx (fDr e lim)) :: Pt e (.dK (kvT l)) :: F) H) : At B (DrM K C d l lim :: F) H := at_exm' (dx, e) (at_stars' [_, _] h)
def spDrI (K : PySem.W.Frag) (C : Addr) : Sp := fun vs H Q _ => ∃ (f dx : Addr) (B : Hp) (F : List MP), vs = [.ref f] ∧ At B (Pt f (.ins C dx []) :: F) H ∧ ∀ H1, At B (DrM K C f [] .non :: F) H1 → Q .non H1
theorem ok_drinit {f C : Addr} {fd : FuncData} (F : Fun K "__init__" "Directory.__init__" s_Directory___init__ f fd) (L : DrC K C) (T : Glo mg) : FnOk P w K mg base CX0 1 f fd ["self"] (spDrI K C) := by
  refine F.ok sc_Directory___init__ (fun vs H Q E h => ?_) (fun cdv A outer s H vs Q E hr h => ?_)
  · obtain ⟨d, dx, B, Fr, rfl, _⟩ := h
    rfl
  · obtain ⟨d, dx, B, Fr, rfl, hA, q⟩ := h
    refine ⟨_, (pss_cons (ps_fld (pv 0) pe_dnewK rfl)
  (pss_one (ps_fld (pv 0) pe_non rfl))), ?_⟩
    refine qe_fldD (K := K) 0 rfl hA (fun _ => ev_var rfl) L.cl L.nE (by show 0 < 1000; decide) fun e H1 hA => ?_
    refine se_fld (K := K) 1 rfl hA ev_c (fun _ => ev_var rfl) L.cl L.nL (by show 1 < 1000; decide) fun H2 hA => ?_
    have hA : At B (Pt e (.dK (kvT [])) :: Pt d (.ins C dx (fDr e .non)) :: Fr) H2 := hA
    exact q H2 (dr_close (at_ix 2 [1, 0] hA))
def spDrL (K : PySem.W.Frag) (C : Addr) : Sp := fun vs H Q _ => ∃ (d : Addr) (l : List (Str × V)) (lim : V) (B : Hp) (F : List MP), vs = [.ref d] ∧ At B (DrM K C d l lim :: F) H ∧ ∀ H1, Ex H H1 → Q lim H1
theorem ok_drlimit {f C : Addr} {fd : FuncData} (F : Fun K "limit" "Directory.limit" s_Directory_limit f fd) (L : DrC K C) (T : Glo mg) : FnOk P w K mg base CX0 1 f fd ["self"] (spDrL K C) := by
  refine F.ok sc_Directory_limit (fun vs H Q E h => ?_) (fun cdv A outer s H vs Q E hr h => ?_)
  · obtain ⟨d, l, lim, B, Fr, rfl, _⟩ := h
    rfl
  · obtain ⟨d, l, lim, B, Fr, rfl, hA, q⟩ := h
    refine ⟨_, (pss_one (ps_ret (pe_fld (pv 0) rfl))), ?_⟩
    obtain ⟨dx, e, hA⟩ := dr_open hA
    exact s_ret (ev_fld (K := K) (ev_var rfl) (at_get 0 rfl hA) L.cl L.nL rfl) q
def spDrS (K : PySem.W.Frag) (C : Addr) : Sp := fun vs H Q _ => ∃ (d : Addr) (v : V) (l : List (Str × V)) (lim : V) (B : Hp) (F : List MP), vs = [.ref d, v] ∧ At B (DrM K C d l lim :: F) H ∧ ∀ H1, At B (DrM K C d l v :: F) H1 → Q .non H1
theorem ok_drset {f C : Addr} {fd : FuncData} (F : Fun K "set_limit" "Directory.set_limit" s_Directory_set_limit f fd) (L : DrC K C) (T : Glo mg) : FnOk P w K mg base CX0 1 f fd ["self", "most"] (spDrS K C) := by
  refine F.ok sc_Directory_set_limit (fun vs H Q E h => ?_) (fun cdv A outer s H vs Q E hr h => ?_)
  · obtain ⟨d, v, l, lim, B, Fr, rfl, _⟩ := h
    rfl
  · obtain ⟨d, v, l, lim, B, Fr, rfl, hA, q⟩ := h
    refine ⟨_, (pss_one (ps_fld (pv 0) (pv 1) rfl)), ?_⟩
    obtain ⟨dx, e, hA⟩ := dr_open hA
    exact se_fld (K := K) (C := C) (dx := dx) (fs := fDr e lim) 0 rfl hA (ev_var rfl) (fun _ => ev_var rfl) L.cl L.nL (by show 2 < 1000; decide) fun H3 hA => q H3 (dr_close (dx := dx) (e := e) (show At B (Pt d (.ins C dx (fDr e v)) :: Pt e (.dK (kvT l)) :: Fr) H3 from hA))
def spDrC (K : PySem.W.Frag) (C : Addr) : Sp := fun vs H Q _ => ∃ (d : Addr) (z : Str) (l : List (Str × V)) (lim : V) (B : Hp) (F : List MP), vs = [.ref d, .str z] ∧ At B (DrM K C d l lim :: F) H ∧ ∀ H1, Ex H H1 → Q ((valV l z).getD .non) H1
theorem ok_drchild {f C : Addr} {fd : FuncData} (F : Fun K "child" "Directory.child" s_Directory_child f fd) (L : DrC K C) (T : Glo mg) : FnOk P w K mg base CX0 1 f fd ["self", "name"] (spDrC K C) := by
  refine F.ok sc_Directory_child (fun vs H Q E h => ?_) (fun cdv A outer s H vs Q E hr h => ?_)
  · obtain ⟨d, z, l, lim, B, Fr, rfl, _⟩ := h
    rfl
  · obtain ⟨d, z, l, lim, B, Fr, rfl, hA, q⟩ := h
    refine ⟨_, (pss_one (ps_ret (pe_dget1 (hu_of hr) (pe_fld (pv 0) rfl) (pv 1) ⟨rfl, rfl, rfl, rfl⟩))), ?_⟩
    obtain ⟨dx, e, hA⟩ := dr_open hA
    refine r_do (go_dget1 (go_ev (ev_fld (K := K) (ev_var rfl) (at_get 0 rfl hA) L.cl L.nE rfl) fun H1 e1 => ⟨e, rfl, .inl ⟨_, .inl (at_get (a := e) 1 rfl (at_ex hA e1))⟩, go_ev (ev_var rfl) fun H2 e2 => ⟨valV l z, ?_, q H2 (e1.trans e2)⟩⟩))
    rw [← kvT_val]
    exact DGet.k (k := Sum.inr z) (at_get (a := e) 1 rfl (at_ex hA (e1.trans e2)))
def spDrP (K : PySem.W.Frag) (C : Addr) : Sp := fun vs H Q _ => ∃ (d : Addr) (z : Str) (v : V) (l : List (Str × V)) (lim : V) (B : Hp) (F : List MP), vs = [.ref d, .str z, v] ∧ At B (DrM K C d l lim :: F) H ∧ l.length < 1000 ∧ ∀ H1, At B (DrM K C d (putK l z v) lim :: F) H1 → Q .non H1
theorem ok_drput {f C : Addr} {fd : FuncData} (F : Fun K "put" "Directory.put" s_Directory_put f fd) (L : DrC K C) (T : Glo mg) : FnOk P w K mg base CX0 1 f fd ["self", "name", "number"] (spDrP K C) := by
  refine F.ok sc_Directory_put (fun vs H Q E h => ?_) (fun cdv A outer s H vs Q E hr h => ?_)
  · obtain ⟨d, z, v, l, lim, B, Fr, rfl, _⟩ := h
    rfl
  · obtain ⟨d, z, v, l, lim, B, Fr, rfl, hA, hl, q⟩ := h
    refine ⟨_, (pss_one (ps_dput (hu_of hr) (pe_fld (pv 0) rfl) (pv 1) (pv 2) rfl)), ?_⟩
    obtain ⟨dx, e, hA⟩ := dr_open hA
    refine s_dput (go_ev (ev_var rfl) fun H1 e1 => go_ev (ev_fld (K := K) (ev_var rfl) (at_get 0 rfl (at_ex hA e1)) L.cl L.nE rfl) fun H2 e2 => go_ev (ev_var rfl) fun H3 e3 => ?_)
    have hA := at_ex hA ((e1.trans e2).trans e3)
    have he := at_get (a := e) 1 rfl hA
    refine ⟨e, _, rfl, DPut.k (k := Sum.inr z) he (sz_lt (by unfold kvT; rw [List.length_map]; omega)), ?_⟩
    rw [kvT_put]
    have hA := at_upd (a := e) (u := .dK (kvT (putK l z v))) 1 rfl hA
    exact q _ (dr_close (dx := dx) (e := e) hA)
def spDrT (K : PySem.W.Frag) (C CU : Addr) : Sp := fun vs H Q E => ∃ (d : Addr) (z : Str) (l : List (Str × V)) (lim : V) (B : Hp) (F : List MP), vs = [.ref d, .str z] ∧ At B (DrM K C d l lim :: F) H ∧ (∀ v, valV l z = some v → ∀ H1, At B (DrM K C d (dropK l z) lim :: F) H1 → Q v H1) ∧ (valV l z = none → ∀ H1, Ex H H1 → E (.ref CU) none H1)
theorem ok_drtake {f C C_Unknown BU : Addr} {fd : FuncData} (F : Fun K "take" "Directory.take" s_Directory_take f fd) (L : DrC K C) (E_Unknown : Err K mg "Unknown" C_Unknown BU) (T : Glo mg) : FnOk P w K mg base (L2.CX P w) 1 f fd ["self", "name"] (spDrT K C C_Unknown) := by
  refine F.okX sc_Directory_take (fun vs H Q E h => ?_) (fun cdv A outer s H vs Q E hr h => ?_)
  · obtain ⟨d, z, l, lim, B, Fr, rfl, _⟩ := h
    rfl
  · obtain ⟨d, z, l, lim, B, Fr, rfl, hA, q1, q2⟩ := h
    refine ⟨_, (pss_cons (ps_if (pt_cmp (pc_dnotin (by exact hu_of hr) (pv 1) (show PE _ _ (tFld K _ "_entries") from pe_fld (pv 0) (by rfl))))
  (pss_one (ps_raise rfl (takes_of rfl rfl rfl rfl) (Err.mk' E_Unknown rfl)))
  pss_nil)
  (pss_one (ps_ret (pe_dpop1 (pe_fld (pv 0) rfl) (pv 1) ⟨rfl, rfl, rfl, rfl⟩)))), ?_⟩
    obtain ⟨dx, e, hA⟩ := dr_open hA
    refine q_when (b := !(valV l z).isSome) (et_dnin (ev_var rfl) (ev_fld (K := K) (ev_var rfl) (at_get 0 rfl hA) L.cl L.nE rfl) (at_get (a := e) 1 rfl hA)) (fun hb H1 e1 => q2 (by cases hv : valV l z with | none => rfl | some x => rw [hv] at hb; cases hb) H1 e1) (fun hb H1 e1 => ?_)
    obtain ⟨v, hv⟩ : ∃ v, valV l z = some v := by
      cases hv : valV l z with
      | none => rw [hv] at hb; cases hb
      | some x => exact ⟨x, rfl⟩
    have hA := at_ex hA e1
    refine r_do (go_dpop1 (go_ev (ev_fld (K := K) (ev_var rfl) (at_get 0 rfl hA) L.cl L.nE rfl) fun H2 e2 => ⟨e, rfl, .inl ⟨_, .inl (at_get (a := e) 1 rfl (at_ex hA e2))⟩, go_ev (ev_var rfl) fun H3 e3 => ⟨_, Sum.inr z, v, at_get (a := e) 1 rfl (at_ex hA (e2.trans e3)), rfl, by rw [kvT_val]; exact hv, ?_⟩⟩))
    rw [kvT_drop]
    have hA := at_upd (a := e) (u := .dK (kvT (dropK l z))) 1 rfl (at_ex hA (e2.trans e3))
    exact q1 v hv _ (dr_close (dx := dx) (e := e) hA)
inductive Oks : Nat → PyData → Prop
  | int {n : Nat} (i : Int) : Oks n (.int i)
  | str {n : Nat} (z : Str) : Oks n (.str z)
  | tup {n : Nat} {ds : List PyData} (h : ds.length ≤ 50000) (hs : ∀ d, d ∈ ds → Oks n d) : Oks (n + 1) (.tuple ds)
def spSm (K : PySem.W.Frag) (n : Nat) : Sp := fun vs H Q _ => ∃ (x y : V) (d : PyData), vs = [x, y] ∧ Dx K H x d ∧ Dx K H y d ∧ Oks n d ∧ RetV (.bl true) H Q
theorem ok_same26 {f : Addr} {fd : FuncData} (D__law_same : Df K mg "_law_same" s__law_same ["actual", "due"] f fd) (T : Glo mg) : ∀ n : Nat, FnOk P w K mg base CX0 (n + 1) f fd ["actual", "due"] (spSm K n) := fun n => by
  have key : ∀ (n : Nat) (S : Sp), FnOk P w K mg base CX0 n f fd ["actual", "due"] S → (∀ m, n = m + 1 → S = spSm K m) → FnOk P w K mg base CX0 (n + 1) f fd ["actual", "due"] (spSm K n) := fun n S G__law_same hSm => by
    refine D__law_same.F.ok sc__law_same (fun vs H Q E h => ?_) (fun cdv A outer s H vs Q E hr h => ?_)
    · obtain ⟨x, y, d, rfl, _⟩ := h
      rfl
    · obtain ⟨x, y, d, rfl, hx, hy, ok, q⟩ := h
      refine ⟨_, (pss_cons (ps_if (pt_val (pe_callB call_isi (by rfl) T.isinstance (by decide +kernel) (pa_cons (pv 1) (pa_cons (pe_bltn (v := .ty "tuple") (u := .type "tuple") (by rfl) T.tuple (by decide +kernel) rfl) pa_nil))))
  (pss_cons (ps_if (PW.pt (pw_or (pt_not (pt_val (pe_callB call_isi (by rfl) T.isinstance (by decide +kernel) (pa_cons (pv 0) (pa_cons (pe_bltn (v := .ty "tuple") (u := .type "tuple") (by rfl) T.tuple (by decide +kernel) rfl) pa_nil))))) (pw_or1 (pt_cmpR op_ne (pe_callB call_len_seq (by rfl) T.len PySem.boot_len (pa_cons (pv 0) pa_nil)) (pe_callB call_len_seq (by rfl) T.len PySem.boot_len (pa_cons (pv 1) pa_nil)) (nomark _)))))
  (pss_one (ps_ret pe_bl))
  pss_nil)
  (pss_cons (ps_for PassesOwn.never rfl (pi_range1 (by rfl) T.range (pa_cons (pe_callB call_len_seq (by rfl) T.len PySem.boot_len (pa_cons (pv 1) pa_nil)) pa_nil)) (pg_name (i := 2) sc__law_same.nd rfl (.inl rfl))
  (pss_one (ps_if (pt_not (pt_val (pe_call G__law_same (hr.mono (by omega)) (by rfl) D__law_same.g D__law_same.F.kp D__law_same.b .nil pass0 (pa_cons (pe_ix ix_tup (pv 0) (pv 2) (fun _ _ => rfl)) (pa_cons (pe_ix ix_tup (pv 1) (pv 2) (fun _ _ => rfl)) pa_nil)))))
  (pss_one (ps_ret pe_bl))
  pss_nil)))
  (pss_one (ps_ret pe_bl))))
  pss_nil)
  (pss_cons (ps_if (pt_val (pe_callB call_isi (by rfl) T.isinstance (by decide +kernel) (pa_cons (pv 1) (pa_cons (pe_bltn (v := .ty "str") (u := .type "str") (by rfl) T.str (by decide +kernel) rfl) pa_nil))))
  (pss_one (ps_ret (pe_and (pe_callB call_isi (by rfl) T.isinstance (by decide +kernel) (pa_cons (pv 0) (pa_cons (pe_bltn (v := .ty "str") (u := .type "str") (by rfl) T.str (by decide +kernel) rfl) pa_nil))) (pe_one (pe_cmpR op_eq (pv 0) (pv 1) (nomark _))))))
  pss_nil)
  (pss_one (ps_ret (pe_and (pe_callB call_isi (by rfl) T.isinstance (by decide +kernel) (pa_cons (pv 0) (pa_cons (pe_bltn (v := .ty "int") (u := .type "int") (by rfl) T.int (by decide +kernel) rfl) pa_nil))) (pe_and (pe_not (pe_callB call_isi (by rfl) T.isinstance (by decide +kernel) (pa_cons (pv 0) (pa_cons (pe_bltn (v := .ty "bool") (u := .type "bool") (by rfl) T.bool (by decide +kernel) rfl) pa_nil)))) (pe_one (pe_cmpR op_eq (pv 0) (pv 1) (nomark _))))))))), ?_⟩
      cases ok with
      | @tup m ds hl hok =>
        have hS := hSm m rfl
        subst hS
        refine q_when (b := true) (et_B (ev_isiX (K := K) (ex_var rfl hy) (kit_tup _))) (fun _ H1 e1 => ?_) (fun hb => nomatch hb)
        have hx1 := dx_mono e1 _ _ hx
        have hy1 := dx_mono e1 _ _ hy
        refine q_when (b := false) (et_is (et_or (a := false) (b := false) (et_is (et_not (et_B (ev_isiX (K := K) (ex_var rfl hx1) (kit_tup _)))) rfl) (fun _ => et_is (et_test (ev_op (ev_lenXT (K := K) (ex_var rfl hx1)) (ev_lenXT (K := K) (ex_var rfl hy1)) rv_neI)) (by rw [decide_eq_true rfl]; rfl))) rfl) (fun hb => nomatch hb) (fun _ H2 e2 => ?_)
        have hx2 := dx_mono e2 _ _ hx1
        have hy2 := dx_mono e2 _ _ hy1
        refine q_forR1 (n := (ds.length : Int)) (ea_cons (ev_lenXT (K := K) (ex_var rfl hy2)) ea_nil) (by omega) (fun i σ' H' => ∃ y2 : Option V, σ' = [some x, some y, y2] ∧ Ex H2 H') (fun H4 e4 => ⟨none, rfl, e4⟩) (fun i σ' H' hi p => ?_) (fun σ' H' p => ?_)
        · obtain ⟨y2, rfl, e4⟩ := p
          have hx4 := dx_mono e4 _ _ hx2
          have hy4 := dx_mono e4 _ _ hy2
          have hil : i < ds.length := by omega
          have hat : atI ds (i : Int) = some ds[i] := atI_nat (List.getElem?_eq_getElem hil)
          refine s_when (b := false) (et_nt (et_B (ev_callD (K := K) (exs_cons (ex_ixT (K := K) (ex_var rfl hx4) (ev_var rfl) hat) (exs_cons (ex_ixT (K := K) (ex_var rfl hy4) (ev_var rfl) hat) exs_nil)) (fun vs H5 e5 hv Q q => ?_)))) (fun hb => nomatch hb) (fun _ H5 e5 => ⟨_, rfl, e4.trans e5⟩)
          cases hv with
          | cons h1 h2 => cases h2 with
            | cons h2 h3 =>
              cases h3
              exact ⟨_, _, _, rfl, h1, h2, hok _ (List.getElem_mem hil), q⟩
        · obtain ⟨y2, rfl, e4⟩ := p
          exact s_ret ev_c (fun H5 e5 => q H5 (((e1.trans e2).trans e4).trans e5))
      | int i =>
        have hy0 := hy
        cases hx
        cases hy
        refine q_when (b := false) (et_B (ev_isiX (K := K) (ex_var rfl hy0) (kit_tup _))) (fun hb => nomatch hb) (fun _ H1 e1 => ?_)
        have hy1 := dx_mono e1 _ _ hy0
        refine q_when (b := false) (et_B (ev_isiX (K := K) (ex_var rfl hy1) (kit_str _))) (fun hb => nomatch hb) (fun _ H2 e2 => ?_)
        have hy2 := dx_mono e2 _ _ hy1
        exact s_ret (ev_andT (ev_isiX (K := K) (ex_var rfl hy2) (kit_int _)) (ev_andT (ev_nf (ev_isiX (K := K) (ex_var rfl hy2) (kit_bool _))) (ev_op (ev_var rfl) (ev_var rfl) (rv_eqT rfl)))) (fun H5 e5 => q H5 ((e1.trans e2).trans e5))
      | str z =>
        have hy0 := hy
        cases hx
        cases hy
        refine q_when (b := false) (et_B (ev_isiX (K := K) (ex_var rfl hy0) (kit_tup _))) (fun hb => nomatch hb) (fun _ H1 e1 => ?_)
        have hy1 := dx_mono e1 _ _ hy0
        refine q_when (b := true) (et_B (ev_isiX (K := K) (ex_var rfl hy1) (kit_str _))) (fun _ H2 e2 => ?_) (fun hb => nomatch hb)
        have hy2 := dx_mono e2 _ _ hy1
        exact s_ret (ev_andT (ev_isiX (K := K) (ex_var rfl hy2) (kit_str _)) (ev_op (ev_var rfl) (ev_var rfl) (rv_eqT rfl))) (fun H5 e5 => q H5 ((e1.trans e2).trans e5))
  induction n with
  | zero => exact key 0 (fun _ _ _ _ => False) fn_false (fun m h => nomatch h)
  | succ n ih => exact key (n + 1) _ ih (fun m h => by cases h; rfl)
abbrev NC : Str := Str.ofString ".-abcdefghijklmnopqrstuvwxyz0123456789"
def nmC (c : Nat) : Bool := !(Builtin.Str.occurrences NC ⟨#[c]⟩ 0 NC.length 1).isEmpty
def nmS (z : Str) : Bool := (decide ((1 : Int) ≤ (z.length : Int)) && decide ((z.length : Int) ≤ 12)) && (!(decide (V.str z = V.str ".") || decide (V.str z = V.str "..")) && z.cps.toList.all nmC)
theorem bnot_t {b : Bool} (h : (!b) = true) : b = false := by
  cases b with
  | false => rfl
  | true => cases h
theorem bnot_f {b : Bool} (h : (!b) = false) : b = true := by
  cases b with
  | true => rfl
  | false => cases h
theorem nmS_len {z : Str} (h : nmS z = true) : z.length ≤ 12 := by
  obtain ⟨h1, _⟩ := Bool.and_eq_true_iff.mp h
  obtain ⟨_, h2⟩ := Bool.and_eq_true_iff.mp h1
  have := of_decide_eq_true h2
  omega
theorem nmC_eq (c : Nat) : nmC c = decide (c ∈ NC.cps.toList) := StrLaws.found_one NC c
abbrev T24 : Int := (10 : Int) ^ (24 : Int).toNat
def DrW (ds : List Int) : Prop := ∀ d ∈ ds, 0 ≤ d ∧ d < T24
theorem DrW.app {ds : List Int} {d : Int} (h : DrW ds) (h0 : 0 ≤ d) (h1 : d < T24) : DrW (ds ++ [d]) := fun e he => by
  rcases List.mem_append.mp he with he | he
  · exact h e he
  · rw [List.mem_singleton.mp he]
    exact ⟨h0, h1⟩
theorem t24_pos : (0 : Int) < T24 := by decide
def DWW (H0 : Hp) (l : Addr) (m : Nat) (H' : Hp) : Prop := H0 l = none ∧ Ex H0 H' ∧ ∃ ds : List Int, H' l = some (.lst (ds.map V.int)) ∧ DrW ds ∧ ds.length ≤ m
theorem DWW.app {H0 H1 H2 : Hp} {l : Addr} {m : Nat} {ds : List Int} {d : Int} (n : H0 l = none) (e : Ex H0 H1) (D : DrW ds) (hl : ds.length ≤ m) (h0 : 0 ≤ d) (h1 : d < T24) (e2 : Ex H1 H2) : DWW H0 l (m + 1) (upd H2 l (.lst (ds.map V.int ++ [V.int d]))) :=
  ⟨n, Ex.mut (e.trans e2) n, ds ++ [d], by rw [upd_same, List.map_append]; rfl, D.app h0 h1, by rw [List.length_append, List.length_singleton]; omega⟩
theorem ev_t24 {σ : L2.St} {H : Hp} : Ev (tOp (rI CPow fun i j => V.int (i ^ j.toNat)) (tC (V.int 10)) (tC (V.int 24))) σ H (.int T24) := ev_op ev_c ev_c (rv_I ⟨by decide, by decide, by decide⟩)
def spStreamW (K : PySem.W.Frag) : Sp := fun vs H Q _ => ∃ (a : Addr) (ns : List Int) (m : Nat), vs = [.ref a, .int (m : Int)] ∧ SqL K H a (ns.map V.int) ∧ ns.length ≤ 63 ∧ m ≤ 1000 ∧
  ∀ ds : List Int, DrW ds → ds.length ≤ m + 60 → RetL (ds.map V.int) H Q
theorem ok_streamW {f : Addr} {fd : FuncData} {k : Nat} (F : Fun K "_law_stream" "_law_stream" s__law_stream f fd) (T : Glo mg) : FnOk P w K mg base CX0 (k + 1) f fd ["script", "many"] (spStreamW K) := by
  refine F.ok sc__law_stream (fun vs H Q E h => ?_) (fun cdv A outer s H vs Q E hr h => ?_)
  · obtain ⟨a, ns, m, rfl, _⟩ := h
    rfl
  · obtain ⟨a, ns, m, rfl, hS, hn, hm, q⟩ := h
    refine ⟨_, (pss_cons (ps_set (i := 2) sc__law_stream.nd rfl (.inl rfl) (pe_lst pa_nil))
  (pss_cons (ps_for PassesOwn.never rfl (pi_list (pv 0)) (pg_name (i := 3) sc__law_stream.nd rfl (.inl rfl))
  (pss_cons (ps_if (pt_cmpR op_ge (pe_callB call_len_seq (by rfl) T.len PySem.boot_len (pa_cons (pv 2) pa_nil)) (pv 1) (nomark _))
  (pss_one ps_break)
  pss_nil)
  (pss_one (ps_if (pt_cmpR op_ge (pv 3) (pe_op op_pow pe_int pe_int) (nomark _))
  (pss_cons (ps_set (i := 4) sc__law_stream.nd rfl (.inl rfl) (pv 3))
  (pss_one (ps_for PassesOwn.never rfl (pi_range1 (by rfl) T.range (pa_cons pe_int pa_nil)) (pg_name (i := 5) sc__law_stream.nd rfl (.inl rfl))
  (pss_one (ps_if (pt_cmpR op_gt (pv 4) pe_int (nomark _))
  (pss_cons (ps_expr (pe_bm PySem.F.plainAttrs_list PySem.F.slot_list_append PySem.F.type_list_append mt_append (pv 2) (pa_cons (pe_op op_mod (pe_callTy call_int1 (by rfl) T.int (by decide +kernel) (pa_cons (pv 4) pa_nil)) (pe_op op_pow pe_int pe_int)) pa_nil)))
  (pss_one (ps_set (i := 4) sc__law_stream.nd rfl (.inl rfl) (pe_op op_fdivW (pv 4) (pe_op op_pow pe_int pe_int)))))
  pss_nil)))))
  (pss_cons (ps_set (i := 6) sc__law_stream.nd rfl (.inl rfl) (pe_op op_mod (pe_callTy call_int1 (by rfl) T.int (by decide +kernel) (pa_cons (pe_op op_add (pe_op op_add (pe_op op_mul (pv 3) pe_int) (pe_op op_mul (pe_callB call_len_seq (by rfl) T.len PySem.boot_len (pa_cons (pv 2) pa_nil)) pe_int)) pe_int) pa_nil)) pe_int))
  (pss_one (ps_for PassesOwn.never rfl (pi_range1 (by rfl) T.range (pa_cons pe_int pa_nil)) (pg_name (i := 5) sc__law_stream.nd rfl (.inl rfl))
  (pss_cons (ps_set (i := 7) sc__law_stream.nd rfl (.inl rfl) pe_int)
  (pss_cons (ps_for PassesOwn.never rfl (pi_range1 (by rfl) T.range (pa_cons pe_int pa_nil)) (pg_name (i := 8) sc__law_stream.nd rfl (.inl rfl))
  (pss_cons (ps_set (i := 6) sc__law_stream.nd rfl (.inl rfl) (pe_op op_mod (pe_callTy call_int1 (by rfl) T.int (by decide +kernel) (pa_cons (pe_op op_add (pe_op op_add (pe_op op_add (pe_op op_mul (pv 6) pe_int) (pe_op op_mul pe_int (pv 5))) (pe_op op_mul pe_int (pv 8))) pe_int) pa_nil)) pe_int))
  (pss_one (ps_set (i := 7) sc__law_stream.nd rfl (.inl rfl) (pe_op op_add (pe_op op_mul (pv 7) pe_int) (pv 6))))))
  (pss_one (ps_expr (pe_bm PySem.F.plainAttrs_list PySem.F.slot_list_append PySem.F.type_list_append mt_append (pv 2) (pa_cons (pe_op op_mod (pe_callTy call_int1 (by rfl) T.int (by decide +kernel) (pa_cons (pe_op op_fdiv (pv 7) pe_int) pa_nil)) (pe_op op_pow pe_int pe_int)) pa_nil)))))))))))))
  (pss_one (ps_ret (pv 2))))), ?_⟩
    refine' q_asgL (xs := []) (el_lst ea_nil (by decide)) (fun l H1 nl e1 h1 => ?_)
    have hS1 : SqL K H1 a (ns.map V.int) := ex_l e1 hS
    refine' q_forLn (a := a) (xs := ns.map V.int) (ev_var rfl) hS1 (fun i σ' H' => ∃ y3 y4 y5 y6 y7 y8, σ' = [some (.ref a), some (.int (m : Int)), some (.ref l), y3, y4, y5, y6, y7, y8] ∧ DWW H l (m + 60) H') (fun H2 e2 => ?_) (fun i σ' H' _ p => ?_) (fun i x σ' H' hx p => ?_) (fun σ' H' p => ?_)
    · exact ⟨none, none, none, none, none, none, rfl, nl, e1.trans e2, [], e2 l _ h1, (fun _ h => nomatch h), Nat.zero_le _⟩
    · obtain ⟨_, _, _, _, _, _, _, _, e, _⟩ := p
      exact ex_l e hS
    · obtain ⟨y3, y4, y5, y6, y7, y8, rfl, n, e, ds, hd, D, hl⟩ := p
      obtain ⟨c, rfl⟩ : ∃ c, x = V.int c := by
        rw [List.getElem?_map] at hx
        cases h : ns[i]? with
        | none => rw [h] at hx; cases hx
        | some c => rw [h] at hx; exact ⟨c, (Option.some.inj hx).symm⟩
      have hL : SqL K H' l (ds.map V.int) := sq_of hd
      refine' q_when ?c (fun hb H2 e2 => ?_) (fun hb H2 e2 => ?_)
      case c => walk_at "ev"
      · -- break
        refine s_ret (ev_var rfl) fun H3 e3 => ?_
        exact q ds D hl l H3 n ((e.trans e2).trans e3) (e3 l _ (e2 l _ hd))
      · have hb := of_decide_eq_false hb
        rw [List.length_map] at hb
        have hlt : ds.length < m := by omega
        have hd2 := e2 l _ hd
        have E2 := e.trans e2
        refine' s_if ?c (fun hc H3 e3 => ?_) (fun hc H3 e3 => ?_)
        case c => walk_at "ev"
        · -- a great one
          refine' q_asg (ev_var rfl) (fun H4 e4 => ?_)
          refine' s_forR1 (n := 60) (ea_cons ev_c ea_nil) (by decide) (fun i σ' H' => ∃ (r : Int) (y5 : Option V), σ' = [some (.ref a), some (.int (m : Int)), some (.ref l), some (.int c), some (.int r), y5, y6, y7, y8] ∧ DWW H l (m + i) H') (fun H5 e5 => ⟨c, _, rfl, n, ((E2.trans e3).trans e4).trans e5, ds, e5 l _ (e4 l _ (e3 l _ hd2)), D, by omega⟩) (fun i σ' H' hi p => ?_) (fun σ' H' p => ?_)
          · obtain ⟨r, z5, rfl, n', e', ds', hd', D', hl'⟩ := p
            have hL' : SqL K H' l (ds'.map V.int) := sq_of hd'
            refine' s_when ?c (fun hb H6 e6 => ?_) (fun hb H6 e6 => ?_)
            case c => walk_at "ev"
            · refine' q_app (l := l) (xs := ds'.map V.int) (v := .int (r % T24)) (e6 l _ hd') (ev_var rfl) ?c (by rw [List.length_map]; omega) (fun H7 e7 => ?_)
              case c => exact ev_op (ev_cb (ea_cons (ev_var rfl) ea_nil) rc_int) ev_t24 (rv_I t24_pos)
              refine' s_asg (v := .int (r / T24)) ?c (fun H8 e8 => ?_)
              case c => exact ev_op (ev_var rfl) ev_t24 (rv_I (wide_div (b := 80) t24_pos (by decide) (by decide) (by decide)))
              obtain ⟨_, k2, k3⟩ := DWW.app n' (e'.trans e6) D' hl' (Int.emod_nonneg r (Int.ne_of_gt t24_pos)) (Int.emod_lt_of_pos r t24_pos) e7
              obtain ⟨ds8, k4, k5, k6⟩ := k3
              exact ⟨r / T24, _, rfl, n', k2.trans e8, ds8, e8 l _ k4, k5, k6⟩
            · exact ⟨r, _, rfl, n', e'.trans e6, ds', e6 l _ hd', D', by omega⟩
          · obtain ⟨r, z5, rfl, w⟩ := p
            exact ⟨_, _, _, _, _, _, rfl, w⟩
        · -- a plain one
          refine' q_asg ?c (fun H4 e4 => ?_)
          case c =>
            have hL3 : SqL K H3 l (ds.map V.int) := sq_of (e3 l _ hd2)
            refine' ev_op (ev_cb (ea_cons (ev_op (ev_op (ev_op (ev_var rfl) ev_c (rv_I (.inr (by decide)))) (ev_op (ev_cb (ea_cons (ev_var rfl) ea_nil) (rc_len hL3)) ev_c (rv_I (.inr (by decide)))) rv_I0) ev_c rv_I0) ea_nil) rc_int) ev_c (rv_I (by decide))
          refine' s_forR1 (n := 4) (ea_cons ev_c ea_nil) (by decide) (fun i σ' H' => ∃ (r : Int) (y5 y7 y8 : Option V), σ' = [some (.ref a), some (.int (m : Int)), some (.ref l), some (.int c), y4, y5, some (.int r), y7, y8] ∧ DWW H l (m + i) H') (fun H5 e5 => ⟨_, _, _, _, rfl, n, ((E2.trans e3).trans e4).trans e5, ds, e5 l _ (e4 l _ (e3 l _ hd2)), D, by omega⟩) (fun i σ' H' hi p => ?_) (fun σ' H' p => ?_)
          · obtain ⟨r, z5, z7, z8, rfl, n', e', ds', hd', D', hl'⟩ := p
            refine' q_asg ev_c (fun H6 e6 => ?_)
            refine' q_forR1 (n := 3) (ea_cons ev_c ea_nil) (by decide) (fun j σ' H' => ∃ (r g : Int) (y8 : Option V), σ' = [some (.ref a), some (.int (m : Int)), some (.ref l), some (.int c), y4, some (.int ((i : Nat) : Int)), some (.int r), some (.int g), y8] ∧ Ex H6 H') (fun H7 e7 => ⟨_, _, _, rfl, e7⟩) (fun j σ' H' hj p => ?_) (fun σ' H7 p => ?_)
            · obtain ⟨r, g, y8, rfl, ee⟩ := p
              refine' q_asg ?c (fun H8 e8 => ?_)
              case c =>
                refine' ev_op (ev_cb (ea_cons (ev_op (ev_op (ev_op (ev_op (ev_var rfl) ev_c (rv_I (.inr (by decide)))) (ev_op ev_c (ev_var rfl) (rv_I (.inl (by decide)))) rv_I0) (ev_op ev_c (ev_var rfl) (rv_I (.inl (by decide)))) rv_I0) ev_c rv_I0) ea_nil) rc_int) ev_c (rv_I (by decide))
              refine' s_asg ?c (fun H9 e9 => ?_)
              case c => exact ev_op (ev_op (ev_var rfl) ev_c (rv_I (.inr (by decide)))) (ev_var rfl) rv_I0
              exact ⟨_, _, _, rfl, ee.trans (e8.trans e9)⟩
            · obtain ⟨r, g, y8, rfl, ee⟩ := p
              have ee := e6.trans ee
              refine s_app (l := l) (xs := ds'.map V.int) (ee l _ hd') (ev_var rfl) (ev_op (ev_cb (ea_cons (ev_op (ev_var rfl) ev_c (rv_I ⟨by decide, by decide⟩)) ea_nil) rc_int) ev_t24 (rv_I t24_pos)) (by rw [List.length_map]; omega) (fun H8 e8 => ?_)
              exact ⟨_, _, _, _, rfl, DWW.app n' (e'.trans ee) D' hl' (Int.emod_nonneg _ (Int.ne_of_gt t24_pos)) (Int.emod_lt_of_pos _ t24_pos) e8⟩
          · obtain ⟨r, z5, z7, z8, rfl, n', e', ds', hd', D', hl'⟩ := p
            exact ⟨_, _, _, _, _, _, rfl, n', e', ds', hd', D', by have : (4 : Int).toNat = 4 := rfl; omega⟩
    · obtain ⟨y3, y4, y5, y6, y7, y8, rfl, n, e, ds, hd, D, hl⟩ := p
      refine s_ret (ev_var rfl) fun H3 e3 => ?_
      exact q ds D hl l H3 n (e.trans e3) (e3 l _ hd)
theorem ok_draw {f : Addr} {fd : FuncData} {k : Nat} (F : Fun K "_law_draw" "_law_draw" s__law_draw f fd) (T : Glo mg) : FnOk P w K mg base CX0 (k + 1) f fd ["draws", "k"] (spDraw K) := by
  refine F.ok sc__law_draw (fun vs H Q E h => ?_) (fun cdv A outer s H vs Q E hr h => ?_)
  · obtain ⟨a, ds, k, rfl, _⟩ := h
    rfl
  · obtain ⟨a, ds, k, rfl, hS, q⟩ := h
    refine ⟨_, (pss_cons (ps_if (pt_cmpR op_lt (pv 1) (pe_callB call_len_seq (by rfl) T.len PySem.boot_len (pa_cons (pv 0) pa_nil)) (nomark _))
  (pss_one (ps_ret (pe_ix ix_list (pv 0) (pv 1) (fun _ _ => rfl))))
  pss_nil)
  (pss_one (ps_ret pe_int))), ?_⟩
    refine' q_when ?c (fun hb H1 e1 => ?_) (fun hb H1 e1 => ?_)
    case c => walk_at "ev"
    · have hb := of_decide_eq_true hb
      rw [List.length_map] at hb
      have hk : k < ds.length := by omega
      refine s_ret (v := .int (drw ds k)) (ev_op (ev_var rfl) (ev_var rfl) (rv_ixL (ex_l e1 hS) ?_)) fun H2 e2 => q _ (e1.trans e2)
      have e0 : (ds.map V.int)[k]? = some (.int (drw ds k)) := by
        rw [List.getElem?_map, List.getElem?_eq_getElem hk]
        unfold drw
        rw [List.getD_eq_getElem?_getD, List.getElem?_eq_getElem hk]
        rfl
      exact atI_nat e0
    · have hb := of_decide_eq_false hb
      rw [List.length_map] at hb
      refine s_ret ev_c fun H2 e2 => ?_
      have e0 : drw ds k = 0 := by
        unfold drw
        rw [List.getD_eq_getElem?_getD, List.getElem?_eq_none (by omega)]
        rfl
      rw [← e0]
      exact q _ (e1.trans e2)
abbrev SG : Str := Str.ofString "abcdefghijklmnopqrstuvwxyz0123456789-."
theorem SG_ok : ∀ c ∈ SG.cps.toList, c ∈ NC.cps.toList := by decide +kernel
theorem SG_len : SG.cps.toList.length = 38 := by decide +kernel
def sgn (i : Int) : Nat := SG.cps.toList.getD i.toNat 0
theorem sg_at {i : Int} (h0 : 0 ≤ i) (h1 : i < 38) : atI SG.cps.toList i = some (sgn i) ∧ nmC (sgn i) = true := by
  have hl : i.toNat < SG.cps.toList.length := by rw [SG_len]; omega
  have hg : sgn i = SG.cps.toList[i.toNat] := by
    unfold sgn
    rw [List.getD_eq_getElem?_getD, List.getElem?_eq_getElem hl]
    rfl
  have t := atI_nat (List.getElem?_eq_getElem hl)
  rw [Int.toNat_of_nonneg h0, ← hg] at t
  refine ⟨t, ?_⟩
  rw [nmC_eq, hg]
  exact decide_eq_true (SG_ok _ (List.getElem_mem hl))
/-- signs of names only, at most 12 -/
def pc (z : Str) : Prop := z.length ≤ 12 ∧ z.cps.toList.all nmC = true
def goodS (z : Str) : Str := if z = "" ∨ z = "." ∨ z = ".." then z ++ "a" else z
theorem ne_nil {z : Str} (h : z ≠ "") : 1 ≤ z.length := by
  refine Nat.pos_of_ne_zero fun h0 => h ?_
  have : z.cps.size = 0 := h0
  have e : z.cps = #[] := Array.eq_empty_of_size_eq_zero this
  cases z
  cases e
  rfl
theorem good_nm {z : Str} (h : pc z) : nmS (goodS z) = true := by
  unfold goodS
  by_cases h1 : z = ""
  · rw [if_pos (.inl h1), h1]
    decide +kernel
  · by_cases h2 : z = "."
    · rw [if_pos (.inr (.inl h2)), h2]
      decide +kernel
    · by_cases h3 : z = ".."
      · rw [if_pos (.inr (.inr h3)), h3]
        decide +kernel
      · rw [if_neg (fun h => h.elim h1 (fun h => h.elim h2 h3))]
        have := ne_nil h1
        have hl := h.1
        unfold nmS
        rw [h.2, decide_eq_true (by omega), decide_eq_true (by omega), decide_eq_false (fun e => h2 (V.str.inj e)), decide_eq_false (fun e => h3 (V.str.inj e))]
        rfl
def spGood : Sp := fun vs H Q _ => ∃ z : Str, vs = [.str z] ∧ z.length ≤ 1000 ∧ RetV (.str (goodS z)) H Q
theorem spGood_v {H : Hp} {z : Str} (h : z.length ≤ 1000) : SpV spGood [.str z] H (.str (goodS z)) := fun H1 _ Q q _ => ⟨z, rfl, h, fun H2 e2 => q H2 e2⟩
theorem ok_good {f : Addr} {fd : FuncData} {k : Nat} (F : Fun K "_law_good" "_law_good" s__law_good f fd) (T : Glo mg) : FnOk P w K mg base CX0 (k + 1) f fd ["name"] spGood := by
  refine F.ok sc__law_good (fun vs H Q E h => ?_) (fun cdv A outer s H vs Q E hr h => ?_)
  · obtain ⟨a, rfl, _⟩ := h
    rfl
  · obtain ⟨z, rfl, hz, q⟩ := h
    refine ⟨_, (pss_cons (ps_if (PW.pt (pw_or (pt_cmpR op_eq (pv 0) pe_str (nomark _)) (pw_or (pt_cmpR op_eq (pv 0) pe_str (nomark _)) (pw_or1 (pt_cmpR op_eq (pv 0) pe_str (nomark _))))))
  (pss_one (ps_ret (pe_op op_add_str (pv 0) pe_str)))
  pss_nil)
  (pss_one (ps_ret (pv 0)))), ?_⟩
    have h1 : (Str.ofString "a").length = 1 := by decide +kernel
    have hsz : z.length + (Str.ofString "a").length ≤ 100000 := by omega
    refine q_when (b := decide (V.str z = V.str "") || (decide (V.str z = V.str ".") || decide (V.str z = V.str ".."))) (et_or (et_test (ev_op (ev_var rfl) ev_c (rv_eq rfl))) (fun _ => et_or (et_test (ev_op (ev_var rfl) ev_c (rv_eq rfl))) (fun _ => et_test (ev_op (ev_var rfl) ev_c (rv_eq rfl))))) (fun hb H1 e1 => ?_) (fun hb H1 e1 => ?_)
    · have hg : goodS z = z ++ "a" := by
        unfold goodS
        rw [if_pos]
        rcases Bool.or_eq_true_iff.mp hb with h | h
        · exact .inl (V.str.inj (of_decide_eq_true h))
        · rcases Bool.or_eq_true_iff.mp h with h | h
          · exact .inr (.inl (V.str.inj (of_decide_eq_true h)))
          · exact .inr (.inr (V.str.inj (of_decide_eq_true h)))
      rw [hg] at q
      exact s_ret (ev_op (y := .str "a") (ev_var rfl) ev_c (fun H2 e2 Q2 k2 => ⟨_, _, rfl, rfl, sz_of hsz, k2 H2 (Ex.refl H2)⟩)) (fun H2 e2 => q H2 (e1.trans e2))
    · have hg : goodS z = z := by
        unfold goodS
        rw [if_neg]
        obtain ⟨h1, h2⟩ := Bool.or_eq_false_iff.mp hb
        obtain ⟨h2, h3⟩ := Bool.or_eq_false_iff.mp h2
        exact fun h => h.elim (fun h => of_decide_eq_false h1 (by rw [h])) (fun h => h.elim (fun h => of_decide_eq_false h2 (by rw [h])) (fun h => of_decide_eq_false h3 (by rw [h])))
      rw [hg] at q
      exact s_ret (ev_var rfl) (fun H2 e2 => q H2 (e1.trans e2))
theorem pc_one {z : Str} {c : Nat} (h : z.cps.toList.all nmC = true) (hc : nmC c = true) : (z ++ (⟨#[c]⟩ : Str)).cps.toList.all nmC = true := by
  show (z.cps ++ #[c]).toList.all nmC = true
  rw [Array.toList_append, List.all_append, h]
  show (true && ((nmC c && true))) = true
  rw [hc]
  rfl
def nmF : Nat → Str → Int → Str
  | 0, z, _ => z
  | n + 1, z, r => nmF n (z ++ (⟨#[sgn (r % 38)]⟩ : Str)) (r / 38)
def nameS (d : Int) : Str := goodS (nmF (1 + d % 12).toNat "" (d / 12))
theorem sgn_ok (r : Int) : nmC (sgn (r % 38)) = true := (sg_at (Int.emod_nonneg r (show (38 : Int) ≠ 0 by decide)) (Int.emod_lt_of_pos r (show (0 : Int) < 38 by decide))).2
theorem nmF_len : ∀ (n : Nat) (z : Str) (r : Int), (nmF n z r).length = z.length + n
  | 0, _, _ => rfl
  | n + 1, z, r => by
    show (nmF n _ _).length = _
    rw [nmF_len n, Str.length_append]
    show z.length + 1 + n = _
    omega
theorem nmF_all : ∀ (n : Nat) (z : Str) (r : Int), z.cps.toList.all nmC = true → (nmF n z r).cps.toList.all nmC = true
  | 0, _, _, h => h
  | n + 1, z, r, h => nmF_all n _ _ (pc_one h (sgn_ok r))
theorem nmF_pc (d : Int) : pc (nmF (1 + d % 12).toNat "" (d / 12)) := by
  have m0 : 0 ≤ d % 12 := Int.emod_nonneg d (by decide)
  have m1 : d % 12 < 12 := Int.emod_lt_of_pos d (by decide)
  refine ⟨?_, nmF_all _ _ _ rfl⟩
  rw [nmF_len]
  show 0 + _ ≤ _
  omega
theorem name_nm (d : Int) : nmS (nameS d) = true := good_nm (nmF_pc d)
def spName : Sp := fun vs H Q _ => ∃ d : Int, vs = [.int d] ∧ RetV (.str (nameS d)) H Q
theorem spName_v {H : Hp} {d : Int} : SpV spName [.int d] H (.str (nameS d)) := fun H1 _ Q q _ => ⟨d, rfl, fun H2 e2 => q H2 e2⟩
theorem ok_name {f f_g : Addr} {fd fd_g : FuncData} (F : Fun K "_law_name" "_law_name" s__law_name f fd) (D__law_good : Df K mg "_law_good" s__law_good ["name"] f_g fd_g) (G__law_good : FnOk P w K mg base CX0 1 f_g fd_g ["name"] spGood) (T : Glo mg) : FnOk P w K mg base CX0 2 f fd ["draw"] spName := by
  refine F.ok sc__law_name (fun vs H Q E h => ?_) (fun cdv A outer s H vs Q E hr h => ?_)
  · obtain ⟨a, rfl, _⟩ := h
    rfl
  · obtain ⟨d, rfl, q⟩ := h
    refine ⟨_, (pss_cons (ps_set (i := 1) sc__law_name.nd rfl (.inl rfl) pe_str)
  (pss_cons (ps_set (i := 2) sc__law_name.nd rfl (.inl rfl) pe_str)
  (pss_cons (ps_set (i := 3) sc__law_name.nd rfl (.inl rfl) (pe_op op_fdiv (pv 0) pe_int))
  (pss_cons (ps_for PassesOwn.never rfl (pi_range1 (by rfl) T.range (pa_cons (pe_op op_add pe_int (pe_op op_mod (pe_callTy call_int1 (by rfl) T.int (by decide +kernel) (pa_cons (pv 0) pa_nil)) pe_int)) pa_nil)) (pg_name (i := 4) sc__law_name.nd rfl (.inl rfl))
  (pss_cons (ps_set (i := 2) sc__law_name.nd rfl (.inl rfl) (pe_op op_add_str (pv 2) (pe_ix ix_str (pv 1) (pe_op op_mod (pe_callTy call_int1 (by rfl) T.int (by decide +kernel) (pa_cons (pv 3) pa_nil)) pe_int) (fun _ _ => rfl))))
  (pss_one (ps_set (i := 3) sc__law_name.nd rfl (.inl rfl) (pe_op op_fdiv (pv 3) pe_int)))))
  (pss_one (ps_ret (pe_call G__law_good (hr.mono (by decide)) (by rfl) D__law_good.g D__law_good.F.kp D__law_good.b .nil pass0 (pa_cons (pv 2) pa_nil)))))))), ?_⟩
    refine q_asg ev_c fun H1 e1 => q_asg ev_c fun H2 e2 => ?_
    refine q_asg (ev_op (ev_var rfl) ev_c (rv_I ⟨by decide, by decide⟩)) fun H3 e3 => ?_
    have m0 : 0 ≤ d % 12 := Int.emod_nonneg d (by decide)
    have m1 : d % 12 < 12 := Int.emod_lt_of_pos d (by decide)
    refine q_forR1 (n := 1 + d % 12) (ea_cons (ev_op ev_c (ev_op (ev_cb (ea_cons (ev_var rfl) ea_nil) rc_int) ev_c (rv_I (by decide))) rv_I0) ea_nil) ⟨by omega, by omega⟩ (fun i σ' H' => ∃ (z : Str) (r : Int) (y : Option V), σ' = [some (.int d), some (.str SG), some (.str z), some (.int r), y] ∧ z.length = i ∧ nmF ((1 + d % 12).toNat - i) z r = nmF (1 + d % 12).toNat "" (d / 12) ∧ Ex H3 H') (fun H4 e4 => ⟨"", _, _, rfl, rfl, rfl, e4⟩) (fun i σ' H' hi p => ?_) (fun σ' H' p => ?_)
    · obtain ⟨z, r, y, rfl, hl, ha, e⟩ := p
      obtain ⟨hc, hn⟩ := sg_at (Int.emod_nonneg r (show (38 : Int) ≠ 0 by decide)) (Int.emod_lt_of_pos r (show (0 : Int) < 38 by decide))
      have hlen : (z ++ (⟨#[sgn (r % 38)]⟩ : Str)).length = i + 1 := by
        rw [Str.length_append, hl]
        rfl
      refine q_asg (v := .str (z ++ (⟨#[sgn (r % 38)]⟩ : Str))) (ev_op (y := .str ⟨#[sgn (r % 38)]⟩) (ev_var rfl) (ev_op (ev_var rfl) (ev_op (ev_cb (ea_cons (ev_var rfl) ea_nil) rc_int) ev_c (rv_I (by decide))) (rv_ixS (w := SG) (by decide +kernel) hc)) (fun H2 e2 Q2 k2 => ⟨_, _, rfl, rfl, sz_of (by rw [← Str.length_append, hlen]; omega), k2 H2 (Ex.refl H2)⟩)) fun H5 e5 => ?_
      refine s_asg (ev_op (ev_var rfl) ev_c (rv_I ⟨by decide, by decide⟩)) fun H6 e6 => ?_
      refine ⟨_, _, _, rfl, hlen, ?_, e.trans (e5.trans e6)⟩
      rw [← ha, show (1 + d % 12).toNat - i = ((1 + d % 12).toNat - (i + 1)) + 1 by omega]
      rfl
    · obtain ⟨z, r, y, rfl, hl, ha, e⟩ := p
      rw [Nat.sub_self] at ha
      have ha : z = nmF (1 + d % 12).toNat "" (d / 12) := ha
      subst ha
      have hp := (nmF_pc d).1
      exact s_ret (ev_call (ea_cons (ev_var rfl) ea_nil) (spGood_v (by omega))) (fun H7 e7 => q H7 ((e1.trans (e2.trans e3)).trans (e.trans e7)))
theorem ev_slS {σ : L2.St} {H : Hp} {te : TE} {z : Str} {tl th : TO} {lo hi : Option Int} (h : Ev te σ H (.str z)) (h1 : EvO tl σ H lo) (h2 : EvO th σ H hi) (hl : z.length ≤ 100000) : Ev (tSl rSlS te tl th) σ H (.str (cutS z lo hi)) := fun H1 e _ q =>
  h H1 e _ fun H2 e2 => h1 H2 (e.trans e2) _ fun H3 e3 => h2 H3 ((e.trans e2).trans e3) _ fun H4 e4 => ⟨z, rfl, sz_of hl, q H4 (e2.trans (e3.trans e4))⟩
theorem rv_addS {x y : Str} {H : Hp} (h : x.length + y.length ≤ 100000) : RV (fun x y H Q => ∃ i j, x = V.str i ∧ y = V.str j ∧ i.length + j.length ≤ sizeLine ∧ Q (V.str (i ++ j)) H) (.str x) (.str y) H (.str (x ++ y)) := fun H1 _ _ q => ⟨_, _, rfl, rfl, sz_of h, q H1 (Ex.refl H1)⟩
theorem cut_to (z : Str) (n : Nat) : (cutS z none (some (n : Int))).cps.toList = z.cps.toList.take n := by
  have hl : z.length = z.cps.toList.length := Array.length_toList.symm
  unfold cutS
  rw [HT.sIx_none, HT.sIx_nat]
  show (z.cps.toList.drop 0).take (min n z.length - 0) = _
  rw [List.drop_zero, Nat.sub_zero, hl, ← List.take_eq_take_min]
theorem cut_from (z : Str) (n : Nat) : (cutS z (some (n : Int)) none).cps.toList = z.cps.toList.drop n := by
  have hl : z.length = z.cps.toList.length := Array.length_toList.symm
  unfold cutS
  rw [HT.sIx_none, HT.sIx_nat]
  show (z.cps.toList.drop (min n z.length)).take (z.length - min n z.length) = _
  by_cases h : n ≤ z.length
  · rw [Nat.min_eq_left h, List.take_of_length_le (by rw [List.length_drop]; omega)]
  · rw [Nat.min_eq_right (by omega), Nat.sub_self, List.take_zero, List.drop_eq_nil_of_le (by omega)]
def nearT (z : Str) (d : Int) : Str := cutS z none (some (d % (z.length : Int))) ++ (⟨#[sgn (d / 12 % 38)]⟩ : Str) ++ cutS z (some (d % (z.length : Int) + 1)) none
def nearS (z : Str) (d : Int) : Str := goodS (nearT z d)
theorem nm_pc {z : Str} (h : nmS z = true) : pc z ∧ 1 ≤ z.length := by
  obtain ⟨h1, h2⟩ := Bool.and_eq_true_iff.mp h
  obtain ⟨h1, h3⟩ := Bool.and_eq_true_iff.mp h1
  obtain ⟨_, h4⟩ := Bool.and_eq_true_iff.mp h2
  have h1 := of_decide_eq_true h1
  have h3 := of_decide_eq_true h3
  exact ⟨⟨by omega, h4⟩, by omega⟩
theorem near_pc {z : Str} (d : Int) (h : nmS z = true) : pc (nearT z d) := by
  obtain ⟨⟨h1, h2⟩, h3⟩ := nm_pc h
  have m0 : 0 ≤ d % (z.length : Int) := Int.emod_nonneg d (by omega)
  have m1 : d % (z.length : Int) < z.length := Int.emod_lt_of_pos d (by omega)
  obtain ⟨k, hk⟩ : ∃ k : Nat, d % (z.length : Int) = (k : Int) := ⟨_, (Int.toNat_of_nonneg m0).symm⟩
  have hl : z.length = z.cps.toList.length := Array.length_toList.symm
  have e : (nearT z d).cps.toList = (z.cps.toList.take k ++ [sgn (d / 12 % 38)]) ++ z.cps.toList.drop (k + 1) := by
    unfold nearT
    rw [hk]
    show (((cutS z none (some (k : Int))).cps ++ #[sgn (d / 12 % 38)]) ++ (cutS z (some ((k + 1 : Nat) : Int)) none).cps).toList = _
    rw [Array.toList_append, Array.toList_append, cut_to, cut_from]
  refine ⟨?_, ?_⟩
  · rw [show (nearT z d).length = (nearT z d).cps.toList.length from Array.length_toList.symm, e, List.length_append, List.length_append, List.length_take, List.length_drop, List.length_singleton]
    omega
  · rw [e, List.all_append, List.all_append]
    have t1 : (z.cps.toList.take k).all nmC = true := List.all_eq_true.mpr fun c hc => List.all_eq_true.mp h2 c (List.mem_of_mem_take hc)
    have t2 : (z.cps.toList.drop (k + 1)).all nmC = true := List.all_eq_true.mpr fun c hc => List.all_eq_true.mp h2 c (List.mem_of_mem_drop hc)
    rw [t1, t2]
    show (true && (nmC _ && true) && true) = true
    rw [sgn_ok]
    rfl
theorem near_nm {z : Str} (d : Int) (h : nmS z = true) : nmS (nearS z d) = true := good_nm (near_pc d h)
def spNear : Sp := fun vs H Q _ => ∃ (z : Str) (d : Int), vs = [.str z, .int d] ∧ nmS z = true ∧ RetV (.str (nearS z d)) H Q
theorem spNear_v {H : Hp} {z : Str} {d : Int} (h : nmS z = true) : SpV spNear [.str z, .int d] H (.str (nearS z d)) := fun H1 _ Q q _ => ⟨z, d, rfl, h, fun H2 e2 => q H2 e2⟩
theorem ok_near {f f_g : Addr} {fd fd_g : FuncData} (F : Fun K "_law_near" "_law_near" s__law_near f fd) (D__law_good : Df K mg "_law_good" s__law_good ["name"] f_g fd_g) (G__law_good : FnOk P w K mg base CX0 1 f_g fd_g ["name"] spGood) (T : Glo mg) : FnOk P w K mg base CX0 2 f fd ["name", "draw"] spNear := by
  refine F.ok sc__law_near (fun vs H Q E h => ?_) (fun cdv A outer s H vs Q E hr h => ?_)
  · obtain ⟨a, b, rfl, _⟩ := h
    rfl
  · obtain ⟨z, d, rfl, hz, q⟩ := h
    refine ⟨_, (pss_cons (ps_set (i := 2) sc__law_near.nd rfl (.inl rfl) pe_str)
  (pss_cons (ps_set (i := 3) sc__law_near.nd rfl (.inl rfl) (pe_op op_mod (pe_callTy call_int1 (by rfl) T.int (by decide +kernel) (pa_cons (pv 1) pa_nil)) (pe_callB call_len_str (by rfl) T.len PySem.boot_len (pa_cons (pv 0) pa_nil))))
  (pss_cons (ps_set (i := 4) sc__law_near.nd rfl (.inl rfl) (pe_ix ix_str (pv 2) (pe_op op_mod (pe_callTy call_int1 (by rfl) T.int (by decide +kernel) (pa_cons (pe_op op_fdiv (pv 1) pe_int) pa_nil)) pe_int) (fun _ _ => rfl)))
  (pss_one (ps_ret (pe_call G__law_good (hr.mono (by decide)) (by rfl) D__law_good.g D__law_good.F.kp D__law_good.b .nil pass0 (pa_cons (pe_op op_add_str (pe_op op_add_str (pe_slice sl_str (pv 0) po_none (po_some (pv 3))) (pv 4)) (pe_slice sl_str (pv 0) (po_some (pe_op op_add (pv 3) pe_int)) po_none)) pa_nil))))))), ?_⟩
    obtain ⟨⟨h1, h2⟩, h3⟩ := nm_pc hz
    have hp := (near_pc d hz).1
    have c1 := cutS_length z none (some (d % (z.length : Int)))
    have c2 := cutS_length z (some (d % (z.length : Int) + 1)) none
    refine q_asg ev_c fun H1 e1 => ?_
    refine q_asg (ev_op (ev_cb (ea_cons (ev_var rfl) ea_nil) rc_int) (ev_cb (ea_cons (ev_var rfl) ea_nil) (rc_lenS (by omega))) (rv_I (by show (0 : Int) < (z.length : Int); omega))) fun H2 e2 => ?_
    refine q_asg (ev_op (ev_var rfl) (ev_op (ev_cb (ea_cons (ev_op (ev_var rfl) ev_c (rv_I ⟨by decide, by decide⟩)) ea_nil) rc_int) ev_c (rv_I (by decide))) (rv_ixS (w := SG) (by decide +kernel) (sg_at (i := d / 12 % 38) (Int.emod_nonneg _ (show (38 : Int) ≠ 0 by decide)) (Int.emod_lt_of_pos _ (show (0 : Int) < 38 by decide))).1)) fun H3 e3 => ?_
    refine s_ret (ev_call (vs := [.str (nearT z d)]) (ea_cons (ev_op (ev_op (ev_slS (ev_var rfl) eo_none (eo_some (ev_var rfl)) (by omega)) (ev_var rfl) (rv_addS ?_)) (ev_slS (ev_var rfl) (eo_some (ev_op (ev_var rfl) ev_c rv_I0)) eo_none (by omega)) (rv_addS ?_)) ea_nil) (spGood_v (by omega))) (fun H7 e7 => q H7 ((e1.trans (e2.trans e3)).trans e7))
    · show _ + 1 ≤ _
      omega
    · rw [Str.length_append]
      show _ + 1 + _ ≤ _
      omega
def nmAt (ds : List Int) (k j : Nat) : Str := if j = 0 then nameS (drw ds k) else if drw ds (k + j) % 2 = 1 then nearS (nameS (drw ds k)) (drw ds (k + j) / 2) else nameS (drw ds (k + j) / 2)
def namesS (ds : List Int) (k : Nat) : List Str := (List.range 6).map (nmAt ds k)
theorem nmAt_nm (ds : List Int) (k j : Nat) : nmS (nmAt ds k j) = true := by
  unfold nmAt
  split
  · exact name_nm _
  · split
    · exact near_nm _ (name_nm _)
    · exact name_nm _
theorem namesS_ok (ds : List Int) (k : Nat) : (namesS ds k).length = 6 ∧ ∀ z ∈ namesS ds k, nmS z = true := by
  refine ⟨by unfold namesS; rw [List.length_map, List.length_range], fun z hz => ?_⟩
  obtain ⟨j, _, rfl⟩ := List.mem_map.mp hz
  exact nmAt_nm ds k j
def spNames (K : PySem.W.Frag) : Sp := fun vs H Q _ => ∃ (a : Addr) (ds : List Int) (k : Nat), vs = [.ref a, .int (k : Int)] ∧ SqL K H a (ds.map V.int) ∧ RetL ((namesS ds k).map V.str) H Q
theorem ok_names {f f_n f_r f_d : Addr} {fd fd_n fd_r fd_d : FuncData} (F : Fun K "_law_names" "_law_names" s__law_names f fd) (D__law_name : Df K mg "_law_name" s__law_name ["draw"] f_n fd_n) (G__law_name : FnOk P w K mg base CX0 2 f_n fd_n ["draw"] spName) (D__law_near : Df K mg "_law_near" s__law_near ["name", "draw"] f_r fd_r) (G__law_near : FnOk P w K mg base CX0 2 f_r fd_r ["name", "draw"] spNear) (D__law_draw : Df K mg "_law_draw" s__law_draw ["draws", "k"] f_d fd_d) (G__law_draw : FnOk P w K mg base CX0 1 f_d fd_d ["draws", "k"] (spDraw K)) (T : Glo mg) : FnOk P w K mg base CX0 3 f fd ["draws", "at"] (spNames K) := by
  refine F.ok sc__law_names (fun vs H Q E h => ?_) (fun cdv A outer s H vs Q E hr h => ?_)
  · obtain ⟨a, ds, k, rfl, _⟩ := h
    rfl
  · obtain ⟨a, ds, k, rfl, hS, q⟩ := h
    refine ⟨_, (pss_cons (ps_set (i := 2) sc__law_names.nd rfl (.inl rfl) (pe_lst (pa_cons (pe_call G__law_name (hr.mono (by decide)) (by rfl) D__law_name.g D__law_name.F.kp D__law_name.b .nil pass0 (pa_cons (pe_call G__law_draw (hr.mono (by decide)) (by rfl) D__law_draw.g D__law_draw.F.kp D__law_draw.b .nil pass0 (pa_cons (pv 0) (pa_cons (pv 1) pa_nil))) pa_nil)) pa_nil)))
  (pss_cons (ps_for PassesOwn.never rfl (pi_range2 (by rfl) T.range (pa_cons pe_int (pa_cons pe_int pa_nil))) (pg_name (i := 3) sc__law_names.nd rfl (.inl rfl))
  (pss_cons (ps_set (i := 4) sc__law_names.nd rfl (.inl rfl) (pe_call G__law_draw (hr.mono (by decide)) (by rfl) D__law_draw.g D__law_draw.F.kp D__law_draw.b .nil pass0 (pa_cons (pv 0) (pa_cons (pe_op op_add (pv 1) (pv 3)) pa_nil))))
  (pss_one (ps_if (pt_cmpR op_eq (pe_op op_mod (pe_callTy call_int1 (by rfl) T.int (by decide +kernel) (pa_cons (pv 4) pa_nil)) pe_int) pe_int (nomark _))
  (pss_one (ps_expr (pe_bm PySem.F.plainAttrs_list PySem.F.slot_list_append PySem.F.type_list_append mt_append (pv 2) (pa_cons (pe_call G__law_near (hr.mono (by decide)) (by rfl) D__law_near.g D__law_near.F.kp D__law_near.b .nil pass0 (pa_cons (pe_ix ix_list (pv 2) pe_int (fun _ _ => rfl)) (pa_cons (pe_op op_fdiv (pv 4) pe_int) pa_nil))) pa_nil))))
  (pss_one (ps_expr (pe_bm PySem.F.plainAttrs_list PySem.F.slot_list_append PySem.F.type_list_append mt_append (pv 2) (pa_cons (pe_call G__law_name (hr.mono (by decide)) (by rfl) D__law_name.g D__law_name.F.kp D__law_name.b .nil pass0 (pa_cons (pe_op op_fdiv (pv 4) pe_int) pa_nil)) pa_nil))))))))
  (pss_one (ps_ret (pv 2))))), ?_⟩
    refine q_asgL (xs := [V.str (nmAt ds k 0)]) (el_lst (ea_cons (ev_call (ea_cons (ev_call (ea_cons (ev_var rfl) (ea_cons (ev_var rfl) ea_nil)) (spDraw_v hS rfl)) ea_nil) spName_v) ea_nil) (by show 1 ≤ 100000; decide)) (fun l H1 nl e1 h1 => ?_)
    refine q_forR2 (lo := 1) (n := 6) (ea_cons ev_c (ea_cons ev_c ea_nil)) (by decide) (fun i σ' H' => ∃ y3 y4 : Option V, σ' = [some (.ref a), some (.int (k : Int)), some (.ref l), y3, y4] ∧ Ex H H' ∧ H' l = some (.lst (((List.range (i + 1)).map (nmAt ds k)).map V.str)) ∧ i ≤ 5) (fun H2 e2 => ⟨_, _, rfl, e1.trans e2, e2 l _ h1, by omega⟩) (fun i σ' H' hi p => ?_) (fun σ' H' p => ?_)
    · obtain ⟨y3, y4, rfl, e, hl, _⟩ := p
      have hi5 : i + 1 ≤ 5 := by omega
      have hlen : (((List.range (i + 1)).map (nmAt ds k)).map V.str).length = i + 1 := by rw [List.length_map, List.length_map, List.length_range]
      have hnx : ((List.range (i + 1)).map (nmAt ds k)).map V.str ++ [V.str (nmAt ds k (i + 1))] = ((List.range (i + 1 + 1)).map (nmAt ds k)).map V.str := by
        rw [List.range_succ (n := i + 1), List.map_append, List.map_append]
        rfl
      have h0 : atI (((List.range (i + 1)).map (nmAt ds k)).map V.str) 0 = some (V.str (nmAt ds k 0)) := by
        refine atI_nat (j := 0) ?_
        rw [List.getElem?_map, List.getElem?_map, List.getElem?_range (by omega)]
        rfl
      refine q_asg (v := .int (drw ds (k + (i + 1)))) (ev_call (ea_cons (ev_var rfl) (ea_cons (ev_op (ev_var rfl) (ev_var rfl) rv_I0) ea_nil)) (spDraw_v (ex_l e hS) (by show (k : Int) + (1 + (i : Int)) = ((k + (i + 1) : Nat) : Int); omega))) fun H3 e3 => ?_
      have hl3 := e3 l _ hl
      refine s_if (b := decide (V.int (drw ds (k + (i + 1)) % 2) = V.int 1)) (et_test (ev_op (ev_op (ev_cb (ea_cons (ev_var rfl) ea_nil) rc_int) ev_c (rv_I (by decide))) ev_c (rv_eq rfl))) (fun hb H4 e4 => ?_) (fun hb H4 e4 => ?_)
      · have hb := V.int.inj (of_decide_eq_true hb)
        refine s_app (l := l) (v := .str (nmAt ds k (i + 1))) (e4 l _ hl3) (ev_var rfl) ?_ (by rw [hlen]; omega) (fun H5 e5 => ⟨_, _, rfl, Ex.mut (e.trans (e3.trans (e4.trans e5))) nl, by rw [upd_same, hnx], hi5⟩)
        refine ev_is (ev_call (ea_cons (ev_op (ev_var rfl) ev_c (rv_ixL (sq_of (e4 l _ hl3)) h0)) (ea_cons (ev_op (ev_var rfl) ev_c (rv_I ⟨by decide, by decide⟩)) ea_nil)) (spNear_v (nmAt_nm ds k 0))) ?_
        show V.str _ = V.str (if i + 1 = 0 then _ else _)
        rw [if_neg (by omega), if_pos hb]
        rfl
      · have hb : ¬ drw ds (k + (i + 1)) % 2 = 1 := fun h => of_decide_eq_false hb (by rw [h])
        refine s_app (l := l) (v := .str (nmAt ds k (i + 1))) (e4 l _ hl3) (ev_var rfl) ?_ (by rw [hlen]; omega) (fun H5 e5 => ⟨_, _, rfl, Ex.mut (e.trans (e3.trans (e4.trans e5))) nl, by rw [upd_same, hnx], hi5⟩)
        refine ev_is (ev_call (ea_cons (ev_op (ev_var rfl) ev_c (rv_I ⟨by decide, by decide⟩)) ea_nil) spName_v) ?_
        show V.str _ = V.str (if i + 1 = 0 then _ else _)
        rw [if_neg (by omega), if_neg hb]
    · obtain ⟨y3, y4, rfl, e, hl, _⟩ := p
      exact s_ret (ev_var rfl) (fun H7 e7 => q l H7 nl (e.trans e7) (e7 l _ hl))
theorem q_seqJ {σ : L2.St} {H : Hp} {D : Ends} {ts tz : TS} (C : L2.St → Hp → Prop) (h : ∀ nx' : L2.St → Hp → Prop, (∀ σ1 H1, C σ1 H1 → nx' σ1 H1) → ts { D with nx := nx' } σ H) (k : ∀ σ1 H1, C σ1 H1 → tz D σ1 H1) : tSeq ts tz D σ H := h (tz D) k
theorem foldl_cat (a : Array Nat) : ∀ (m : Nat) (acc : Array Nat), ((List.replicate m a).foldl (· ++ ·) acc).toList = acc.toList ++ (List.replicate m a.toList).flatten
  | 0, acc => by simp
  | m + 1, acc => by
    rw [List.replicate_succ, List.foldl_cons, foldl_cat a m, List.replicate_succ, List.flatten_cons, Array.toList_append, List.append_assoc]
theorem mul_list (z : Str) (n : Nat) (h : 1 ≤ n) : (Txt.mul z (n : Int)).cps.toList = (List.replicate n z.cps.toList).flatten := by
  unfold Txt.mul
  rw [if_neg (by omega)]
  split
  · rename_i hc
    rcases Bool.or_eq_true_iff.mp hc with h1 | h1
    · have h1 : n = 1 := by
        have := eq_of_beq h1
        omega
      subst h1
      simp
    · have h1 : z.cps.size = 0 := eq_of_beq h1
      have h2 : z.cps.toList = [] := List.length_eq_zero_iff.mp (by rw [Array.length_toList]; exact h1)
      rw [h2]
      clear hc h1 h2 h
      induction n with
      | zero => rfl
      | succ n ih => rw [List.replicate_succ, List.flatten_cons, ← ih]; rfl
  · rw [foldl_cat]
    simp
theorem mul_ok {z : Str} {n : Nat} (hz : z.length ≤ 1000) (h0 : 1 ≤ n) (h1 : n ≤ 1000) : MulOk z (n : Int) := by
  refine ⟨?_, fun a b => ?_, fun a b => ?_⟩
  · rw [decide_eq_false (by omega), decide_eq_false (by omega)]
    rfl
  · show ¬ (((z.length : Nat) : Int) > (2 ^ 63 - 1) / (n : Int))
    have : (1000 : Int) ≤ (2 ^ 63 - 1) / (n : Int) := by
      refine (Int.le_ediv_iff_mul_le (by omega)).mpr ?_
      omega
    omega
  · show Builtin.Str.tooLong (z.length * (n : Int).toNat) = false
    unfold Builtin.Str.tooLong
    refine decide_eq_false ?_
    have h2 : z.length * (n : Int).toNat ≤ 1000 * 1000 := Nat.mul_le_mul hz (by omega)
    have h : (1000 * 1000 : Nat) ≤ sizeLine := by decide
    omega
theorem cut_list (z : Str) (n : Nat) : (cutS z none (some (n : Int))).cps.toList = z.cps.toList.take n := by
  unfold cutS
  rw [HT.sIx_none, HT.sIx_nat]
  have hl : z.length = z.cps.toList.length := Array.length_toList.symm
  show (List.take (min n z.length - 0) (List.drop 0 z.cps.toList)) = _
  rw [Nat.sub_zero, List.drop_zero, hl]
  exact List.take_eq_take_iff.mpr (by omega)
theorem all_flat {cs : List Nat} (h : allC cs = true) : ∀ n, allC (List.replicate n cs).flatten = true
  | 0 => rfl
  | n + 1 => by
    rw [List.replicate_succ, List.flatten_cons]
    exact allC_app h (all_flat h n)
theorem all_take {cs : List Nat} (h : allC cs = true) (n : Nat) : allC (cs.take n) = true := List.all_eq_true.mpr fun x hx => List.all_eq_true.mp h x (List.mem_of_mem_take hx)
theorem len_flat (cs : List Nat) : ∀ n, ((List.replicate n cs).flatten).length = n * cs.length
  | 0 => by simp
  | n + 1 => by
    rw [List.replicate_succ, List.flatten_cons, List.length_append, len_flat cs n, Nat.add_mul, Nat.one_mul, Nat.add_comm]
theorem tx_add {z : Str} {c : Nat} (h : allC z.cps.toList = true) (hc : chOk c = true) : allC (z ++ (⟨#[c]⟩ : Str)).cps.toList = true := by
  rw [show (z ++ (⟨#[c]⟩ : Str)).cps.toList = z.cps.toList ++ [c] from Array.toList_append]
  exact allC_app h (by show ([c].all chOk) = true; rw [List.all_cons, hc]; rfl)
abbrev S94 : Str := Str.ofString " !\"#$&'()*+,-./0123456789:;<=>?@ABCDEFGHIJKLMNOPQRSTUVWXYZ[\\]^_`" ++ Str.ofString "abcdefghijklmnopqrstuvwxyz{|}~"
theorem S94_len : S94.cps.toList.length = 94 := by decide +kernel
theorem S94_ok : S94.cps.toList.all chOk = true := by decide +kernel
def spTx : Sp := fun vs H Q _ => ∃ d : Int, vs = [.int d] ∧ ∀ z H1, Ex H H1 → allC z.cps.toList = true → z.length ≤ 200 → Q (.str z) H1
theorem ok_ltext {f : Addr} {fd : FuncData} (F : Fun K "_law_text" "_law_text" s__law_text f fd) (T : Glo mg) : FnOk P w K mg base CX0 2 f fd ["draw"] spTx := by
  refine F.ok sc__law_text (fun vs H Q E h => ?_) (fun cdv A outer s H vs Q E hr h => ?_)
  · obtain ⟨d, rfl, _⟩ := h
    rfl
  · obtain ⟨d, rfl, q⟩ := h
    refine ⟨_, (pss_cons (ps_set (i := 1) sc__law_text.nd rfl (.inl rfl) pe_str)
  (pss_cons (ps_set (i := 1) sc__law_text.nd rfl (.inl rfl) (pe_op op_add_str (pv 1) pe_str))
  (pss_cons (ps_set (i := 2) sc__law_text.nd rfl (.inl rfl) (pe_op op_add pe_int (pe_op op_mod (pe_callTy call_int1 (by rfl) T.int (by decide +kernel) (pa_cons (pe_op op_fdiv (pv 0) pe_int) pa_nil)) pe_int)))
  (pss_cons (ps_if (pt_cmpR op_eq (pe_op op_mod (pe_callTy call_int1 (by rfl) T.int (by decide +kernel) (pa_cons (pv 0) pa_nil)) pe_int) pe_int (nomark _))
  (pss_one (ps_set (i := 2) sc__law_text.nd rfl (.inl rfl) (pe_op op_mod (pe_callTy call_int1 (by rfl) T.int (by decide +kernel) (pa_cons (pe_op op_fdiv (pv 0) pe_int) pa_nil)) pe_int)))
  pss_nil)
  (pss_cons (ps_set (i := 3) sc__law_text.nd rfl (.inl rfl) (pe_op op_fdiv (pv 0) pe_int))
  (pss_cons (ps_set (i := 4) sc__law_text.nd rfl (.inl rfl) pe_str)
  (pss_cons (ps_for PassesOwn.never rfl (pi_range1 (by rfl) T.range (pa_cons (pe_callB (call_min2 rfl) (by rfl) T.min (by decide +kernel) (pa_cons (pv 2) (pa_cons pe_int pa_nil))) pa_nil)) (pg_name (i := 5) sc__law_text.nd rfl (.inl rfl))
  (pss_cons (ps_set (i := 4) sc__law_text.nd rfl (.inl rfl) (pe_op op_add_str (pv 4) (pe_ix ix_str (pv 1) (pe_op op_mod (pe_callTy call_int1 (by rfl) T.int (by decide +kernel) (pa_cons (pv 3) pa_nil)) pe_int) (fun _ _ => rfl))))
  (pss_one (ps_set (i := 3) sc__law_text.nd rfl (.inl rfl) (pe_op op_fdiv (pv 3) pe_int)))))
  (pss_one (ps_ret (pe_slice sl_str (pe_op op_mulS (pv 4) pe_int) po_none (po_some (pv 2)))))))))))), ?_⟩
    refine q_asg ev_c fun H1 e1 => q_asg (v := .str S94) (ev_op (ev_var rfl) ev_c (rv_addS (by decide +kernel))) fun H2 e2 => ?_
    refine q_asg (v := .int (1 + d / 8 % 6)) (ev_op ev_c (ev_op (ev_cb (ea_cons (ev_op (ev_var rfl) ev_c (rv_I ⟨by decide, by decide⟩)) ea_nil) rc_int) ev_c (rv_I (by decide))) rv_I0) fun H3 e3 => ?_
    have a0 : 0 ≤ d / 8 % 6 := Int.emod_nonneg _ (by decide)
    have a1 : d / 8 % 6 < 6 := Int.emod_lt_of_pos _ (by decide)
    have c0 : 0 ≤ d / 8 % 201 := Int.emod_nonneg _ (by decide)
    have c1 : d / 8 % 201 < 201 := Int.emod_lt_of_pos _ (by decide)
    refine q_seqJ (fun σ' H' => ∃ n : Nat, σ' = [some (.int d), some (.str S94), some (.int (n : Int)), none, none, none] ∧ n ≤ 200 ∧ Ex H H') (fun nx hnx => ?_) (fun σ' H' p => ?_)
    · refine s_if (b := decide (d % 8 = 0)) (et_test (ev_op (ev_op (ev_cb (ea_cons (ev_var rfl) ea_nil) rc_int) ev_c (rv_I (by decide))) ev_c rv_eqI)) (fun _ H4 e4 => ?_) (fun _ H4 e4 => hnx _ _ ⟨(1 + d / 8 % 6).toNat, by rw [Int.toNat_of_nonneg (by omega)]; rfl, by omega, ((e1.trans e2).trans e3).trans e4⟩)
      exact s_asg (v := .int (d / 8 % 201)) (ev_op (ev_cb (ea_cons (ev_op (ev_var rfl) ev_c (rv_I ⟨by decide, by decide⟩)) ea_nil) rc_int) ev_c (rv_I (by decide))) fun H5 e5 => hnx _ _ ⟨(d / 8 % 201).toNat, by rw [Int.toNat_of_nonneg c0]; rfl, by omega, (((e1.trans e2).trans e3).trans e4).trans e5⟩
    · obtain ⟨n, rfl, hn, e0⟩ := p
      refine q_asg (v := .int (d / 1608)) (ev_op (ev_var rfl) ev_c (rv_I ⟨by decide, by decide⟩)) fun H6 e6 => ?_
      refine q_asg (v := .str (Str.ofString "")) ev_c fun H7 e7 => ?_
      refine q_forR1 (n := (if (9 : Int) < (n : Int) then 9 else (n : Int))) (ea_cons (ev_cb (ea_cons (ev_var rfl) (ea_cons ev_c ea_nil)) rc_min2) ea_nil) (by split <;> omega) (fun i σ' H' => ∃ (z : Str) (r : Int) (y : Option V), σ' = [some (.int d), some (.str S94), some (.int (n : Int)), some (.int r), some (.str z), y] ∧ z.length = i ∧ allC z.cps.toList = true ∧ Ex H7 H') (fun H8 e8 => ⟨_, _, none, rfl, by decide +kernel, by decide +kernel, e8⟩) (fun i σ' H' hi p => ?_) (fun σ' H' p => ?_)
      · obtain ⟨z, r, y, rfl, hl, ha, e⟩ := p
        have m0 : 0 ≤ r % 94 := Int.emod_nonneg r (by decide)
        have m1 : r % 94 < 94 := Int.emod_lt_of_pos r (by decide)
        obtain ⟨k, hk⟩ : ∃ k : Nat, r % 94 = (k : Int) := ⟨_, (Int.toNat_of_nonneg m0).symm⟩
        have hkl : k < S94.cps.toList.length := by rw [S94_len]; omega
        have hc := atI_nat (List.getElem?_eq_getElem hkl)
        have hi9 : i < 9 := by revert hi; split <;> omega
        have ok : chOk S94.cps.toList[k] = true := List.all_eq_true.mp S94_ok _ (List.getElem_mem hkl)
        refine q_asg (v := .str (z ++ (⟨#[S94.cps.toList[k]]⟩ : Str))) (ev_op (y := .str ⟨#[S94.cps.toList[k]]⟩) (ev_var rfl) (ev_op (ev_var rfl) (ev_is (ev_op (ev_cb (ea_cons (ev_var rfl) ea_nil) rc_int) ev_c (rv_I (by decide))) (congrArg V.int hk)) (rv_ixS (w := S94) (by decide +kernel) hc)) (rv_addS (by have h1 : (⟨#[S94.cps.toList[k]]⟩ : Str).length = 1 := rfl; omega))) fun H5 e5 => ?_
        refine s_asg (v := .int (r / 94)) (ev_op (ev_var rfl) ev_c (rv_I ⟨by decide, by decide⟩)) fun H9 e9 => ⟨_, _, _, rfl, ?_, tx_add ha ok, e.trans (e5.trans e9)⟩
        rw [Str.length_append, hl]
        rfl
      · obtain ⟨z, r, y, rfl, hl, ha, e⟩ := p
        have hz9 : z.length ≤ 9 := by rw [hl]; split <;> omega
        have hml : (Txt.mul z (23 : Int)).cps.toList = (List.replicate 23 z.cps.toList).flatten := mul_list z 23 (by decide)
        have hml2 : (Txt.mul z (23 : Int)).length = 23 * z.length := by
          show (Txt.mul z (23 : Int)).cps.size = _
          rw [← Array.length_toList, hml, len_flat, Array.length_toList]
          rfl
        have hcl := cut_list (Txt.mul z (23 : Int)) n
        refine s_ret (v := .str (cutS (Txt.mul z (23 : Int)) none (some (n : Int)))) (ev_slS (ev_op (ev_var rfl) ev_c (fun H4 e4 Q q => ⟨_, _, rfl, rfl, mul_ok (n := 23) (by omega) (by decide) (by decide), q H4 (Ex.refl H4)⟩)) eo_none (eo_some (ev_var rfl)) (by omega)) (fun H9 e9 => q _ H9 ((e0.trans (e6.trans e7)).trans (e.trans e9)) ?_ ?_)
        · rw [hcl, hml]
          exact all_take (all_flat ha 23) n
        · show (cutS _ none (some (n : Int))).cps.size ≤ 200
          rw [← Array.length_toList, hcl, List.length_take]
          omega
structure Nd where
  file : Bool
  ad : Addr
  par : Nat
  nm : Str
  path : List Str
  ps : List PyData
  l : List (Str × V)
  lim : V
  ro : Addr
  pa : Addr
structure TrC (K : PySem.W.Frag) (C : Addr) : Prop where
  cl : Cls K C
  nN : NoAttr K C "_nodes"
  nP : NoAttr K C "_places"
def TrF (n p : Addr) : List (Str × V) := [("_nodes", .ref n), ("_places", .ref p)]
def NdM (K : PySem.W.Frag) (CF CD : Addr) (n : Nd) : MP := if n.file = true then FlM K CF n.ad n.ps false else DrM K CD n.ad n.l n.lim
theorem nd_file {CF CD : Addr} {n : Nd} (h : n.file = true) : NdM K CF CD n = FlM K CF n.ad n.ps false := if_pos h
theorem nd_dir {CF CD : Addr} {n : Nd} (h : n.file = false) : NdM K CF CD n = DrM K CD n.ad n.l n.lim := if_neg (by rw [h]; decide)
def plD (n : Nd) : PyData := .tuple [.int (n.par : Int), .str n.nm]
def plcD (ds : List PyData) : DI := (ds.zipIdx.drop 1).map fun p => ((p.2 : Int), p.1)
def plc (ns : List Nd) : DI := plcD (ns.map plD)
def adL (ns : List Nd) : List V := ns.map fun n => V.ref n.ad
def TrM (K : PySem.W.Frag) (CT CF CD t : Addr) (ns : List Nd) : MP := ExM fun x : Addr × Addr × Addr => Stars [Pt t (.ins CT x.1 (TrF x.2.1 x.2.2)), Pt x.2.1 (.lst (adL ns)), DctM K x.2.2 (plc ns), Each ns (NdM K CF CD)]
theorem tr_open {B H : Hp} {F : List MP} {CT CF CD t : Addr} {ns : List Nd} (h : At B (TrM K CT CF CD t ns :: F) H) : ∃ dx nl pl, At B (Pt t (.ins CT dx (TrF nl pl)) :: Pt nl (.lst (adL ns)) :: DctM K pl (plc ns) :: Each ns (NdM K CF CD) :: F) H := by
  obtain ⟨⟨dx, nl, pl⟩, h⟩ := at_exm h
  exact ⟨dx, nl, pl, at_stars (k := [_, _, _, _]) h⟩
theorem tr_close {B H : Hp} {F : List MP} {CT CF CD t dx nl pl : Addr} {ns : List Nd} (h : At B (Pt t (.ins CT dx (TrF nl pl)) :: Pt nl (.lst (adL ns)) :: DctM K pl (plc ns) :: Each ns (NdM K CF CD) :: F) H) : At B (TrM K CT CF CD t ns :: F) H := at_exm' (dx, nl, pl) (at_stars' [_, _, _, _] h)
theorem tr_ins {B H : Hp} {F : List MP} {CT CF CD t : Addr} {ns : List Nd} (h : At B (TrM K CT CF CD t ns :: F) H) : ∃ dx nl pl, H t = some (.ins CT dx (TrF nl pl)) := by
  obtain ⟨dx, nl, pl, h⟩ := tr_open h
  exact ⟨dx, nl, pl, at_get 0 rfl h⟩
/-- the places by their numbers -/
theorem look_off : ∀ (ds : List PyData) (k i : Nat), look ((ds.zipIdx k).map fun p => ((p.2 : Int), p.1)) (((k + i : Nat) : Int)) = ds[i]?
  | [], k, i => by
    rw [List.getElem?_nil]
    rfl
  | n :: r, k, i => by
    show look (((k : Int), n) :: (r.zipIdx (k + 1)).map _) _ = _
    rw [look_cons]
    cases i with
    | zero => rw [if_pos (by show (k : Int) = ((k + 0 : Nat) : Int); omega)]; rfl
    | succ i =>
      rw [if_neg (by show ¬ (k : Int) = ((k + (i + 1) : Nat) : Int); omega)]
      have := look_off r (k + 1) i
      rw [show k + 1 + i = k + (i + 1) by omega] at this
      rw [this]
      rfl
theorem plcD_look {ds : List PyData} {i : Nat} (h : i ≠ 0) : look (plcD ds) ((i : Nat) : Int) = ds[i]? := by
  cases ds with
  | nil => rw [List.getElem?_nil]; rfl
  | cons a r =>
    show look ((r.zipIdx 1).map fun p => ((p.2 : Int), p.1)) _ = _
    have := look_off r 1 (i - 1)
    rw [show 1 + (i - 1) = i by omega] at this
    rw [this]
    cases i with
    | zero => exact absurd rfl h
    | succ i => rfl
theorem plc_look {ns : List Nd} {i : Nat} (h : i ≠ 0) : look (plc ns) ((i : Nat) : Int) = (ns[i]?).map plD := by
  unfold plc
  rw [plcD_look h, List.getElem?_map]
theorem plc_len (ns : List Nd) : (plc ns).length = ns.length - 1 := by
  unfold plc plcD
  rw [List.length_map, List.length_drop, List.length_zipIdx, List.length_map]
theorem put_new {l : DI} {k : Int} {d : PyData} (h : ∀ p ∈ l, p.1 ≠ k) : putL l k d = l ++ [(k, d)] := by
  unfold putL
  rw [if_neg]
  intro hh
  obtain ⟨p, hp, e⟩ := List.any_eq_true.mp hh
  exact h p hp (of_decide_eq_true e)
theorem plcD_mem {ds : List PyData} {p : Int × PyData} (h : p ∈ plcD ds) : ∃ j, ds[j]? = some p.2 ∧ p.1 = ((j : Nat) : Int) := by
  unfold plcD at h
  obtain ⟨q, hq, rfl⟩ := List.mem_map.mp h
  obtain ⟨j, hj⟩ := List.getElem?_of_mem (List.mem_of_mem_drop hq)
  rw [List.getElem?_zipIdx] at hj
  cases hn : ds[j]? with
  | none => rw [hn] at hj; cases hj
  | some m =>
    rw [hn] at hj
    cases hj
    exact ⟨j, hn, by show ((0 + j : Nat) : Int) = _; rw [Nat.zero_add]⟩
theorem plcD_app {ds : List PyData} {d : PyData} (h : 1 ≤ ds.length) : plcD (ds ++ [d]) = putL (plcD ds) (ds.length : Int) d := by
  rw [put_new]
  · unfold plcD
    rw [List.zipIdx_append, List.drop_append_of_le_length (by rw [List.length_zipIdx]; exact h), List.map_append]
    simp
  · intro p hp e
    obtain ⟨j, h1, h2⟩ := plcD_mem hp
    have := (List.getElem?_eq_some_iff.mp h1).1
    omega
theorem plcD_set {ds : List PyData} {i : Nat} {d : PyData} (h0 : i ≠ 0) (h : i < ds.length) : plcD (ds.set i d) = putL (plcD ds) ((i : Nat) : Int) d := by
  have hm : (((i : Nat) : Int), ds[i]) ∈ plcD ds := by
    have h1 := plcD_look (ds := ds) h0
    rw [List.getElem?_eq_getElem h] at h1
    exact look_mem h1
  unfold putL
  rw [if_pos (List.any_eq_true.mpr ⟨_, hm, decide_eq_true rfl⟩)]
  unfold plcD
  rw [List.map_map]
  refine List.ext_getElem? fun n => ?_
  rw [List.getElem?_map, List.getElem?_map, List.getElem?_drop, List.getElem?_drop, List.getElem?_zipIdx, List.getElem?_zipIdx, List.getElem?_set]
  by_cases e : i = 1 + n
  · subst e
    rw [if_pos rfl, if_pos h, List.getElem?_eq_getElem h]
    simp
  · rw [if_neg e]
    cases hn : ds[1 + n]? with
    | none => rfl
    | some m =>
      simp only [Option.map_some, Function.comp_apply, Nat.zero_add]
      rw [if_neg (by omega)]
theorem map_same {α β : Type} {g : α → β} {rs : List α} {i : Nat} {r r' : α} (h : rs[i]? = some r) (e : g r' = g r) : (rs.set i r').map g = rs.map g := by
  rw [List.map_set, e]
  refine List.set_getElem?_self' ?_
  rw [List.getElem?_map, h]
  rfl
theorem each_same {α : Type} {f : α → MP} {rs : List α} {i : Nat} {r r' : α} (h : rs[i]? = some r) (e : f r' = f r) : Each (rs.set i r') f = Each rs f := congrArg Stars (map_same h e)
theorem q_fldG {σ : L2.St} {H : Hp} {D : Ends} {tz : TS} {ta te : TE} {f : Str} (h : te σ H fun v H1 => ta σ H1 fun o H2 => ∃ a C dx fs, o = .ref a ∧ H2 a = some (.ins C dx fs) ∧ Cls K C ∧ NoAttr K C f ∧ fs.length < 1000 ∧ tz D σ (upd H2 a (.ins C dx (putF f v fs)))) : tSeq (sFld K ta te f) tz D σ H := h
def rootN (d : Addr) : Nd := ⟨false, d, 0, "", [], [], [], .non, d, d⟩
def spTrI (K : PySem.W.Frag) (CT CF CD : Addr) : Sp := fun vs H Q _ => ∃ (t dx : Addr) (B : Hp) (F : List MP), vs = [.ref t] ∧ At B (Pt t (.ins CT dx []) :: F) H ∧ ∀ d H1, At B (TrM K CT CF CD t [rootN d] :: F) H1 → Q .non H1
theorem ok_trinit {f m1 CT CF CD : Addr} {fd md1 : FuncData} (F : Fun K "__init__" "Tree.__init__" s_Tree___init__ f fd) (D_Directory___init__ : Dm K CD "__init__" "Directory.__init__" s_Directory___init__ ["self"] m1 md1) (G_Directory___init__ : FnOk P w K mg base CX0 1 m1 md1 ["self"] (spDrI K CD)) (L_Directory : Kl K mg "Directory" CD) (L : TrC K CT) (T : Glo mg) : FnOk P w K mg base CX0 3 f fd ["self"] (spTrI K CT CF CD) := by
  refine F.ok sc_Tree___init__ (fun vs H Q E h => ?_) (fun cdv A outer s H vs Q E hr h => ?_)
  · obtain ⟨t, dx, B, Fr, rfl, _⟩ := h
    rfl
  · obtain ⟨t, dx, B, Fr, rfl, hA, q⟩ := h
    refine ⟨_, (pss_cons (ps_fld (pv 0) (pe_lst (pa_cons (pe_make0 (L_Directory.make D_Directory___init__) G_Directory___init__ (hr.mono (by decide)) (by rfl) L_Directory.g D_Directory___init__.b .nil pass0) pa_nil)) rfl)
  (pss_one (ps_fld (pv 0) pe_dnewK rfl))), ?_⟩
    refine q_fldG (K := K) (go_lst (go_cons' (make_at hA ea_nil fun d y0 H1 hA => ⟨d, y0, _, _, rfl, hA, fun H2 hA => ⟨rfl, go_nil ⟨by show 1 ≤ sizeLine; decide, fun nl hnl => ?_⟩⟩⟩)))
    have hA := at_new (o := .lst [.ref d]) hA hnl (Ex.new hnl) upd_same
    refine go_ev (ev_var rfl) fun H3 e3 => ⟨t, CT, dx, [], rfl, at_get 2 rfl (at_ex hA e3), L.cl, L.nN, by show 0 < 1000; decide, ?_⟩
    have hA := at_upd (a := t) (u := .ins CT dx [("_nodes", .ref nl)]) 2 rfl (at_ex hA e3)
    refine se_fldD (K := K) (C := CT) (dx := dx) (fs := [("_nodes", .ref nl)]) 2 rfl hA (fun _ => ev_var rfl) L.cl L.nP (by show 1 < 1000; decide) fun pl H4 hA => ?_
    have hA : At B (Pt pl (.dK (kvD [] [])) :: Pt nl (.lst [.ref d]) :: DrM K CD d [] .non :: Pt t (.ins CT dx (TrF nl pl)) :: Fr) H4 := hA
    have hA := at_closeD (K := K) (m := []) 0 rfl .nil hA
    have hA := each_nil (f := NdM K CF CD) (at_ix 4 [2, 3, 1, 0] hA)
    have hA : At B (Each ([] ++ [rootN d]) (NdM K CF CD) :: Pt t (.ins CT dx (TrF nl pl)) :: Pt nl (.lst [.ref d]) :: DctM K pl [] :: Fr) H4 := each_app (x := rootN d) (f := NdM K CF CD) (at_swap hA)
    exact q d H4 (tr_close (at_ix 4 [1, 2, 3, 0] hA))
def spTrL (K : PySem.W.Frag) (CT CF CD : Addr) : Sp := fun vs H Q _ => ∃ (t : Addr) (ns : List Nd) (B : Hp) (F : List MP), vs = [.ref t] ∧ At B (TrM K CT CF CD t ns :: F) H ∧ ∀ H1, Ex H H1 → Q (.int (ns.length : Int)) H1
theorem ok_trlen {f CT CF CD : Addr} {fd : FuncData} (F : Fun K "__len__" "Tree.__len__" s_Tree___len__ f fd) (L : TrC K CT) (T : Glo mg) : FnOk P w K mg base CX0 1 f fd ["self"] (spTrL K CT CF CD) := by
  refine F.ok sc_Tree___len__ (fun vs H Q E h => ?_) (fun cdv A outer s H vs Q E hr h => ?_)
  · obtain ⟨t, ns, B, Fr, rfl, _⟩ := h
    rfl
  · obtain ⟨t, ns, B, Fr, rfl, hA, q⟩ := h
    refine ⟨_, (pss_one (ps_ret (pe_callB call_len_seq (by rfl) T.len PySem.boot_len (pa_cons (pe_fld (pv 0) rfl) pa_nil)))), ?_⟩
    obtain ⟨dx, nl, pl, hA⟩ := tr_open hA
    exact s_ret (ev_is (ev_cb (ea_cons (ev_fld (K := K) (ev_var rfl) (at_get 0 rfl hA) L.cl L.nN rfl) ea_nil) (rc_len (sq_of (at_get (a := nl) 1 rfl hA)))) (by unfold adL; rw [List.length_map])) q
def spTrN (K : PySem.W.Frag) (CT CF CD CU : Addr) : Sp := fun vs H Q E => ∃ (t : Addr) (i : Int) (ns : List Nd) (B : Hp) (F : List MP), vs = [.ref t, .int i] ∧ At B (TrM K CT CF CD t ns :: F) H ∧ (∀ k n, i = ((k : Nat) : Int) → ns[k]? = some n → ∀ H1, Ex H H1 → Q (.ref n.ad) H1) ∧ ((i < 0 ∨ (ns.length : Int) ≤ i) → ∀ H1, Ex H H1 → E (.ref CU) none H1)
theorem ok_trnode {f CT CF CD C_Unknown BU : Addr} {fd : FuncData} (F : Fun K "node" "Tree.node" s_Tree_node f fd) (E_Unknown : Err K mg "Unknown" C_Unknown BU) (L : TrC K CT) (T : Glo mg) : FnOk P w K mg base (L2.CX P w) 1 f fd ["self", "number"] (spTrN K CT CF CD C_Unknown) := by
  refine F.okX sc_Tree_node (fun vs H Q E h => ?_) (fun cdv A outer s H vs Q E hr h => ?_)
  · obtain ⟨t, i, ns, B, Fr, rfl, _⟩ := h
    rfl
  · obtain ⟨t, i, ns, B, Fr, rfl, hA, q1, q2⟩ := h
    refine ⟨_, (pss_cons (ps_if (pt_not (pt_chain op_le op_lt pe_int (pv 1) (pe_callB call_len_seq (by rfl) T.len PySem.boot_len (pa_cons (pe_fld (pv 0) rfl) pa_nil))))
  (pss_one (ps_raise rfl (takes_of rfl rfl rfl rfl) (Err.mk' E_Unknown rfl)))
  pss_nil)
  (pss_one (ps_ret (pe_ix ix_list (pe_fld (pv 0) rfl) (pv 1) (fun _ _ => rfl))))), ?_⟩
    obtain ⟨dx, nl, pl, hA⟩ := tr_open hA
    have hl : (adL ns).length = ns.length := List.length_map _
    refine q_when (b := !(decide ((0 : Int) ≤ i) && decide (i < (ns.length : Int)))) (et_not (et_test (ev_chain ev_c (ev_var rfl) rv_I0 (ev_is (ev_cb (ea_cons (ev_fld (K := K) (ev_var rfl) (at_get 0 rfl hA) L.cl L.nN rfl) ea_nil) (rc_len (sq_of (at_get (a := nl) 1 rfl hA)))) (by rw [hl])) rv_I0))) (fun hb H1 e1 => ?_) (fun hb H1 e1 => ?_)
    · refine q2 ?_ H1 e1
      rcases Bool.and_eq_false_iff.mp (bnot_t hb) with h | h
      · exact .inl (by have := of_decide_eq_false h; omega)
      · exact .inr (by have := of_decide_eq_false h; omega)
    · obtain ⟨h0, h1⟩ := Bool.and_eq_true_iff.mp (bnot_f hb)
      have h0 := of_decide_eq_true h0
      have h1 := of_decide_eq_true h1
      obtain ⟨k, rfl⟩ := Int.eq_ofNat_of_zero_le h0
      have hk : k < ns.length := by omega
      have hA := at_ex hA e1
      exact s_ret (ev_op (ev_fld (K := K) (ev_var rfl) (at_get 0 rfl hA) L.cl L.nN rfl) (ev_var rfl) (rv_ixL (sq_of (at_get (a := nl) 1 rfl hA)) (atI_nat (j := k) (show (adL ns)[k]? = some (V.ref ns[k].ad) by unfold adL; rw [List.getElem?_map, List.getElem?_eq_getElem hk]; rfl)))) fun H2 e2 => q1 k _ rfl (List.getElem?_eq_getElem hk) H2 (e1.trans e2)
theorem go_meth {σ : L2.St} {H : Hp} {ta : TE} {C r dx : Addr} {sp : Sp} {E : XK} {m : Str} {fs : List (Str × V)} {tr : L2.TA} {Q : VK} (h : Ev ta σ H (.ref r)) (hr : H r = some (.ins C dx fs)) (hn : fs.lookup m = none) (k : ∀ H1, Ex H H1 → tr σ H1 fun vs H2 => sp (.ref r :: (vs ++ [])) H2 Q E) : tMeth C m sp [] E ta tr σ H Q := h H (Ex.refl H) _ fun H1 e1 => ⟨r, dx, fs, rfl, e1 _ _ hr, hn, k H1 e1⟩
theorem dr_ins {B H : Hp} {F : List MP} {C d : Addr} {l : List (Str × V)} {lim : V} (h : At B (DrM K C d l lim :: F) H) : ∃ dx e, H d = some (.ins C dx (fDr e lim)) := by
  obtain ⟨dx, e, h⟩ := dr_open h
  exact ⟨dx, e, at_get 0 rfl h⟩
theorem go_cbk {σ : L2.St} {H : Hp} {r : List V → Hp → VK → Prop} {ta : L2.TA} {Q : VK} (h : ta σ H fun vs H1 => r vs H1 Q) : tCB r ta σ H Q := h
theorem ev_child {σ : L2.St} {B H : Hp} {F : List MP} {C d : Addr} {l : List (Str × V)} {lim : V} {z : Str} {ta te : TE} {E : XK} (hA : At B (DrM K C d l lim :: F) H) (h : Ev ta σ H (.ref d)) (h2 : Ev te σ H (.str z)) : Ev (tMeth C "child" (spDrC K C) [] E ta (tCons te tNil)) σ H ((valV l z).getD .non) := fun H1 e Q q => by
  obtain ⟨dx, en, hd⟩ := dr_ins (at_ex hA e)
  exact go_meth (Ev.mono e h) hd rfl fun H2 e2 => go_cons (Ev.mono (e.trans e2) h2) fun H3 e3 => go_nil ⟨d, z, l, lim, B, F, rfl, at_ex hA ((e.trans e2).trans e3), fun H4 e4 => q H4 ((e2.trans e3).trans e4)⟩
theorem g_two {σ : L2.St} {B H : Hp} {x : V} {d1 d2 : PyData} {i j : Nat} {Q : L2.St → Hp → Prop} (h : Dp K B x (.tuple [d1, d2])) (e : Ex B H) (q : ∀ v1 v2, Dp K B v1 d1 → Dp K B v2 d2 → Q ((σ.set i (some v1)).set j (some v2)) H) : gTup K 2 (gCons (gName i) (gCons (gName j) gNil)) x σ H Q := by
  cases h with
  | @tup a xs _ hs hd =>
    cases hd with
    | cons h1 h2 => cases h2 with
      | cons h2 h3 =>
        cases h3
        exact ⟨a, _, rfl, ex_t e hs, rfl, _, _, rfl, _, _, rfl, rfl, q _ _ h1 h2⟩
theorem q_asgR {σ : L2.St} {H : Hp} {D : Ends} {tz : TS} {te : TE} {g : TG} (h : te σ H fun x H1 => g x σ H1 (tz D)) : tSeq (tAsg te g) tz D σ H := h
/-- where a node hangs -/
theorem q_place {σ : L2.St} {B H : Hp} {D : Ends} {tz : TS} {td ty : TE} {i j k : Nat} {ns : List Nd} {n : Nd} {pl : Addr} {l : List MP} (a : Nat) (ha : l[a]? = some (DctM K pl (plc ns))) (hA : At B l H) (h0 : k ≠ 0) (hn : ns[k]? = some n) (hd : ∀ B1 H, Ex B B1 → At B1 l H → Ev td σ H (.ref pl)) (hy : ∀ B1 H, Ex B B1 → At B1 l H → Ev ty σ H (.int (k : Int))) (q : ∀ B1 H1, Ex B B1 → At B1 l H1 → tz D ((σ.set i (some (.int (n.par : Int)))).set j (some (.str n.nm))) H1) :
    tSeq (tAsg (tDGet td ty) (gTup K 2 (gCons (gName i) (gCons (gName j) gNil)))) tz D σ H :=
  q_asgR (wv_dgetM a ha hd hy (by rw [plc_look h0, hn]; rfl) B H (Ex.refl B) hA _ fun v B1 H1 b1 hA hv => g_two (d1 := .int (n.par : Int)) (d2 := .str n.nm) hv (at_base hA) fun v1 v2 h1 h2 => by
    cases h1
    cases h2
    exact q B1 H1 b1 hA)
def spTrE (K : PySem.W.Frag) (CT CF CD : Addr) : Sp := fun vs H Q _ => ∃ (t dx nl pl : Addr) (ns : List Nd) (m : DI) (i : Int) (j : Nat) (p : Nd) (z : Str) (B : Hp) (F : List MP), vs = [.ref t, .int i, .int (j : Int), .str z] ∧ At B (Pt t (.ins CT dx (TrF nl pl)) :: Pt nl (.lst (adL ns)) :: DctM K pl m :: Each ns (NdM K CF CD) :: F) H ∧ ns[j]? = some p ∧ p.file = false ∧ p.l.length < 1000 ∧ m.length < 1000 ∧
  ∀ B1 H1, Ex B B1 → At B1 (Pt t (.ins CT dx (TrF nl pl)) :: Pt nl (.lst (adL ns)) :: DctM K pl (putL m i (.tuple [.int (j : Int), .str z])) :: Each (ns.set j { p with l := putK p.l z (.int i) }) (NdM K CF CD) :: F) H1 → Q .non H1
theorem ok_trenter {f m1 CT CF CD : Addr} {fd md1 : FuncData} (F : Fun K "_enter" "Tree._enter" s_Tree__enter f fd) (D_Directory_put : Dm K CD "put" "Directory.put" s_Directory_put ["self", "name", "number"] m1 md1) (G_Directory_put : FnOk P w K mg base CX0 1 m1 md1 ["self", "name", "number"] (spDrP K CD)) (L_Directory : Kl K mg "Directory" CD) (L : TrC K CT) (T : Glo mg) : FnOk P w K mg base CX0 2 f fd ["self", "number", "parent", "name"] (spTrE K CT CF CD) := by
  refine F.ok sc_Tree__enter (fun vs H Q E h => ?_) (fun cdv A outer s H vs Q E hr h => ?_)
  · obtain ⟨t, dx, nl, pl, ns, m, i, j, p, z, B, Fr, rfl, _⟩ := h
    rfl
  · obtain ⟨t, dx, nl, pl, ns, m, i, j, p, z, B, Fr, rfl, hA, hp, hpf, hpl, hm, q⟩ := h
    refine ⟨_, (pss_cons (ps_expr (pe_meth (pe_ix ix_list (pe_fld (pv 0) rfl) (pv 2) (fun _ _ => rfl)) L_Directory.cl D_Directory_put.m G_Directory_put (hr.mono (by decide)) D_Directory_put.b .nil pass0 (pa_cons (pv 3) (pa_cons (pv 1) pa_nil))))
  (pss_one (ps_dput (hu_of hr) (pe_fld (pv 0) rfl) (pv 1) (pe_tup (pa_cons (pv 2) (pa_cons (pv 3) pa_nil))) rfl))), ?_⟩
    have hj : j < ns.length := (List.getElem?_eq_some_iff.mp hp).1
    have hA := each_at (at_ix 4 [3, 0, 1, 2] hA) hp
    rw [nd_dir hpf] at hA
    obtain ⟨ex, en, hd⟩ := dr_ins hA
    refine q_drop0 (go_meth (ev_op (ev_fld (K := K) (ev_var rfl) (at_get (a := t) 2 rfl hA) L.cl L.nN rfl) (ev_var rfl) (rv_ixL (sq_of (at_get (a := nl) 3 rfl hA)) (atI_nat (j := j) (show (adL ns)[j]? = some (V.ref p.ad) by unfold adL; rw [List.getElem?_map, hp]; rfl)))) hd rfl fun H1 e1 => go_cons (ev_var rfl) fun H2 e2 => go_cons (ev_var rfl) fun H3 e3 => go_nil ⟨p.ad, z, .int i, p.l, p.lim, B, _, rfl, at_ex hA ((e1.trans e2).trans e3), by omega, fun H4 hA => ?_⟩)
    have hA := each_set (x' := { p with l := putK p.l z (.int i) }) (f := NdM K CF CD) hj ((nd_dir (K := K) (CF := CF) (CD := CD) (n := { p with l := putK p.l z (.int i) }) hpf).symm ▸ hA)
    refine sm_put (K := K) (k := i) (d := .tuple [.int (j : Int), .str z]) 3 rfl hA (wv_tup (wa_cons (wv_var rfl (.int _)) (wa_cons (wv_var rfl (.str z)) wa_nil)) (by show 2 ≤ 100000; decide)) (fun _ _ _ h => ev_fld (K := K) (ev_var rfl) (at_get (a := t) 1 rfl h) L.cl L.nP rfl) (fun _ _ _ h => ev_var rfl) (by omega) fun B1 H5 b1 hA => ?_
    exact q B1 H5 b1 (at_ix 4 [1, 2, 3, 0] hA)
def spTrA (K : PySem.W.Frag) (CT CF CD : Addr) : Sp := fun vs H Q _ => ∃ (t : Addr) (ns : List Nd) (j : Nat) (p n : Nd) (B : Hp) (F : List MP), vs = [.ref t, .int (j : Int), .str n.nm, .ref n.ad] ∧ At B (NdM K CF CD n :: TrM K CT CF CD t ns :: F) H ∧ ns[j]? = some p ∧ p.file = false ∧ n.par = j ∧ p.l.length < 1000 ∧ ns.length < 900 ∧
  ∀ B1 H1, Ex B B1 → At B1 (TrM K CT CF CD t (ns.set j { p with l := putK p.l n.nm (.int (ns.length : Int)) } ++ [n]) :: F) H1 → Q (.int (ns.length : Int)) H1
theorem ok_trattach {f m1 CT CF CD : Addr} {fd md1 : FuncData} (F : Fun K "attach" "Tree.attach" s_Tree_attach f fd) (D_Tree__enter : Dm K CT "_enter" "Tree._enter" s_Tree__enter ["self", "number", "parent", "name"] m1 md1) (G_Tree__enter : FnOk P w K mg base CX0 2 m1 md1 ["self", "number", "parent", "name"] (spTrE K CT CF CD)) (L_Tree : Kl K mg "Tree" CT) (L : TrC K CT) (T : Glo mg) : FnOk P w K mg base CX0 3 f fd ["self", "parent", "name", "node"] (spTrA K CT CF CD) := by
  refine F.ok sc_Tree_attach (fun vs H Q E h => ?_) (fun cdv A outer s H vs Q E hr h => ?_)
  · obtain ⟨t, ns, j, p, n, B, Fr, rfl, _⟩ := h
    rfl
  · obtain ⟨t, ns, j, p, n, B, Fr, rfl, hA, hp, hpf, hnp, hpl, hns, q⟩ := h
    refine ⟨_, (pss_cons (ps_set (i := 4) sc_Tree_attach.nd rfl (.inl rfl) (pe_callB call_len_seq (by rfl) T.len PySem.boot_len (pa_cons (pe_fld (pv 0) rfl) pa_nil)))
  (pss_cons (ps_expr (pe_bm PySem.F.plainAttrs_list PySem.F.slot_list_append PySem.F.type_list_append mt_append (pe_fld (pv 0) rfl) (pa_cons (pv 3) pa_nil)))
  (pss_cons (ps_expr (pe_meth (pv 0) L_Tree.cl D_Tree__enter.m G_Tree__enter (hr.mono (by decide)) D_Tree__enter.b .nil pass0 (pa_cons (pv 4) (pa_cons (pv 1) (pa_cons (pv 2) pa_nil)))))
  (pss_one (ps_ret (pv 4)))))), ?_⟩
    obtain ⟨dx, nl, pl, hA⟩ := tr_open (at_swap hA)
    have hl : (adL ns).length = ns.length := List.length_map _
    have hj : j < ns.length := (List.getElem?_eq_some_iff.mp hp).1
    refine qe_asg (x := .int (ns.length : Int)) hA (ev_is (ev_cb (ea_cons (ev_fld (K := K) (ev_var rfl) (at_get (a := t) 0 rfl hA) L.cl L.nN rfl) ea_nil) (rc_len (sq_of (at_get (a := nl) 1 rfl hA)))) (by rw [hl])) fun H1 hA => ?_
    refine qe_app (v := .ref n.ad) 1 rfl hA (ev_fld (K := K) (ev_var rfl) (at_get (a := t) 0 rfl hA) L.cl L.nN rfl) (ev_var rfl) (by omega) fun H2 hA => ?_
    have hA := each_app (x := n) (f := NdM K CF CD) (at_ix 5 [4, 3, 0, 1, 2] hA)
    have hA : At B (Pt t (.ins CT dx (TrF nl pl)) :: Pt nl (.lst (adL (ns ++ [n]))) :: DctM K pl (plc ns) :: Each (ns ++ [n]) (NdM K CF CD) :: Fr) H2 := by
      have e : adL (ns ++ [n]) = adL ns ++ [.ref n.ad] := List.map_append
      rw [e]
      exact at_ix 4 [1, 2, 3, 0] hA
    have hp' : (ns ++ [n])[j]? = some p := by rw [List.getElem?_append_left hj]; exact hp
    refine q_drop0 (go_meth (ev_var rfl) (at_get (a := t) 0 rfl hA) rfl fun H3 e3 => go_cons (ev_var rfl) fun H4 e4 => go_cons (ev_var rfl) fun H5 e5 => go_cons (ev_var rfl) fun H6 e6 => go_nil ⟨t, dx, nl, pl, ns ++ [n], plc ns, _, j, p, n.nm, B, Fr, rfl, at_ex hA (((e3.trans e4).trans e5).trans e6), hp', hpf, hpl, by rw [plc_len]; omega, fun B1 H7 b1 hA => ?_⟩)
    refine s_ret (ev_var rfl) fun H8 e8 => q B1 H8 b1 (tr_close (dx := dx) (nl := nl) (pl := pl) ?_)
    have e1 : (ns ++ [n]).set j { p with l := putK p.l n.nm (.int (ns.length : Int)) } = ns.set j { p with l := putK p.l n.nm (.int (ns.length : Int)) } ++ [n] := List.set_append_left _ _ hj
    have e2 : adL (ns.set j { p with l := putK p.l n.nm (.int (ns.length : Int)) } ++ [n]) = adL (ns ++ [n]) := by
      rw [← e1]
      exact map_same hp' rfl
    have e3 : plc (ns.set j { p with l := putK p.l n.nm (.int (ns.length : Int)) } ++ [n]) = putL (plc ns) (ns.length : Int) (.tuple [.int (j : Int), .str n.nm]) := by
      unfold plc
      rw [← e1, show ((ns ++ [n]).set j { p with l := putK p.l n.nm (.int (ns.length : Int)) }).map plD = (ns ++ [n]).map plD from map_same hp' rfl, List.map_append]
      have := plcD_app (ds := ns.map plD) (d := plD n) (by rw [List.length_map]; omega)
      rw [List.length_map] at this
      rw [show [n].map plD = [plD n] from rfl, this]
      unfold plD
      rw [hnp]
    rw [e2, e3, ← e1]
    exact at_ex hA e8
def spTrM (K : PySem.W.Frag) (CT CF CD : Addr) : Sp := fun vs H Q _ => ∃ (t : Addr) (ns : List Nd) (i j : Nat) (z : Str) (n o p : Nd) (v : V) (B : Hp) (F : List MP), vs = [.ref t, .int (i : Int), .int (j : Int), .str z] ∧ At B (TrM K CT CF CD t ns :: F) H ∧ i ≠ 0 ∧ i ≠ j ∧ i ≠ n.par ∧ ns[i]? = some n ∧ ns[n.par]? = some o ∧ o.file = false ∧ valV o.l n.nm = some v ∧ (ns.set n.par { o with l := dropK o.l n.nm })[j]? = some p ∧ p.file = false ∧ p.l.length < 1000 ∧ ns.length < 900 ∧
  ∀ B1 H1, Ex B B1 → At B1 (TrM K CT CF CD t (((ns.set n.par { o with l := dropK o.l n.nm }).set j { p with l := putK p.l z (.int (i : Int)) }).set i { n with par := j, nm := z }) :: F) H1 → Q .non H1
theorem ok_trmove {f m1 m2 CT CF CD CU : Addr} {fd md1 md2 : FuncData} (F : Fun K "move_node" "Tree.move_node" s_Tree_move_node f fd) (D_Tree__enter : Dm K CT "_enter" "Tree._enter" s_Tree__enter ["self", "number", "parent", "name"] m1 md1) (G_Tree__enter : FnOk P w K mg base CX0 2 m1 md1 ["self", "number", "parent", "name"] (spTrE K CT CF CD)) (D_Directory_take : Dm K CD "take" "Directory.take" s_Directory_take ["self", "name"] m2 md2) (G_Directory_take : FnOk P w K mg base (L2.CX P w) 1 m2 md2 ["self", "name"] (spDrT K CD CU))
    (L_Tree : Kl K mg "Tree" CT) (L_Directory : Kl K mg "Directory" CD) (L : TrC K CT) (T : Glo mg) : FnOk P w K mg base CX0 3 f fd ["self", "number", "parent", "name"] (spTrM K CT CF CD) := by
  refine F.ok sc_Tree_move_node (fun vs H Q E h => ?_) (fun cdv A outer s H vs Q E hr h => ?_)
  · obtain ⟨t, ns, i, j, z, n, o, p, v, B, Fr, rfl, _⟩ := h
    rfl
  · obtain ⟨t, ns, i, j, z, n, o, p, v, B, Fr, rfl, hA, h0, hij, hio, hn, ho, hof, hv, hp, hpf, hpl, hns, q⟩ := h
    refine ⟨_, (pss_cons (ps_asg (pe_dget (hu_of hr) (pe_fld (pv 0) rfl) (pv 1) (fun _ _ => rfl)) (pg_tup (by rfl) (pgs_cons (pg_name (i := 4) sc_Tree_move_node.nd rfl (.inl rfl)) (pgs_cons (pg_name (i := 5) sc_Tree_move_node.nd rfl (.inl rfl)) pgs_nil))))
  (pss_cons (ps_expr (pe_meth (pe_ix ix_list (pe_fld (pv 0) rfl) (pv 4) (fun _ _ => rfl)) L_Directory.cl D_Directory_take.m G_Directory_take (hr.mono (by decide)) D_Directory_take.b .nil passL (pa_cons (pv 5) pa_nil)))
  (pss_one (ps_expr (pe_meth (pv 0) L_Tree.cl D_Tree__enter.m G_Tree__enter (hr.mono (by decide)) D_Tree__enter.b .nil pass0 (pa_cons (pv 1) (pa_cons (pv 2) (pa_cons (pv 3) pa_nil)))))))), ?_⟩
    obtain ⟨dx, nl, pl, hA⟩ := tr_open hA
    refine q_place 2 rfl hA h0 hn (fun _ _ _ h => ev_fld (K := K) (ev_var rfl) (at_get (a := t) 0 rfl h) L.cl L.nP rfl) (fun _ _ _ h => ev_var rfl) fun B1 H1 b1 hA => ?_
    have hj : n.par < ns.length := (List.getElem?_eq_some_iff.mp ho).1
    have hA := each_at (at_ix 4 [3, 0, 1, 2] hA) ho
    rw [nd_dir hof] at hA
    obtain ⟨ex, en, hd⟩ := dr_ins hA
    refine q_drop0 (go_meth (ev_op (ev_fld (K := K) (ev_var rfl) (at_get (a := t) 2 rfl hA) L.cl L.nN rfl) (ev_var rfl) (rv_ixL (sq_of (at_get (a := nl) 3 rfl hA)) (atI_nat (j := n.par) (show (adL ns)[n.par]? = some (V.ref o.ad) by unfold adL; rw [List.getElem?_map, ho]; rfl)))) hd rfl fun H2 e2 => go_cons (ev_var rfl) fun H3 e3 => go_nil ⟨o.ad, n.nm, o.l, o.lim, B1, _, rfl, at_ex hA (e2.trans e3), fun v' hv' H4 hA => ?_, fun hv' => absurd (hv.symm.trans hv') (by simp)⟩)
    have hA := each_set (x' := { o with l := dropK o.l n.nm }) (f := NdM K CF CD) hj ((nd_dir (K := K) (CF := CF) (CD := CD) (n := { o with l := dropK o.l n.nm }) hof).symm ▸ hA)
    have hA := at_ix 4 [1, 2, 3, 0] hA
    have ea : adL (ns.set n.par { o with l := dropK o.l n.nm }) = adL ns := map_same ho rfl
    refine s_drop0 (go_meth (ev_var rfl) (at_get (a := t) 0 rfl hA) rfl fun H5 e5 => go_cons (ev_var rfl) fun H6 e6 => go_cons (ev_var rfl) fun H7 e7 => go_cons (ev_var rfl) fun H8 e8 => go_nil ⟨t, dx, nl, pl, ns.set n.par { o with l := dropK o.l n.nm }, plc ns, i, j, p, z, B1, Fr, rfl, by rw [ea]; exact at_ex hA (((e5.trans e6).trans e7).trans e8), hp, hpf, hpl, by rw [plc_len]; omega, fun B2 H9 b2 hA => ?_⟩)
    refine q B2 H9 (b1.trans b2) (tr_close (dx := dx) (nl := nl) (pl := pl) ?_)
    have hii : ((ns.set n.par { o with l := dropK o.l n.nm }).set j { p with l := putK p.l z (.int (i : Int)) })[i]? = some n := by
      rw [List.getElem?_set_ne (Ne.symm hij), List.getElem?_set_ne (Ne.symm hio), hn]
    rw [each_same (f := NdM K CF CD) (r' := { n with par := j, nm := z }) hii rfl]
    have e1 : adL (((ns.set n.par { o with l := dropK o.l n.nm }).set j { p with l := putK p.l z (.int (i : Int)) }).set i { n with par := j, nm := z }) = adL (ns.set n.par { o with l := dropK o.l n.nm }) := (map_same (g := fun n : Nd => V.ref n.ad) (r' := { n with par := j, nm := z }) hii rfl).trans (map_same (g := fun n : Nd => V.ref n.ad) (r' := { p with l := putK p.l z (.int (i : Int)) }) hp rfl)
    have e2 : plc (((ns.set n.par { o with l := dropK o.l n.nm }).set j { p with l := putK p.l z (.int (i : Int)) }).set i { n with par := j, nm := z }) = putL (plc ns) (i : Int) (.tuple [.int (j : Int), .str z]) := by
      have e3 : ((ns.set n.par { o with l := dropK o.l n.nm }).set j { p with l := putK p.l z (.int (i : Int)) }).map plD = ns.map plD := (map_same (g := plD) (r' := { p with l := putK p.l z (.int (i : Int)) }) hp rfl).trans (map_same (g := plD) (r' := { o with l := dropK o.l n.nm }) ho rfl)
      unfold plc
      rw [List.map_set, e3]
      exact plcD_set h0 (by rw [List.length_map]; exact (List.getElem?_eq_some_iff.mp hn).1)
    rw [e1, e2]
    exact hA
structure InsK (K : PySem.W.Frag) (C : Addr) : Prop where
  cl : Cls K C
  ha : PySem.W.findIn K (.ref C) "__class__" = some (some (.builtin "object.__class__"))
  hn : PySem.W.specialIn K (.builtin "object.__class__") "__get__" = some (some (.builtin "getset_descriptor.__get__"))
  htk : PySem.W.takesIn K (.builtin "object.__class__") = some true
  hm : PySem.W.mroIn K C (.type "object") = some true
  me : PySem.W.kitOne K (.ref C) (.ref C) = some true
def DF27 (K : PySem.W.Frag) (mg : Str → Option Value) : Prop := ∃ CD CF, mg "Directory" = some (.ref CD) ∧ mg "File" = some (.ref CF) ∧ InsK K CF ∧ InsK K CD ∧ PySem.W.kitOne K (.ref CD) (.ref CF) = some false ∧ PySem.W.kitOne K (.ref CF) (.ref CD) = some false
structure NdC (K : PySem.W.Frag) (CF CD : Addr) : Prop where
  f : InsK K CF
  d : InsK K CD
  df : PySem.W.kitOne K (.ref CD) (.ref CF) = some false
  fd : PySem.W.kitOne K (.ref CF) (.ref CD) = some false
theorem DF27.c {mg : Str → Option Value} {CF CD : Addr} (h : DF27 K mg) (LD : Kl K mg "Directory" CD) (LF : Kl K mg "File" CF) : NdC K CF CD := by
  obtain ⟨CD', CF', g1, g2, a, b, c, d⟩ := h
  rw [LD.g] at g1
  rw [LF.g] at g2
  cases g1
  cases g2
  exact ⟨a, b, c, d⟩
theorem rc_ins {H : Hp} {C D d dx : Addr} {fs : List (Str × V)} {b : Bool} (c : InsK K C) (k : PySem.W.kitOne K (.ref C) (.ref D) = some b) (h : H d = some (.ins C dx fs)) : RC (rIsi K) [.ref d, .ref D] H (.bl b) := fun H1 e1 Q q => ⟨.ref d, .ref D, .ref C, .ref D, b, rfl, .own D, .base (.ins (e1 _ _ h) c.cl c.ha c.hn c.htk c.hm), k, q H1 (Ex.refl H1)⟩
theorem nd_isF {B H : Hp} {F : List MP} {CF CD : Addr} {n : Nd} (N : NdC K CF CD) (h : At B (NdM K CF CD n :: F) H) : RC (rIsi K) [.ref n.ad, .ref CF] H (.bl n.file) := by
  cases hf : n.file with
  | true =>
    rw [nd_file hf] at h
    obtain ⟨dx, fs, h⟩ := fl_ins h
    exact rc_ins N.f N.f.me h
  | false =>
    rw [nd_dir hf] at h
    obtain ⟨dx, e, h⟩ := dr_ins h
    exact rc_ins N.d N.df h
theorem nd_isD {B H : Hp} {F : List MP} {CF CD : Addr} {n : Nd} (N : NdC K CF CD) (h : At B (NdM K CF CD n :: F) H) : RC (rIsi K) [.ref n.ad, .ref CD] H (.bl (!n.file)) := by
  cases hf : n.file with
  | true =>
    rw [nd_file hf] at h
    obtain ⟨dx, fs, h⟩ := fl_ins h
    exact rc_ins N.f N.fd h
  | false =>
    rw [nd_dir hf] at h
    obtain ⟨dx, e, h⟩ := dr_ins h
    exact rc_ins N.d N.d.me h
def luV (ns : List Nd) : Nat → List Str → V
  | k, [] => .int (k : Int)
  | k, z :: r => match ns[k]? with
    | none => .non
    | some n => if n.file = true then .str "kind" else match valV n.l z with
      | none => .str "missing"
      | some (.int i) => luV ns i.toNat r
      | some _ => .non
/-- entries lead to nodes -/
def EntOk (ns : List Nd) : Prop := ∀ n ∈ ns, n.file = false → ∀ z v, valV n.l z = some v → ∃ i : Nat, v = .int (i : Int) ∧ i < ns.length
def spTrU (K : PySem.W.Frag) (CT CF CD : Addr) : Sp := fun vs H Q _ => ∃ (t pp : Addr) (ns : List Nd) (xs : List Str) (B : Hp) (F : List MP), vs = [.ref t, .ref pp] ∧ At B (TrM K CT CF CD t ns :: F) H ∧ EntOk ns ∧ 0 < ns.length ∧ H pp = some (.lst (xs.map V.str)) ∧ ∀ H1, Ex H H1 → Q (luV ns 0 xs) H1
theorem ok_trlook {f m1 CT CF CD : Addr} {fd md1 : FuncData} {tR : Tok} (F : Fun K "look_up" "Tree.look_up" s_Tree_look_up f fd) (D_Directory_child : Dm K CD "child" "Directory.child" s_Directory_child ["self", "name"] m1 md1) (G_Directory_child : FnOk P w K mg base CX0 1 m1 md1 ["self", "name"] (spDrC K CD)) (L_Directory : Kl K mg "Directory" CD) (L_File : Kl K mg "File" CF) (DF : DF27 K mg) (c__ROOT : mg "_ROOT" = some (.int 0 tR)) (L : TrC K CT) (T : Glo mg) : FnOk P w K mg base CX0 2 f fd ["self", "names"] (spTrU K CT CF CD) := by
  have N := DF.c L_Directory L_File
  refine F.ok sc_Tree_look_up (fun vs H Q E h => ?_) (fun cdv A outer s H vs Q E hr h => ?_)
  · obtain ⟨t, pp, ns, xs, B, Fr, rfl, _⟩ := h
    rfl
  · obtain ⟨t, pp, ns, xs, B, Fr, rfl, hA, hE, h0, hp, q⟩ := h
    let C_File := CF
    refine ⟨_, (pss_cons (ps_set (i := 2) sc_Tree_look_up.nd rfl (.inl rfl) (pe_glob (v := .int 0) rfl c__ROOT ⟨_, rfl⟩))
  (pss_cons (ps_for PassesOwn.never rfl (pi_list (pv 1)) (pg_name (i := 3) sc_Tree_look_up.nd rfl (.inl rfl))
  (pss_cons (ps_set (i := 4) sc_Tree_look_up.nd rfl (.inl rfl) (pe_ix ix_list (pe_fld (pv 0) rfl) (pv 2) (fun _ _ => rfl)))
  (pss_cons (ps_if (pt_val (pe_callB call_isi (by rfl) T.isinstance (by decide +kernel) (pa_cons (pv 4) (pa_cons (pe_glob (v := .ref C_File) (by rfl) L_File.g rfl) pa_nil))))
  (pss_one (ps_ret pe_str))
  pss_nil)
  (pss_cons (ps_set (i := 2) sc_Tree_look_up.nd rfl (.inl rfl) (pe_meth (pv 4) L_Directory.cl D_Directory_child.m G_Directory_child (hr.mono (by decide)) D_Directory_child.b .nil pass0 (pa_cons (pv 3) pa_nil)))
  (pss_one (ps_if (pt_cmpR op_isN (pv 2) pe_non (nomark _))
  (pss_one (ps_ret pe_str))
  pss_nil))))))
  (pss_one (ps_ret (pv 2))))), ?_⟩
    obtain ⟨dx, nl, pl, hA⟩ := tr_open hA
    generalize hu : luV ns 0 xs = u at q
    refine q_asg (v := .int 0) ev_c fun H1 e1 => ?_
    refine q_forLn (a := pp) (xs := xs.map V.str) (ev_var rfl) (sq_of (e1 _ _ hp)) (fun i σ' H' => ∃ (k : Nat) (y3 y4 : Option V), σ' = [some (.ref t), some (.ref pp), some (.int (k : Int)), y3, y4] ∧ Ex H H' ∧ k < ns.length ∧ luV ns k (xs.drop i) = u) (fun H2 e2 => ⟨0, _, _, rfl, e1.trans e2, h0, hu⟩) (fun i σ' H' _ h => by
      obtain ⟨k, y3, y4, _, e, _⟩ := h
      exact sq_of (e _ _ hp)) (fun i x σ' H' hx h => ?_) (fun σ' H' h => ?_)
    · obtain ⟨k, y3, y4, rfl, e, hk, hlu⟩ := h
      rw [List.getElem?_map] at hx
      cases hz : xs[i]? with
      | none => rw [hz] at hx; cases hx
      | some z =>
        rw [hz] at hx
        cases hx
        have hi : i < xs.length := (List.getElem?_eq_some_iff.mp hz).1
        have hd : xs.drop i = z :: xs.drop (i + 1) := by
          rw [List.drop_eq_getElem_cons hi]
          congr 1
          exact (List.getElem?_eq_some_iff.mp hz).2
        have hn : ns[k]? = some ns[k] := List.getElem?_eq_getElem hk
        have hA := at_ex hA e
        generalize hnk : ns[k] = n at hn
        refine q_asg (v := .ref n.ad) (ev_op (ev_fld (K := K) (ev_var rfl) (at_get (a := t) 0 rfl hA) L.cl L.nN rfl) (ev_var rfl) (rv_ixL (sq_of (at_get (a := nl) 1 rfl hA)) (atI_nat (j := k) (show (adL ns)[k]? = some (V.ref n.ad) by unfold adL; rw [List.getElem?_map, hn]; rfl)))) fun H2 e2 => ?_
        have hA := each_at (at_ix 4 [3, 0, 1, 2] (at_ex hA e2)) hn
        refine q_when (b := n.file) (et_B (ev_cb (ea_cons (ev_var rfl) (ea_cons ev_c ea_nil)) (nd_isF N hA))) (fun hb H3 e3 => ?_) (fun hb H3 e3 => ?_)
        · refine s_ret ev_c fun H4 e4 => ?_
          rw [hd] at hlu
          unfold luV at hlu
          rw [hn] at hlu
          dsimp only at hlu
          rw [if_pos hb] at hlu
          rw [← hlu] at q
          exact q H4 (e.trans (e2.trans (e3.trans e4)))
        · rw [nd_dir hb] at hA
          refine q_asg (v := (valV n.l z).getD .non) (ev_child (at_ex hA e3) (ev_var rfl) (ev_var rfl)) fun H4 e4 => ?_
          rw [hd] at hlu
          unfold luV at hlu
          rw [hn] at hlu
          dsimp only at hlu
          rw [if_neg (by rw [hb]; decide)] at hlu
          cases hv : valV n.l z with
          | none =>
            rw [hv] at hlu
            refine s_when (b := true) (et_is (et_isN (ev_var rfl)) rfl) (fun _ H5 e5 => s_ret ev_c fun H6 e6 => ?_) (fun hb => nomatch hb)
            rw [← (show V.str "missing" = u from hlu)] at q
            exact q H6 (e.trans (e2.trans (e3.trans (e4.trans (e5.trans e6)))))
          | some v =>
            obtain ⟨i1, rfl, hi1⟩ := hE n (List.mem_of_getElem? hn) hb z v hv
            rw [hv] at hlu
            refine s_when (b := false) (et_is (et_isN (ev_var rfl)) rfl) (fun hb => nomatch hb) (fun _ H5 e5 => ⟨i1, _, _, rfl, e.trans (e2.trans (e3.trans (e4.trans e5))), hi1, hlu⟩)
    · obtain ⟨k, y3, y4, rfl, e, hk, hlu⟩ := h
      rw [List.length_map, List.drop_length] at hlu
      refine s_ret (ev_var rfl) fun H2 e2 => ?_
      rw [← (show V.int (k : Int) = u from hlu)] at q
      exact q H2 (e.trans e2)
theorem go_revL {σ : L2.St} {H : Hp} {te : TE} {Q : VK} (h : te σ H fun x H1 => ∃ a xs, x = .ref a ∧ SqL K H1 a xs ∧ ∀ p, H1 p = none → Q (.ref p) (upd H1 p (.lst xs.reverse))) : tRevL K te σ H Q := h
structure PthOk (ns : List Nd) : Prop where
  root : ∃ r, ns[0]? = some r ∧ r.path = []
  par : ∀ i n, i ≠ 0 → ns[i]? = some n → ∃ o, ns[n.par]? = some o ∧ n.path = o.path ++ [n.nm]
theorem PthOk.zero {ns : List Nd} (h : PthOk ns) {n : Nd} (hn : ns[0]? = some n) : n.path = [] := by
  obtain ⟨r, h1, h2⟩ := h.root
  rw [hn] at h1
  cases h1
  exact h2
def spTrP (K : PySem.W.Frag) (CT CF CD : Addr) : Sp := fun vs H Q _ => ∃ (t : Addr) (i : Nat) (ns : List Nd) (n : Nd) (B : Hp) (F : List MP), vs = [.ref t, .int (i : Int)] ∧ At B (TrM K CT CF CD t ns :: F) H ∧ PthOk ns ∧ ns[i]? = some n ∧ n.path.length < 1000 ∧
  ∀ p B1 H1, Ex B B1 → At B1 (Pt p (.lst (n.path.map V.str)) :: TrM K CT CF CD t ns :: F) H1 → Q (.ref p) H1
theorem ok_trnames {f CT CF CD : Addr} {fd : FuncData} {tR : Tok} (F : Fun K "names_of" "Tree.names_of" s_Tree_names_of f fd) (c__ROOT : mg "_ROOT" = some (.int 0 tR)) (L : TrC K CT) (T : Glo mg) : FnOk P w K mg base CX0 1 f fd ["self", "number"] (spTrP K CT CF CD) := by
  refine F.ok sc_Tree_names_of (fun vs H Q E h => ?_) (fun cdv A outer s H vs Q E hr h => ?_)
  · obtain ⟨t, i, ns, n, B, Fr, rfl, _⟩ := h
    rfl
  · obtain ⟨t, i, ns, n, B, Fr, rfl, hA, hP, hn, hpl, q⟩ := h
    refine ⟨_, (pss_cons (ps_set (i := 2) sc_Tree_names_of.nd rfl (.inl rfl) (pe_lst pa_nil))
  (pss_cons (ps_set (i := 3) sc_Tree_names_of.nd rfl (.inl rfl) (pv 1))
  (pss_cons (ps_while PassesOwn.never (pt_cmpR op_ne (pv 3) (pe_glob (v := .int 0) rfl c__ROOT ⟨_, rfl⟩) (nomark _))
  (pss_cons (ps_asg (pe_dget (hu_of hr) (pe_fld (pv 0) rfl) (pv 3) (fun _ _ => rfl)) (pg_tup (by rfl) (pgs_cons (pg_name (i := 3) sc_Tree_names_of.nd rfl (.inl rfl)) (pgs_cons (pg_name (i := 4) sc_Tree_names_of.nd rfl (.inl rfl)) pgs_nil))))
  (pss_one (ps_expr (pe_bm PySem.F.plainAttrs_list PySem.F.slot_list_append PySem.F.type_list_append mt_append (pv 2) (pa_cons (pv 4) pa_nil))))))
  (pss_one (ps_ret (pe_revL (pv 2))))))), ?_⟩
    obtain ⟨dx, nl, pl, hA⟩ := tr_open hA
    refine qe_lst hA (el_lst ea_nil (by decide)) fun pp H1 hA => ?_
    refine qe_asg hA (ev_var rfl) fun H2 hA => ?_
    refine q_while (fun m σ' H' => ∃ (k : Nat) (n1 : Nd) (xs : List Str) (B' : Hp) (y4 : Option V), m = n1.path.length ∧ σ' = [some (.ref t), some (.int (i : Int)), some (.ref pp), some (.int (k : Int)), y4] ∧ Ex B B' ∧ At B' (Pt pp (.lst (xs.map V.str)) :: Pt t (.ins CT dx (TrF nl pl)) :: Pt nl (.lst (adL ns)) :: DctM K pl (plc ns) :: Each ns (NdM K CF CD) :: Fr) H' ∧ ns[k]? = some n1 ∧ n.path = n1.path ++ xs.reverse) n.path.length ⟨i, n, [], B, _, rfl, rfl, Ex.refl B, hA, hn, (List.append_nil _).symm⟩ (fun m σ' H' hw => ?_)
    obtain ⟨k, n1, xs, B', y4, rfl, rfl, b1, hA, hk, hp⟩ := hw
    refine ⟨!decide ((k : Int) = 0), et_test (ev_op (ev_var rfl) ev_c rv_neI), fun hb H3 e3 => ?_, fun hb H3 e3 => ?_⟩
    · have h0 : k ≠ 0 := by
        have := of_decide_eq_false (bnot_t hb)
        omega
      obtain ⟨o, ho, hpo⟩ := hP.par k n1 h0 hk
      refine ⟨fun σ2 H2 => ∃ m', m' < n1.path.length ∧ ∃ (k : Nat) (n1 : Nd) (xs : List Str) (B' : Hp) (y4 : Option V), m' = n1.path.length ∧ σ2 = [some (.ref t), some (.int (i : Int)), some (.ref pp), some (.int (k : Int)), y4] ∧ Ex B B' ∧ At B' (Pt pp (.lst (xs.map V.str)) :: Pt t (.ins CT dx (TrF nl pl)) :: Pt nl (.lst (adL ns)) :: DctM K pl (plc ns) :: Each ns (NdM K CF CD) :: Fr) H2 ∧ ns[k]? = some n1 ∧ n.path = n1.path ++ xs.reverse, fun σ2 H2 h => h, ?_⟩
      refine q_place 3 rfl (at_ex hA e3) h0 hk (fun _ _ _ h => ev_fld (K := K) (ev_var rfl) (at_get (a := t) 1 rfl h) L.cl L.nP rfl) (fun _ _ _ h => ev_var rfl) fun B2 H4 b2 hA => ?_
      have hxl : xs.length ≤ n.path.length := by rw [hp, List.length_append, List.length_reverse]; omega
      refine se_app (v := .str n1.nm) 0 rfl hA (ev_var rfl) (ev_var rfl) (by rw [List.length_map]; omega) fun H5 hA => ?_
      have e : xs.map V.str ++ [V.str n1.nm] = (xs ++ [n1.nm]).map V.str := by rw [List.map_append]; rfl
      refine ⟨o.path.length, by rw [hpo, List.length_append]; exact Nat.lt_succ_self _, n1.par, o, xs ++ [n1.nm], B2, _, rfl, rfl, b1.trans b2, e ▸ hA, ho, ?_⟩
      rw [hp, hpo, List.reverse_append, List.append_assoc]
      rfl
    · have h0 : k = 0 := by
        have := of_decide_eq_true (bnot_f hb)
        omega
      subst h0
      have hz := hP.zero hk
      rw [hz, List.nil_append] at hp
      have hA := at_ex hA e3
      refine r_do (go_revL (go_ev (ev_var rfl) fun H4 e4 => ⟨pp, xs.map V.str, rfl, sq_of (at_get (a := pp) 0 rfl (at_ex hA e4)), fun p np => ?_⟩))
      rw [← List.map_reverse, ← hp]
      have hA := at_new (o := .lst (n.path.map V.str)) (at_ex hA e4) np (Ex.new np) upd_same
      have hA : At B' (TrM K CT CF CD t ns :: Pt p (.lst (n.path.map V.str)) :: Pt pp (.lst (xs.map V.str)) :: Fr) _ := tr_close (at_ix 6 [2, 3, 4, 5, 0, 1] hA)
      have hA : At B' (Pt pp (.lst (xs.map V.str)) :: Pt p (.lst (n.path.map V.str)) :: TrM K CT CF CD t ns :: Fr) _ := at_ix 3 [2, 1, 0] hA
      exact q p B' _ b1 (at_drop hA)
/-- the nodes above a node -/
def AbvOk (ns : List Nd) (pth : List Str) (js : List Nat) : Prop := js.length = pth.length ∧ ∀ k j, js[k]? = some j → ∃ m, ns[j]? = some m ∧ m.path = pth.take (pth.length - 1 - k)
def spTrV (K : PySem.W.Frag) (CT CF CD : Addr) : Sp := fun vs H Q _ => ∃ (t : Addr) (i : Nat) (ns : List Nd) (n : Nd) (B : Hp) (F : List MP), vs = [.ref t, .int (i : Int)] ∧ At B (TrM K CT CF CD t ns :: F) H ∧ PthOk ns ∧ ns[i]? = some n ∧ n.path.length < 1000 ∧
  ∀ p js B1 H1, Ex B B1 → AbvOk ns n.path js → At B1 (Pt p (.lst (js.map fun j : Nat => V.int (j : Int))) :: TrM K CT CF CD t ns :: F) H1 → Q (.ref p) H1
theorem ok_trabove {f CT CF CD : Addr} {fd : FuncData} {tR : Tok} (F : Fun K "above" "Tree.above" s_Tree_above f fd) (c__ROOT : mg "_ROOT" = some (.int 0 tR)) (L : TrC K CT) (T : Glo mg) : FnOk P w K mg base CX0 1 f fd ["self", "number"] (spTrV K CT CF CD) := by
  refine F.ok sc_Tree_above (fun vs H Q E h => ?_) (fun cdv A outer s H vs Q E hr h => ?_)
  · obtain ⟨t, i, ns, n, B, Fr, rfl, _⟩ := h
    rfl
  · obtain ⟨t, i, ns, n, B, Fr, rfl, hA, hP, hn, hpl, q⟩ := h
    refine ⟨_, (pss_cons (ps_set (i := 2) sc_Tree_above.nd rfl (.inl rfl) (pe_lst pa_nil))
  (pss_cons (ps_set (i := 3) sc_Tree_above.nd rfl (.inl rfl) (pv 1))
  (pss_cons (ps_while PassesOwn.never (pt_cmpR op_ne (pv 3) (pe_glob (v := .int 0) rfl c__ROOT ⟨_, rfl⟩) (nomark _))
  (pss_cons (ps_asg (pe_dget (hu_of hr) (pe_fld (pv 0) rfl) (pv 3) (fun _ _ => rfl)) (pg_tup (by rfl) (pgs_cons (pg_name (i := 3) sc_Tree_above.nd rfl (.inl rfl)) (pgs_cons (pg_name (i := 4) sc_Tree_above.nd rfl (.inl rfl)) pgs_nil))))
  (pss_one (ps_expr (pe_bm PySem.F.plainAttrs_list PySem.F.slot_list_append PySem.F.type_list_append mt_append (pv 2) (pa_cons (pv 3) pa_nil))))))
  (pss_one (ps_ret (pv 2)))))), ?_⟩
    obtain ⟨dx, nl, pl, hA⟩ := tr_open hA
    refine qe_lst hA (el_lst ea_nil (by decide)) fun pp H1 hA => ?_
    refine qe_asg hA (ev_var rfl) fun H2 hA => ?_
    refine q_while (fun m σ' H' => ∃ (k : Nat) (n1 : Nd) (js : List Nat) (B' : Hp) (y4 : Option V), m = n1.path.length ∧ σ' = [some (.ref t), some (.int (i : Int)), some (.ref pp), some (.int (k : Int)), y4] ∧ Ex B B' ∧ At B' (Pt pp (.lst (js.map fun j : Nat => V.int (j : Int))) :: Pt t (.ins CT dx (TrF nl pl)) :: Pt nl (.lst (adL ns)) :: DctM K pl (plc ns) :: Each ns (NdM K CF CD) :: Fr) H' ∧ ns[k]? = some n1 ∧ n1.path = n.path.take n1.path.length ∧ js.length + n1.path.length = n.path.length ∧ ∀ k j, js[k]? = some j → ∃ m, ns[j]? = some m ∧ m.path = n.path.take (n.path.length - 1 - k)) n.path.length ⟨i, n, [], B, _, rfl, rfl, Ex.refl B, hA, hn, (List.take_length).symm, Nat.zero_add _, fun k j h => by rw [List.getElem?_nil] at h; cases h⟩ (fun m σ' H' hw => ?_)
    obtain ⟨k, n1, js, B', y4, rfl, rfl, b1, hA, hk, hp, hl, hj⟩ := hw
    refine ⟨!decide ((k : Int) = 0), et_test (ev_op (ev_var rfl) ev_c rv_neI), fun hb H3 e3 => ?_, fun hb H3 e3 => ?_⟩
    · have h0 : k ≠ 0 := by
        have := of_decide_eq_false (bnot_t hb)
        omega
      obtain ⟨o, ho, hpo⟩ := hP.par k n1 h0 hk
      have hol : n1.path.length = o.path.length + 1 := by rw [hpo, List.length_append]; rfl
      have hop : o.path = n.path.take o.path.length := by
        have e1 : o.path = n1.path.take o.path.length := by rw [hpo, List.take_left]
        rw [hp, List.take_take, hol, Nat.min_eq_left (by omega)] at e1
        exact e1
      refine ⟨fun σ2 H2 => ∃ m', m' < n1.path.length ∧ ∃ (k : Nat) (n1 : Nd) (js : List Nat) (B' : Hp) (y4 : Option V), m' = n1.path.length ∧ σ2 = [some (.ref t), some (.int (i : Int)), some (.ref pp), some (.int (k : Int)), y4] ∧ Ex B B' ∧ At B' (Pt pp (.lst (js.map fun j : Nat => V.int (j : Int))) :: Pt t (.ins CT dx (TrF nl pl)) :: Pt nl (.lst (adL ns)) :: DctM K pl (plc ns) :: Each ns (NdM K CF CD) :: Fr) H2 ∧ ns[k]? = some n1 ∧ n1.path = n.path.take n1.path.length ∧ js.length + n1.path.length = n.path.length ∧ ∀ k j, js[k]? = some j → ∃ m, ns[j]? = some m ∧ m.path = n.path.take (n.path.length - 1 - k), fun σ2 H2 h => h, ?_⟩
      refine q_place 3 rfl (at_ex hA e3) h0 hk (fun _ _ _ h => ev_fld (K := K) (ev_var rfl) (at_get (a := t) 1 rfl h) L.cl L.nP rfl) (fun _ _ _ h => ev_var rfl) fun B2 H4 b2 hA => ?_
      refine se_app (v := .int (n1.par : Int)) 0 rfl hA (ev_var rfl) (ev_var rfl) (by rw [List.length_map]; omega) fun H5 hA => ?_
      have e : js.map (fun j : Nat => V.int (j : Int)) ++ [V.int (n1.par : Int)] = (js ++ [n1.par]).map (fun j : Nat => V.int (j : Int)) := by rw [List.map_append]; rfl
      refine ⟨o.path.length, by omega, n1.par, o, js ++ [n1.par], B2, _, rfl, rfl, b1.trans b2, e ▸ hA, ho, hop, by rw [List.length_append]; show js.length + 1 + _ = _; omega, fun k' j' h' => ?_⟩
      rcases Nat.lt_or_ge k' js.length with hlt | hge
      · rw [List.getElem?_append_left hlt] at h'
        exact hj k' j' h'
      · rw [List.getElem?_append_right hge] at h'
        have hk' : k' - js.length = 0 := by
          have := (List.getElem?_eq_some_iff.mp h').1
          have : k' - js.length < 1 := this
          omega
        rw [hk'] at h'
        cases h'
        refine ⟨o, ho, ?_⟩
        rw [show n.path.length - 1 - k' = o.path.length by omega]
        exact hop
    · have h0 : k = 0 := by
        have := of_decide_eq_true (bnot_f hb)
        omega
      subst h0
      have hz := hP.zero hk
      rw [hz] at hl
      have hA := at_ex hA e3
      exact s_ret (ev_var rfl) fun H4 e4 => q pp js B' H4 b1 ⟨hl, hj⟩ (at_swap (tr_close (at_ix 5 [1, 2, 3, 4, 0] (at_ex hA e4))))
theorem valV_some {l : List (Str × V)} {z : Str} {v : V} (h : valV l z = some v) : z ∈ l.map (·.1) := by
  unfold valV at h
  cases hf : l.find? fun kv => decide (kv.1 = z) with
  | none => rw [hf] at h; cases h
  | some p =>
    have h1 := List.find?_some hf
    have h2 := of_decide_eq_true h1
    exact List.mem_map.mpr ⟨p, List.mem_of_find?_eq_some hf, h2⟩
theorem valV_mem {l : List (Str × V)} {z : Str} (h : z ∈ l.map (·.1)) : ∃ v, valV l z = some v := by
  unfold valV
  cases hf : l.find? fun kv => decide (kv.1 = z) with
  | none =>
    obtain ⟨p, hp, rfl⟩ := List.mem_map.mp h
    exact (List.find?_eq_none.mp hf p hp (decide_eq_true rfl)).elim
  | some p => exact ⟨p.2, rfl⟩
theorem valV_drop (l : List (Str × V)) (z y : Str) : valV (dropK l z) y = if y = z then none else valV l y := by
  induction l with
  | nil =>
    show none = if y = z then none else none
    rw [ite_self]
  | cons p r ih =>
    unfold dropK at ih ⊢
    rw [List.filter_cons]
    by_cases hp : p.1 = z
    · rw [if_neg (by simp [hp]), ih]
      by_cases hy : y = z
      · rw [if_pos hy, if_pos hy]
      · rw [if_neg hy, if_neg hy, valV_neg (fun e => hy (e.symm.trans hp))]
    · rw [if_pos (by simp [hp])]
      by_cases hy : p.1 = y
      · rw [valV_pos hy, valV_pos hy, if_neg (fun e => hp (hy.trans e))]
      · rw [valV_neg hy, valV_neg hy]
        exact ih
theorem putK_le (l : List (Str × V)) (z : Str) (v : V) : (putK l z v).length ≤ l.length + 1 := by
  unfold putK
  split
  · rw [List.length_map]; omega
  · rw [List.length_append]; exact Nat.le_refl _
/-- inside -/
def inB (p q : List Str) : Bool := decide (q.take p.length = p)
theorem inB_iff {p q : List Str} : inB p q = true ↔ ∃ r, q = p ++ r := by
  unfold inB
  rw [decide_eq_true_iff]
  constructor
  · intro h
    refine ⟨q.drop p.length, ?_⟩
    have e := List.take_append_drop p.length q
    rw [h] at e
    exact e.symm
  · rintro ⟨r, rfl⟩
    exact List.take_left
structure Wf (ns : List Nd) : Prop where
  root : ∃ r, ns[0]? = some r ∧ r.file = false ∧ r.path = []
  par : ∀ (i : Nat) (n : Nd), i ≠ 0 → ns[i]? = some n → ∃ o, ns[n.par]? = some o ∧ o.file = false ∧ n.path = o.path ++ [n.nm] ∧ valV o.l n.nm = some (.int (i : Int))
  ent : ∀ (j : Nat) (o : Nd) (z : Str) (v : V), ns[j]? = some o → o.file = false → valV o.l z = some v → ∃ (i : Nat) (n : Nd), v = .int (i : Int) ∧ i ≠ 0 ∧ ns[i]? = some n ∧ n.par = j ∧ n.nm = z
  uniq : ∀ (i j : Nat) (n m : Nd), ns[i]? = some n → ns[j]? = some m → n.path = m.path → i = j
  keys : ∀ n ∈ ns, (n.l.map (·.1)).Nodup
theorem Wf.pth {ns : List Nd} (W : Wf ns) : PthOk ns := ⟨by
  obtain ⟨r, h1, _, h2⟩ := W.root
  exact ⟨r, h1, h2⟩, fun i n h0 hn => by
  obtain ⟨o, h1, _, h2, _⟩ := W.par i n h0 hn
  exact ⟨o, h1, h2⟩⟩
theorem Wf.entOk {ns : List Nd} (W : Wf ns) : EntOk ns := fun n hn hf z v hv => by
  obtain ⟨j, hj⟩ := List.getElem?_of_mem hn
  obtain ⟨i, m, rfl, _, hm, _⟩ := W.ent j n z v hj hf hv
  exact ⟨i, rfl, (List.getElem?_eq_some_iff.mp hm).1⟩
theorem Wf.pos {ns : List Nd} (W : Wf ns) : 0 < ns.length := by
  obtain ⟨r, h1, _⟩ := W.root
  exact (List.getElem?_eq_some_iff.mp h1).1
/-- what stands in a folder under a name -/
theorem Wf.child {ns : List Nd} (W : Wf ns) {i j : Nat} {n m : Nd} {z : Str} (hn : ns[i]? = some n) (hm : ns[j]? = some m) (hp : m.path = n.path ++ [z]) : n.file = false ∧ valV n.l z = some (.int (j : Int)) := by
  have h0 : j ≠ 0 := by
    rintro rfl
    have := W.pth.zero hm
    rw [this] at hp
    cases hh : n.path <;> rw [hh] at hp <;> cases hp
  obtain ⟨o, ho, hof, hpo, hv⟩ := W.par j m h0 hm
  rw [hp] at hpo
  obtain ⟨e1, e2⟩ := List.append_inj' hpo rfl
  cases e2
  have := W.uniq i m.par n o hn ho e1
  subst this
  rw [hn] at ho
  cases ho
  exact ⟨hof, hv⟩
theorem Wf.kid {ns : List Nd} (W : Wf ns) {i : Nat} {n : Nd} {z : Str} {v : V} (hn : ns[i]? = some n) (hf : n.file = false) (hv : valV n.l z = some v) : ∃ (j : Nat) (m : Nd), v = .int (j : Int) ∧ ns[j]? = some m ∧ m.path = n.path ++ [z] := by
  obtain ⟨j, m, rfl, h0, hm, e1, e2⟩ := W.ent i n z v hn hf hv
  obtain ⟨o, ho, _, hp, _⟩ := W.par j m h0 hm
  rw [e1, hn] at ho
  cases ho
  exact ⟨j, m, rfl, hm, by rw [hp, e2]⟩
/-- what leads to a node is a node -/
theorem Wf.above {ns : List Nd} (W : Wf ns) : ∀ (k : Nat) (i : Nat) (n : Nd) (q r : List Str), r.length = k → ns[i]? = some n → n.path = q ++ r → ∃ (j : Nat) (m : Nd), ns[j]? = some m ∧ m.path = q
  | 0, i, n, q, r, hk, hn, hp => ⟨i, n, hn, by rw [hp, List.eq_nil_of_length_eq_zero hk, List.append_nil]⟩
  | k + 1, i, n, q, r, hk, hn, hp => by
    have hr : r ≠ [] := fun e => by rw [e] at hk; cases hk
    have h0 : i ≠ 0 := by
      rintro rfl
      have := W.pth.zero hn
      rw [this] at hp
      exact hr (List.append_eq_nil_iff.mp hp.symm).2
    obtain ⟨o, ho, _, hpo⟩ := W.par i n h0 hn
    have e : r = r.dropLast ++ [r.getLast hr] := (List.dropLast_concat_getLast hr).symm
    rw [hpo.1, e, ← List.append_assoc] at hp
    exact W.above k n.par o q r.dropLast (by rw [List.length_dropLast]; omega) ho (List.append_inj' hp rfl).1
def szN (n : Nd) : Int := if n.file = true then (flN n.ps : Int) else 0
def szT (ns : List Nd) (p : List Str) : Int := (ns.map fun m => if inB p m.path = true then szN m else 0).sum
def Hgt (ns : List Nd) (p : List Str) (h : Int) : Prop := (∃ m ∈ ns, inB p m.path = true ∧ (m.path.length : Int) = (p.length : Int) + h) ∧ ∀ m ∈ ns, inB p m.path = true → (m.path.length : Int) ≤ (p.length : Int) + h
theorem sum_no {α : Type} [DecidableEq α] (x : α) (c : Int) : ∀ xs : List α, x ∉ xs → (xs.map fun y => if y = x then c else 0).sum = 0
  | [], _ => rfl
  | y :: r, h => by
    rw [List.map_cons, List.sum_cons, if_neg (fun e => h (by rw [e]; exact List.mem_cons_self)), sum_no x c r (fun e => h (List.mem_cons_of_mem _ e))]
    rfl
theorem sum_one {α : Type} [DecidableEq α] (x : α) (c : Int) : ∀ xs : List α, xs.Nodup → x ∈ xs → (xs.map fun y => if y = x then c else 0).sum = c
  | [], _, h => nomatch h
  | y :: r, hn, h => by
    obtain ⟨h1, h2⟩ := List.nodup_cons.mp hn
    rw [List.map_cons, List.sum_cons]
    by_cases e : y = x
    · subst e
      rw [if_pos rfl, sum_no y c r h1, Int.add_zero]
    · rw [if_neg e, Int.zero_add]
      exact sum_one x c r h2 ((List.mem_cons.mp h).resolve_left (fun z => e z.symm))
theorem sum_zero {α : Type} {f : α → Int} : ∀ xs : List α, (∀ x ∈ xs, f x = 0) → (xs.map f).sum = 0
  | [], _ => rfl
  | y :: r, h => by rw [List.map_cons, List.sum_cons, h y List.mem_cons_self, sum_zero r (fun x hx => h x (List.mem_cons_of_mem _ hx))]; rfl
theorem sum_add {α : Type} {f g : α → Int} : ∀ xs : List α, (xs.map fun x => f x + g x).sum = (xs.map f).sum + (xs.map g).sum
  | [] => rfl
  | y :: r => by rw [List.map_cons, List.map_cons, List.map_cons, List.sum_cons, List.sum_cons, List.sum_cons, sum_add r]; omega
theorem sum_swap {α β : Type} (f : α → β → Int) (ys : List β) : ∀ xs : List α, (xs.map fun x => (ys.map fun y => f x y).sum).sum = (ys.map fun y => (xs.map fun x => f x y).sum).sum
  | [] => (sum_zero ys fun _ _ => rfl).symm
  | x :: r => by
    rw [List.map_cons, List.sum_cons, sum_swap f ys r, ← sum_add]
    rfl
theorem inB_self (p : List Str) : inB p p = true := inB_iff.mpr ⟨[], (List.append_nil p).symm⟩
theorem inB_trans {p : List Str} {z : Str} {q : List Str} (h : inB (p ++ [z]) q = true) : inB p q = true := by
  obtain ⟨r, rfl⟩ := inB_iff.mp h
  exact inB_iff.mpr ⟨z :: r, by rw [List.append_assoc]; rfl⟩
/-- nothing stands inside a file -/
theorem Wf.leaf {ns : List Nd} (W : Wf ns) {i j : Nat} {n m : Nd} (hn : ns[i]? = some n) (hf : n.file = true) (hm : ns[j]? = some m) (h : inB n.path m.path = true) : i = j := by
  obtain ⟨r, hr⟩ := inB_iff.mp h
  cases r with
  | nil => exact W.uniq i j n m hn hm (by rw [hr, List.append_nil])
  | cons z r =>
    obtain ⟨k, o, ho, hp⟩ := W.above r.length j m (n.path ++ [z]) r rfl hm (by rw [hr, List.append_assoc]; rfl)
    have := (W.child hn ho hp).1
    rw [hf] at this
    cases this
theorem Wf.nodup {ns : List Nd} (W : Wf ns) : (ns.map (·.path)).Nodup := by
  refine List.pairwise_iff_getElem.mpr fun i j hi hj hij e => ?_
  rw [List.length_map] at hi hj
  rw [List.getElem_map, List.getElem_map] at e
  have := W.uniq i j _ _ (List.getElem?_eq_getElem hi) (List.getElem?_eq_getElem hj) e
  omega
theorem Wf.szLeaf {ns : List Nd} (W : Wf ns) {i : Nat} {n : Nd} (hn : ns[i]? = some n) (hf : n.file = true) : szT ns n.path = szN n := by
  have e : (ns.map fun m => if inB n.path m.path = true then szN m else 0) = (ns.map (·.path)).map fun q => if q = n.path then szN n else 0 := by
    rw [List.map_map]
    refine List.map_congr_left fun m hm => ?_
    obtain ⟨j, hj⟩ := List.getElem?_of_mem hm
    show _ = if m.path = n.path then szN n else 0
    by_cases h : inB n.path m.path = true
    · have := W.leaf hn hf hj h
      subst this
      rw [hn] at hj
      cases hj
      rw [if_pos h, if_pos rfl]
    · rw [if_neg h, if_neg (fun e => h (by rw [e]; exact inB_self _))]
  unfold szT
  rw [e]
  exact sum_one _ _ _ W.nodup (List.mem_map.mpr ⟨n, List.mem_of_getElem? hn, rfl⟩)
theorem Wf.hgLeaf {ns : List Nd} (W : Wf ns) {i : Nat} {n : Nd} (hn : ns[i]? = some n) (hf : n.file = true) : Hgt ns n.path 0 := ⟨⟨n, List.mem_of_getElem? hn, inB_self _, (Int.add_zero _).symm⟩, fun m hm h => by
  obtain ⟨j, hj⟩ := List.getElem?_of_mem hm
  have := W.leaf hn hf hj h
  subst this
  rw [hn] at hj
  cases hj
  omega⟩
/-- below a folder: one step -/
theorem Wf.step {ns : List Nd} (W : Wf ns) {i j : Nat} {n m : Nd} (hn : ns[i]? = some n) (hm : ns[j]? = some m) (h : inB n.path m.path = true) : m = n ∨ ∃ z, z ∈ n.l.map (·.1) ∧ inB (n.path ++ [z]) m.path = true ∧ ∀ y, inB (n.path ++ [y]) m.path = true → y = z := by
  obtain ⟨r, hr⟩ := inB_iff.mp h
  cases r with
  | nil =>
    have := W.uniq i j n m hn hm (by rw [hr, List.append_nil])
    subst this
    rw [hn] at hm
    cases hm
    exact .inl rfl
  | cons z r =>
    have e : m.path = (n.path ++ [z]) ++ r := by rw [hr, List.append_assoc]; rfl
    obtain ⟨k, o, ho, hp⟩ := W.above r.length j m (n.path ++ [z]) r rfl hm e
    refine .inr ⟨z, valV_some (W.child hn ho hp).2, inB_iff.mpr ⟨r, e⟩, fun y hy => ?_⟩
    obtain ⟨r2, h2⟩ := inB_iff.mp hy
    rw [e, List.append_assoc, List.append_assoc] at h2
    have := List.append_cancel_left h2
    cases this
    rfl
theorem inB_more (p : List Str) (z : Str) : inB (p ++ [z]) p = false := by
  cases h : inB (p ++ [z]) p with
  | false => rfl
  | true =>
    obtain ⟨r, hr⟩ := inB_iff.mp h
    have := congrArg List.length hr
    rw [List.length_append, List.length_append] at this
    simp at this
    omega
theorem Wf.szNode {ns : List Nd} (W : Wf ns) {i : Nat} {n : Nd} (hn : ns[i]? = some n) (hf : n.file = false) {ys : List Str} (hy : ys.Perm (n.l.map (·.1))) : (ys.map fun z => szT ns (n.path ++ [z])).sum = szT ns n.path := by
  unfold szT
  rw [← sum_swap (fun m z => if inB (n.path ++ [z]) m.path = true then szN m else 0) ys ns]
  congr 1
  refine List.map_congr_left fun m hm => ?_
  obtain ⟨j, hj⟩ := List.getElem?_of_mem hm
  have hnd : ys.Nodup := hy.nodup_iff.mpr (W.keys n (List.mem_of_getElem? hn))
  by_cases h : inB n.path m.path = true
  · rw [if_pos h]
    rcases W.step hn hj h with rfl | ⟨z, hz, h1, h2⟩
    · rw [sum_zero ys (fun y _ => if_neg (by rw [inB_more]; decide))]
      unfold szN
      rw [if_neg (by rw [hf]; decide)]
    · have : (ys.map fun y => if inB (n.path ++ [y]) m.path = true then szN m else 0) = ys.map fun y => if y = z then szN m else 0 := by
        refine List.map_congr_left fun y _ => ?_
        by_cases e : y = z
        · subst e
          rw [if_pos h1, if_pos rfl]
        · rw [if_neg (fun h3 => e (h2 y h3)), if_neg e]
      rw [this]
      exact sum_one z _ ys hnd (hy.mem_iff.mpr hz)
  · rw [if_neg h]
    exact sum_zero ys fun y _ => if_neg fun h2 => h (inB_trans h2)
theorem foldl_max : ∀ (xs : List Int) (a : Int), (xs.foldl max a = a ∨ xs.foldl max a ∈ xs) ∧ a ≤ xs.foldl max a ∧ ∀ x ∈ xs, x ≤ xs.foldl max a
  | [], a => ⟨.inl rfl, Int.le_refl a, fun x h => nomatch h⟩
  | b :: r, a => by
    obtain ⟨h1, h2, h3⟩ := foldl_max r (max a b)
    refine ⟨?_, Int.le_trans (Int.le_max_left a b) h2, fun x hx => ?_⟩
    · show r.foldl max (max a b) = a ∨ r.foldl max (max a b) ∈ b :: r
      rcases h1 with h1 | h1
      · rw [h1]
        rcases Int.le_total a b with h | h
        · rw [Int.max_eq_right h]; exact .inr List.mem_cons_self
        · rw [Int.max_eq_left h]; exact .inl rfl
      · exact .inr (List.mem_cons_of_mem _ h1)
    · rcases List.mem_cons.mp hx with rfl | hx
      · exact Int.le_trans (Int.le_max_right _ _) h2
      · exact h3 x hx
theorem Wf.hgNode {ns : List Nd} (W : Wf ns) {i : Nat} {n : Nd} (hn : ns[i]? = some n) (hf : n.file = false) {ys : List Str} (hy : ys.Perm (n.l.map (·.1))) {g : Str → Int} (hg : ∀ z ∈ ys, Hgt ns (n.path ++ [z]) (g z)) : Hgt ns n.path (mxD 0 (ys.map fun z => 1 + g z)) := by
  have hl : ∀ z, ((n.path ++ [z]).length : Int) = (n.path.length : Int) + 1 := fun z => by rw [List.length_append]; rfl
  have key : ∀ M : Int, (∀ z ∈ ys, 1 + g z ≤ M) → 0 ≤ M → ∀ m ∈ ns, inB n.path m.path = true → (m.path.length : Int) ≤ (n.path.length : Int) + M := fun M h1 h2 m hm h => by
    obtain ⟨j, hj⟩ := List.getElem?_of_mem hm
    rcases W.step hn hj h with rfl | ⟨z, hz, h3, _⟩
    · omega
    · have hz := hy.mem_iff.mpr hz
      have := (hg z hz).2 m hm h3
      rw [hl] at this
      have := h1 z hz
      omega
  cases ys with
  | nil => exact ⟨⟨n, List.mem_of_getElem? hn, inB_self _, (Int.add_zero _).symm⟩, key 0 (fun z h => nomatch h) (Int.le_refl 0)⟩
  | cons y r =>
    show Hgt ns n.path ((r.map fun z => 1 + g z).foldl max (1 + g y))
    obtain ⟨h1, h2, h3⟩ := foldl_max (r.map fun z => 1 + g z) (1 + g y)
    generalize (r.map fun z => 1 + g z).foldl max (1 + g y) = M at h1 h2 h3 ⊢
    have at1 : ∃ z ∈ y :: r, 1 + g z = M := by
      rcases h1 with h1 | h1
      · exact ⟨y, List.mem_cons_self, h1.symm⟩
      · obtain ⟨z, hz, e⟩ := List.mem_map.mp h1
        exact ⟨z, List.mem_cons_of_mem _ hz, e⟩
    obtain ⟨z, hz, e⟩ := at1
    obtain ⟨⟨m, hm, a, b⟩, _⟩ := hg z hz
    rw [hl] at b
    refine ⟨⟨m, hm, inB_trans a, by omega⟩, key M (fun z hz => ?_) ?_⟩
    · rcases List.mem_cons.mp hz with rfl | hz
      · exact h2
      · exact h3 _ (List.mem_map.mpr ⟨z, hz, rfl⟩)
    · obtain ⟨s, hs⟩ := inB_iff.mp a
      have := congrArg List.length hs
      rw [List.length_append, List.length_append] at this
      simp at this
      omega
theorem go_prop {σ : L2.St} {H : Hp} {C : Addr} {sp : Sp} {E : XK} {ta : TE} {Q : VK} (h : ta σ H fun x H1 => ∃ d dx fs, x = .ref d ∧ H1 d = some (.ins C dx fs) ∧ sp [.ref d] H1 Q E) : tProp C sp [] E ta σ H Q := h
theorem given_mapV (v : Nat → V) : ∀ n : Nat, given n (fun _ => true) v = (List.range n).map v
  | 0 => rfl
  | n + 1 => by
    rw [given_yes rfl, given_mapV v n, List.range_succ, List.map_append]
    rfl
theorem range_at {α β : Type} (g : α → β) (d : α) (ys : List α) : (List.range ys.length).map (fun i => g (ys.getD i d)) = ys.map g := by
  refine List.ext_getElem? fun i => ?_
  rw [List.getElem?_map, List.getElem?_map]
  rcases Nat.lt_or_ge i ys.length with h | h
  · rw [List.getElem?_range h, List.getElem?_eq_getElem h]
    show some (g (ys.getD i d)) = some (g ys[i])
    rw [List.getD_eq_getElem?_getD, List.getElem?_eq_getElem h]
    rfl
  · rw [List.getElem?_eq_none h, List.getElem?_eq_none (by rw [List.length_range]; exact h)]
    rfl
/-- a comprehension over a list that stands -/
theorem lc_leaf {σ : L2.St} {H : Hp} {α : Type} {p : Addr} {ys : List α} (e : α → V) (g : α → V) {te : TE} {j : Nat} {vs : List Nat} {Q : VK} (hp : H p = some (.lst (ys.map e))) (hz : ys.length ≤ 40000) (hw : ∀ x, wipe ((wipe σ vs).set j (some x)) vs = wipe σ vs)
    (he : ∀ y ∈ ys, ∀ H1, Ex H H1 → Ev te ((wipe σ vs).set j (some (e y))) H1 (g y)) (q : ∀ Dl H1, H Dl = none → Ex H H1 → H1 Dl = some (.lst (ys.map g)) → Q (.ref Dl) H1) : tLc (iList K fun _ H k => k (.ref p) H) (gName j) tYes te vs σ H Q := by
  cases ys with
  | nil => exact el_lcL (K := K) (tl := fun _ H k => k (.ref p) H) (xs := []) (fun _ => true) (fun _ => .non) (fun H1 e Q q => q H1 (Ex.refl H1)) (sq_of hp) (by decide) hw (fun i x H1 e1 h => nomatch h) (fun i x H1 e1 h => nomatch h) H (Ex.refl H) Q q
  | cons y r =>
    refine el_lcL (K := K) (tl := fun _ H k => k (.ref p) H) (xs := (y :: r).map e) (fun _ => true) (fun i => g ((y :: r).getD i y)) (fun H1 e Q q => q H1 (Ex.refl H1)) (sq_of hp) (by rw [List.length_map]; exact hz) hw (fun i x H1 e1 h => et_nil) (fun i x H1 e1 h _ => ?_) H (Ex.refl H) Q fun Dl H1 n1 e1 h1 => q Dl H1 n1 e1 ?_
    · rw [List.getElem?_map] at h
      cases hy : (y :: r)[i]? with
      | none => rw [hy] at h; cases h
      | some z =>
        rw [hy] at h
        cases h
        rw [List.getD_eq_getElem?_getD, hy]
        exact he z (List.mem_of_getElem? hy) H1 e1
    · rw [List.length_map, given_mapV, range_at] at h1
      exact h1
def spDrX (K : PySem.W.Frag) (C : Addr) : Sp := fun vs H Q _ => ∃ (d : Addr) (l : List (Str × V)) (lim : V) (B : Hp) (F : List MP), vs = [.ref d] ∧ At B (DrM K C d l lim :: F) H ∧ l.length < 64 ∧ ∀ (ys : List Str) (p : Addr) (H1 : Hp), ys.Perm (l.map (·.1)) → H p = none → Ex H H1 → H1 p = some (.lst (ys.map V.str)) → Q (.ref p) H1
theorem ok_drnamesX {f C : Addr} {fd : FuncData} (F : Fun K "names" "Directory.names" s_Directory_names f fd) (L : DrC K C) (T : Glo mg) : FnOk P w K mg base CX0 1 f fd ["self"] (spDrX K C) := by
  refine F.ok sc_Directory_names (fun vs H Q E h => ?_) (fun cdv A outer s H vs Q E hr h => ?_)
  · obtain ⟨d, l, lim, B, Fr, rfl, _⟩ := h
    rfl
  · obtain ⟨d, l, lim, B, Fr, rfl, hA, hl, q⟩ := h
    refine ⟨_, (pss_one (ps_ret (pe_callB (call_sortedD rfl) (by rfl) T.sorted (by decide +kernel) (pa_cons (pe_fld (pv 0) rfl) pa_nil)))), ?_⟩
    obtain ⟨dx, e, hA⟩ := dr_open hA
    exact r_do (go_cons (ev_fld (K := K) (ev_var rfl) (at_get 0 rfl hA) L.cl L.nE rfl) fun H1 e1 => go_nil ⟨e, _, l.map (·.1), rfl, .inl (at_get (a := e) 1 rfl (at_ex hA e1)), kvT_keys l, by rw [List.length_map]; exact hl, fun ys p hp hs np => q ys p _ hp (fresh_back e1 np) (e1.trans (Ex.new np)) upd_same⟩)
def kidV (l : List (Str × V)) (z : Str) : V := (valV l z).getD .non
def spCh (K : PySem.W.Frag) (C : Addr) : Sp := fun vs H Q _ => ∃ (d : Addr) (l : List (Str × V)) (lim : V) (B : Hp) (F : List MP), vs = [.ref d] ∧ At B (DrM K C d l lim :: F) H ∧ l.length < 64 ∧ ∀ (ys : List Str) (p : Addr) (H1 : Hp), ys.Perm (l.map (·.1)) → H p = none → Ex H H1 → H1 p = some (.lst (ys.map (kidV l))) → Q (.ref p) H1
theorem ok_children {f m1 m2 C : Addr} {fd md1 md2 : FuncData} (F : Fun K "_children" "_children" s__children f fd) (D_Directory_names : Dm K C "names" "Directory.names" s_Directory_names ["self"] m1 md1) (G_Directory_names : FnOk P w K mg base CX0 1 m1 md1 ["self"] (spDrX K C)) (D_Directory_child : Dm K C "child" "Directory.child" s_Directory_child ["self", "name"] m2 md2) (G_Directory_child : FnOk P w K mg base CX0 1 m2 md2 ["self", "name"] (spDrC K C)) (L_Directory : Kl K mg "Directory" C) (T : Glo mg) : FnOk P w K mg base CX0 2 f fd ["directory"] (spCh K C) := by
  refine F.ok sc__children (fun vs H Q E h => ?_) (fun cdv A outer s H vs Q E hr h => ?_)
  · obtain ⟨d, l, lim, B, Fr, rfl, _⟩ := h
    rfl
  · obtain ⟨d, l, lim, B, Fr, rfl, hA, hl, q⟩ := h
    refine ⟨_, (pss_one (ps_ret (pe_lc (own := [("name", 1)]) (g := gName 1) rfl sc__children.nd (pi_list (pe_meth0 (pv 0) L_Directory.cl D_Directory_names.m G_Directory_names (hr.mono (by decide)) D_Directory_names.b .nil pass0)) (blkOk_by (N := N__children) (sc := defScope s__children) (by decide +kernel)) (fun _ _ _ _ _ => (pg_name (i := 1) sc__children.nd rfl (.inl rfl))) (fun _ _ _ _ _ => pts_nil) (fun _ _ _ _ _ => (pe_meth (pv 0) L_Directory.cl D_Directory_child.m G_Directory_child (hr.mono (by decide)) D_Directory_child.b .nil pass0 (pa_cons (pv 1) pa_nil)))))), ?_⟩
    obtain ⟨dx, e, hd⟩ := dr_ins hA
    refine r_do (go_meth (ev_var rfl) hd rfl fun H1 e1 => go_nil ⟨d, l, lim, B, Fr, rfl, at_ex hA e1, hl, fun ys p H2 hp np e2 h2 => ?_⟩)
    have hyl : ys.length < 64 := by rw [hp.length_eq, List.length_map]; exact hl
    exact lc_leaf (K := K) V.str (kidV l) h2 (by omega) (fun _ => rfl) (fun y _ H3 e3 => ev_child (at_ex hA ((e1.trans e2).trans e3)) (ev_var rfl) (ev_var rfl)) fun Dl H3 n3 e3 h3 => q ys Dl H3 hp (fresh_back e1 (fresh_back e2 n3)) ((e1.trans e2).trans e3) h3
theorem go_ckw {σ : L2.St} {H : Hp} {r : List V → List V → Hp → VK → Prop} {t tk : L2.TA} {Q : VK} (h : t σ H fun vs H1 => tk σ H1 fun zs H2 => r vs zs H2 Q) : tCKw r t tk σ H Q := h
structure TrOk (ns : List Nd) : Prop where
  wf : Wf ns
  few : ∀ n ∈ ns, n.l.length < 64
  deep : ∀ n ∈ ns, n.path.length ≤ 6
theorem TrOk.kids {ns : List Nd} (O : TrOk ns) {i : Nat} {n : Nd} (hn : ns[i]? = some n) (hf : n.file = false) {z : Str} (hz : z ∈ n.l.map (·.1)) : ∃ (j : Nat) (m : Nd), kidV n.l z = .int (j : Int) ∧ ns[j]? = some m ∧ m.path = n.path ++ [z] := by
  obtain ⟨v, hv⟩ := valV_mem hz
  obtain ⟨j, m, rfl, hm, hp⟩ := O.wf.kid hn hf hv
  exact ⟨j, m, by unfold kidV; rw [hv]; rfl, hm, hp⟩
/-- every node has a height -/
theorem TrOk.hgt {ns : List Nd} (O : TrOk ns) : ∀ (k : Nat) (i : Nat) (n : Nd), ns[i]? = some n → 7 ≤ n.path.length + k → ∃ h, Hgt ns n.path h
  | 0, i, n, hn, hk => by
    have := O.deep n (List.mem_of_getElem? hn)
    omega
  | k + 1, i, n, hn, hk => by
    cases hf : n.file with
    | true => exact ⟨0, O.wf.hgLeaf hn hf⟩
    | false =>
      have hex : ∀ z, ∃ g, z ∈ n.l.map (·.1) → Hgt ns (n.path ++ [z]) g := fun z => by
        by_cases hz : z ∈ n.l.map (·.1)
        · obtain ⟨j, m, hj, hm, hmp⟩ := O.kids hn hf hz
          obtain ⟨g, hg⟩ := O.hgt k j m hm (by rw [hmp, List.length_append]; show 7 ≤ n.path.length + 1 + k; omega)
          exact ⟨g, fun _ => hmp ▸ hg⟩
        · exact ⟨0, fun h => absurd h hz⟩
      obtain ⟨g, hg⟩ := Classical.axiomOfChoice hex
      exact ⟨_, O.wf.hgNode hn hf (List.Perm.refl _) hg⟩
def spTrS (K : PySem.W.Frag) (CT CF CD : Addr) (d : Nat) : Sp := fun vs H Q _ => ∃ (t : Addr) (i : Nat) (ns : List Nd) (n : Nd) (B : Hp) (F : List MP), vs = [.ref t, .int (i : Int)] ∧ At B (TrM K CT CF CD t ns :: F) H ∧ TrOk ns ∧ ns[i]? = some n ∧ 6 ≤ n.path.length + d ∧ ∀ H1, Ex H H1 → Q (.int (szT ns n.path)) H1
theorem ok_trsize {f m1 m2 CT CF CD : Addr} {fd md1 md2 : FuncData} (D_Tree_size_of : Dm K CT "size_of" "Tree.size_of" s_Tree_size_of ["self", "number"] f fd) (D_File_length : Pr K CF "length" "File.length" s_File_length m1 md1) (G_File_length : FnOk P w K mg base CX0 1 m1 md1 ["self"] (spFlL K CF)) (D__children : Df K mg "_children" s__children ["directory"] m2 md2) (G__children : FnOk P w K mg base CX0 2 m2 md2 ["directory"] (spCh K CD)) (L_Directory : Kl K mg "Directory" CD) (L_File : Kl K mg "File" CF) (L_Tree : Kl K mg "Tree" CT) (DF : DF27 K mg) (L : TrC K CT) (T : Glo mg) : ∀ d : Nat, FnOk P w K mg base CX0 (d + 3) f fd ["self", "number"] (spTrS K CT CF CD d) := fun d => by
  have N := DF.c L_Directory L_File
  let C_File := CF
  have key : ∀ (d : Nat) (S : Sp), FnOk P w K mg base CX0 (d + 2) f fd ["self", "number"] S → (∀ m, d = m + 1 → S = spTrS K CT CF CD m) → FnOk P w K mg base CX0 (d + 3) f fd ["self", "number"] (spTrS K CT CF CD d) := fun d S G_Tree_size_of hSm => by
    refine D_Tree_size_of.F.ok sc_Tree_size_of (fun vs H Q E h => ?_) (fun cdv A outer s H vs Q E hr h => ?_)
    · obtain ⟨t, i, ns, n, B, Fr, rfl, _⟩ := h
      rfl
    · obtain ⟨t, i, ns, n, B, Fr, rfl, hA, O, hn, hd, q⟩ := h
      refine ⟨_, (pss_cons (ps_set (i := 2) sc_Tree_size_of.nd rfl (.inl rfl) (pe_ix ix_list (pe_fld (pv 0) rfl) (pv 1) (fun _ _ => rfl)))
  (pss_cons (ps_if (pt_val (pe_callB call_isi (by rfl) T.isinstance (by decide +kernel) (pa_cons (pv 2) (pa_cons (pe_glob (v := .ref C_File) (by rfl) L_File.g rfl) pa_nil))))
  (pss_one (ps_ret (pe_pr (pv 2) L_File.cl D_File_length G_File_length (hr.mono (by omega)) pass0 rfl)))
  pss_nil)
  (pss_one (ps_ret (pe_callB (cr_sum rfl) (by rfl) T.sum (by decide +kernel) (pa_cons (pe_lc (own := [("child", 3)]) (g := gName 3) rfl sc_Tree_size_of.nd (pi_list (pe_call G__children (hr.mono (by omega)) (by rfl) D__children.g D__children.F.kp D__children.b .nil pass0 (pa_cons (pv 2) pa_nil))) (blkOk_by (N := N_Tree_size_of) (sc := defScope s_Tree_size_of) (by decide +kernel)) (fun _ _ _ _ _ => (pg_name (i := 3) sc_Tree_size_of.nd rfl (.inl rfl))) (fun _ _ _ _ _ => pts_nil) (fun _ _ _ _ _ => (pe_meth (pv 0) L_Tree.cl D_Tree_size_of.m G_Tree_size_of (hr.mono (by omega)) D_Tree_size_of.b .nil pass0 (pa_cons (pv 3) pa_nil)))) pa_nil)))))), ?_⟩
      have hA0 := hA
      obtain ⟨dx, nl, pl, hA⟩ := tr_open hA
      have ht := at_get (a := t) 0 rfl hA
      refine q_asg (v := .ref n.ad) (ev_op (ev_fld (K := K) (ev_var rfl) (at_get (a := t) 0 rfl hA) L.cl L.nN rfl) (ev_var rfl) (rv_ixL (sq_of (at_get (a := nl) 1 rfl hA)) (atI_nat (j := i) (show (adL ns)[i]? = some (V.ref n.ad) by unfold adL; rw [List.getElem?_map, hn]; rfl)))) fun H2 e2 => ?_
      have hA := each_at (at_ix 4 [3, 0, 1, 2] (at_ex hA e2)) hn
      refine q_when (b := n.file) (et_B (ev_cb (ea_cons (ev_var rfl) (ea_cons ev_c ea_nil)) (nd_isF N hA))) (fun hb H3 e3 => ?_) (fun hb H3 e3 => ?_)
      · rw [nd_file hb] at hA
        obtain ⟨dx, fs, hf⟩ := fl_ins hA
        refine r_do (go_prop (go_ev (ev_var rfl) fun H4 e4 => ⟨n.ad, dx, _, rfl, (e3.trans e4) _ _ hf, n.ad, n.ps, false, B, _, rfl, at_ex hA (e3.trans e4), fun H5 e5 => ?_⟩))
        rw [O.wf.szLeaf hn hb] at q
        unfold szN at q
        rw [if_pos hb] at q
        exact q H5 (e2.trans (e3.trans (e4.trans e5)))
      · rw [nd_dir hb] at hA
        refine r_do (go_cbk (go_cons' (go_call (go_cons (ev_var rfl) fun H4 e4 => go_nil ⟨n.ad, n.l, n.lim, B, _, rfl, at_ex hA (e3.trans e4), O.few n (List.mem_of_getElem? hn), fun ys p H5 hp np e5 h5 => ?_⟩))))
        have e05 := e2.trans (e3.trans (e4.trans e5))
        have hyl : ys.length < 64 := by rw [hp.length_eq, List.length_map]; exact O.few n (List.mem_of_getElem? hn)
        show tLc (iList K fun _ H k => k (.ref p) H) (gName 3) tYes (tMeth CT "size_of" S [] E0 (tVar 0) (tCons (tVar 3) tNil)) [3] [some (.ref t), some (.int (i : Int)), some (.ref n.ad), none] H5 (fun v H1 => rSum K [v] H1 Q)
        refine lc_leaf (K := K) (kidV n.l) (fun z => .int (szT ns (n.path ++ [z]))) h5 (by omega) (fun _ => rfl) (fun z hz H6 e6 => ?_) fun Dl H6 n6 e6 h6 => ⟨Dl, _, rfl, sq_of (show H6 Dl = some (.lst ((ys.map fun z => szT ns (n.path ++ [z])).map V.int)) by rw [List.map_map]; exact h6), ?_⟩
        · obtain ⟨j, m, hj, hm, hmp⟩ := O.kids hn hb (hp.mem_iff.mp hz)
          have hml : m.path.length = n.path.length + 1 := by rw [hmp, List.length_append]; rfl
          have h6 := O.deep m (List.mem_of_getElem? hm)
          obtain ⟨d', rfl⟩ : ∃ d', d = d' + 1 := ⟨d - 1, by omega⟩
          have hS := hSm d' rfl
          subst hS
          intro H7 e7 Q' q'
          rw [hj]
          refine go_meth (ev_var rfl) ((e05.trans (e6.trans e7)) _ _ ht) rfl fun H8 e8 => go_cons (ev_var rfl) fun H9 e9 => go_nil ⟨t, j, ns, m, B, Fr, rfl, at_ex hA0 (e05.trans (e6.trans (e7.trans (e8.trans e9)))), O, hm, by omega, fun H10 e10 => ?_⟩
          rw [hmp]
          exact q' H10 (e8.trans (e9.trans e10))
        · rw [O.wf.szNode hn hb hp]
          exact q H6 (e05.trans e6)
  induction d with
  | zero => exact key 0 (fun _ _ _ _ => False) fn_false (fun m h => nomatch h)
  | succ d ih => exact key (d + 1) _ ih (fun m h => by cases h; rfl)
def spTrH (K : PySem.W.Frag) (CT CF CD : Addr) (d : Nat) : Sp := fun vs H Q _ => ∃ (t : Addr) (i : Nat) (ns : List Nd) (n : Nd) (B : Hp) (F : List MP), vs = [.ref t, .int (i : Int)] ∧ At B (TrM K CT CF CD t ns :: F) H ∧ TrOk ns ∧ ns[i]? = some n ∧ 6 ≤ n.path.length + d ∧ ∀ h H1, Hgt ns n.path h → Ex H H1 → Q (.int h) H1
theorem hgt_uniq {ns : List Nd} {p : List Str} {h g : Int} (a : Hgt ns p h) (b : Hgt ns p g) : h = g := by
  obtain ⟨⟨m, hm, h1, h2⟩, h3⟩ := a
  obtain ⟨⟨m', hm', g1, g2⟩, g3⟩ := b
  have := g3 m hm h1
  have := h3 m' hm' g1
  omega
/-- a comprehension whose values are not said beforehand -/
theorem ok_trheight {f m2 CT CF CD : Addr} {fd md2 : FuncData} (D_Tree_height_of : Dm K CT "height_of" "Tree.height_of" s_Tree_height_of ["self", "number"] f fd) (D__children : Df K mg "_children" s__children ["directory"] m2 md2) (G__children : FnOk P w K mg base CX0 2 m2 md2 ["directory"] (spCh K CD)) (L_Directory : Kl K mg "Directory" CD) (L_File : Kl K mg "File" CF) (L_Tree : Kl K mg "Tree" CT) (DF : DF27 K mg) (L : TrC K CT) (T : Glo mg) : ∀ d : Nat, FnOk P w K mg base CX0 (d + 3) f fd ["self", "number"] (spTrH K CT CF CD d) := fun d => by
  have N := DF.c L_Directory L_File
  let C_File := CF
  have key : ∀ (d : Nat) (S : Sp), FnOk P w K mg base CX0 (d + 2) f fd ["self", "number"] S → (∀ m, d = m + 1 → S = spTrH K CT CF CD m) → FnOk P w K mg base CX0 (d + 3) f fd ["self", "number"] (spTrH K CT CF CD d) := fun d S G_Tree_height_of hSm => by
    refine D_Tree_height_of.F.ok sc_Tree_height_of (fun vs H Q E h => ?_) (fun cdv A outer s H vs Q E hr h => ?_)
    · obtain ⟨t, i, ns, n, B, Fr, rfl, _⟩ := h
      rfl
    · obtain ⟨t, i, ns, n, B, Fr, rfl, hA, O, hn, hd, q⟩ := h
      refine ⟨_, (pss_cons (ps_set (i := 2) sc_Tree_height_of.nd rfl (.inl rfl) (pe_ix ix_list (pe_fld (pv 0) rfl) (pv 1) (fun _ _ => rfl)))
  (pss_cons (ps_if (pt_val (pe_callB call_isi (by rfl) T.isinstance (by decide +kernel) (pa_cons (pv 2) (pa_cons (pe_glob (v := .ref C_File) (by rfl) L_File.g rfl) pa_nil))))
  (pss_one (ps_ret pe_int))
  pss_nil)
  (pss_one (ps_ret (pe_callBK (cr_maxDef rfl (hu_of hr)) (by rfl) T.max (by decide +kernel) (pa_cons (pe_lc (own := [("child", 3)]) (g := gName 3) rfl sc_Tree_height_of.nd (pi_list (pe_call G__children (hr.mono (by omega)) (by rfl) D__children.g D__children.F.kp D__children.b .nil pass0 (pa_cons (pv 2) pa_nil))) (blkOk_by (N := N_Tree_height_of) (sc := defScope s_Tree_height_of) (by decide +kernel)) (fun _ _ _ _ _ => (pg_name (i := 3) sc_Tree_height_of.nd rfl (.inl rfl))) (fun _ _ _ _ _ => pts_nil) (fun _ _ _ _ _ => (pe_op op_add pe_int (pe_meth (pv 0) L_Tree.cl D_Tree_height_of.m G_Tree_height_of (hr.mono (by omega)) D_Tree_height_of.b .nil pass0 (pa_cons (pv 3) pa_nil))))) pa_nil) (pk_cons pe_int pk_nil)))))), ?_⟩
      have hA0 := hA
      obtain ⟨dx, nl, pl, hA⟩ := tr_open hA
      have ht := at_get (a := t) 0 rfl hA
      refine q_asg (v := .ref n.ad) (ev_op (ev_fld (K := K) (ev_var rfl) (at_get (a := t) 0 rfl hA) L.cl L.nN rfl) (ev_var rfl) (rv_ixL (sq_of (at_get (a := nl) 1 rfl hA)) (atI_nat (j := i) (show (adL ns)[i]? = some (V.ref n.ad) by unfold adL; rw [List.getElem?_map, hn]; rfl)))) fun H2 e2 => ?_
      have hA := each_at (at_ix 4 [3, 0, 1, 2] (at_ex hA e2)) hn
      refine q_when (b := n.file) (et_B (ev_cb (ea_cons (ev_var rfl) (ea_cons ev_c ea_nil)) (nd_isF N hA))) (fun hb H3 e3 => ?_) (fun hb H3 e3 => ?_)
      · exact s_ret ev_c fun H4 e4 => q 0 H4 (O.wf.hgLeaf hn hb) (e2.trans (e3.trans e4))
      · rw [nd_dir hb] at hA
        refine r_do (go_ckw (go_cons' (go_call (go_cons (ev_var rfl) fun H4 e4 => go_nil ⟨n.ad, n.l, n.lim, B, _, rfl, at_ex hA (e3.trans e4), O.few n (List.mem_of_getElem? hn), fun ys p H5 hp np e5 h5 => ?_⟩))))
        have e05 := e2.trans (e3.trans (e4.trans e5))
        have hyl : ys.length < 64 := by rw [hp.length_eq, List.length_map]; exact O.few n (List.mem_of_getElem? hn)
        have hex : ∀ z, ∃ g, z ∈ ys → Hgt ns (n.path ++ [z]) g := fun z => by
          by_cases hz : z ∈ ys
          · obtain ⟨j, m, hj, hm, hmp⟩ := O.kids hn hb (hp.mem_iff.mp hz)
            obtain ⟨g, hg⟩ := O.hgt 7 j m hm (by omega)
            exact ⟨g, fun _ => hmp ▸ hg⟩
          · exact ⟨0, fun h => absurd h hz⟩
        obtain ⟨g, hg⟩ := Classical.axiomOfChoice hex
        show tLc (iList K fun _ H k => k (.ref p) H) (gName 3) tYes (tOp (rI0 fun i j => .int (i + j)) (tC (.int 1)) (tMeth CT "height_of" S [] E0 (tVar 0) (tCons (tVar 3) tNil))) [3] [some (.ref t), some (.int (i : Int)), some (.ref n.ad), none] H5 (fun v H1 => rMaxDef K [v] [.int 0] H1 Q)
        refine lc_leaf (K := K) (kidV n.l) (fun z => .int (1 + g z)) h5 (by omega) (fun _ => rfl) (fun z hz H6 e6 => ?_) fun Dl H6 n6 e6 h6 => ⟨Dl, _, 0, rfl, rfl, sq_of (show H6 Dl = some (.lst ((ys.map fun z => 1 + g z).map V.int)) by rw [List.map_map]; exact h6), ?_⟩
        · obtain ⟨j, m, hj, hm, hmp⟩ := O.kids hn hb (hp.mem_iff.mp hz)
          have hml : m.path.length = n.path.length + 1 := by rw [hmp, List.length_append]; rfl
          have h6 := O.deep m (List.mem_of_getElem? hm)
          obtain ⟨d', rfl⟩ : ∃ d', d = d' + 1 := ⟨d - 1, by omega⟩
          have hS := hSm d' rfl
          subst hS
          refine ev_op (y := .int (g z)) ev_c (fun H7 e7 Q' q' => ?_) rv_I0
          rw [hj]
          exact go_meth (ev_var rfl) ((e05.trans (e6.trans e7)) _ _ ht) rfl fun H8 e8 => go_cons (ev_var rfl) fun H9 e9 => go_nil ⟨t, j, ns, m, B, Fr, rfl, at_ex hA0 (e05.trans (e6.trans (e7.trans (e8.trans e9)))), O, hm, by omega, fun h H10 hh e10 => by
            rw [hgt_uniq hh (hmp ▸ hg z hz)]
            exact q' H10 (e8.trans (e9.trans e10))⟩
        · exact q _ H6 (O.wf.hgNode hn hb hp hg) (e05.trans e6)
  induction d with
  | zero => exact key 0 (fun _ _ _ _ => False) fn_false (fun m h => nomatch h)
  | succ d ih => exact key (d + 1) _ ih (fun m h => by cases h; rfl)
theorem cutA_to25 {α : Type} (xs : List α) (m : Nat) : cutA xs none (some (m : Int)) = xs.take m := by
  unfold cutA
  rw [show HT.sIx xs.length xs.length (some ((m : Nat) : Int)) = min m xs.length from HT.sIx_nat xs.length _ m, HT.sIx_none, List.drop_zero, Nat.sub_zero]
  by_cases h : m ≤ xs.length
  · rw [Nat.min_eq_left h]
  · rw [Nat.min_eq_right (by omega), List.take_length, List.take_of_length_le (by omega)]
theorem NC_lt : ∀ c ∈ NC.cps.toList, c < 0x110000 := by decide +kernel
theorem nm_ok {z : Str} (h : nmS z = true) : PyData.strOk z = true := by
  obtain ⟨_, h2⟩ := Bool.and_eq_true_iff.mp h
  obtain ⟨_, h3⟩ := Bool.and_eq_true_iff.mp h2
  show z.cps.all (· < 0x110000) = true
  rw [← Array.all_toList]
  refine List.all_eq_true.mpr fun c hc => ?_
  have := List.all_eq_true.mp h3 c hc
  rw [nmC_eq] at this
  exact decide_eq_true (NC_lt c (of_decide_eq_true this))
theorem dp_strs {H : Hp} : ∀ (r : List Str), DpAll K H (r.map V.str) (r.map PyData.str)
  | [] => .nil
  | z :: r => .cons (.str z) (dp_strs r)
theorem sds_nm {r : List Str} (h : ∀ z ∈ r, nmS z = true) : Sds 1 (r.map PyData.str) := fun d hd => by
  obtain ⟨z, hz, rfl⟩ := List.mem_map.mp hd
  exact sd_str (nm_ok (h z hz))
theorem eqv_strs : ∀ (r o : List Str), PyData.eqvAll (r.map PyData.str) (o.map PyData.str) = decide (r = o)
  | [], [] => rfl
  | [], _ :: _ => rfl
  | _ :: _, [] => rfl
  | x :: r, y :: o => by
    show ((x == y) && PyData.eqvAll (r.map PyData.str) (o.map PyData.str)) = _
    rw [eqv_strs r o]
    by_cases h : x = y
    · subst h
      simp
    · simp [h]
/-- the law's rows: [kind, path, size] -/
def kdN (n : Nd) : Int := if n.file = true then 1 else 0
def rowV (n : Nd) : List V := [.int (kdN n), .ref n.pa, .int (szN n)]
def roL (ns : List Nd) : List V := ns.map fun n => V.ref n.ro
structure RwS (H : Hp) (nd : Addr) (ns : List Nd) : Prop where
  l : H nd = some (.lst (roL ns))
  r : ∀ n ∈ ns, H n.ro = some (.lst (rowV n))
  p : ∀ n ∈ ns, H n.pa = some (.lst (n.path.map V.str))
  m : ∀ n ∈ ns, ∀ z ∈ n.path, nmS z = true
  few : ns.length ≤ 1000
theorem RwS.ex {H H' : Hp} {nd : Addr} {ns : List Nd} (h : RwS H nd ns) (e : Ex H H') : RwS H' nd ns := ⟨e _ _ h.l, fun n hn => e _ _ (h.r n hn), fun n hn => e _ _ (h.p n hn), h.m, h.few⟩
theorem RwS.at_ {H : Hp} {nd : Addr} {ns : List Nd} (h : RwS H nd ns) {σ : L2.St} {ta tb : TE} {k : Nat} {n : Nd} (hn : ns[k]? = some n) (ha : Ev ta σ H (.ref nd)) (hb : Ev tb σ H (.int (k : Int))) : Ev (tOp (rIxL K) ta tb) σ H (.ref n.ro) := ev_op ha hb (rv_ixL (sq_of h.l) (atI_nat (j := k) (show (roL ns)[k]? = some (V.ref n.ro) by unfold roL; rw [List.getElem?_map, hn]; rfl)))
theorem RwS.row {H : Hp} {nd : Addr} {ns : List Nd} (h : RwS H nd ns) {σ : L2.St} {ta : TE} {n : Nd} (hn : n ∈ ns) {i : Int} {v : V} (hi : atI (rowV n) i = some v) (ha : Ev ta σ H (.ref n.ro)) : Ev (tOp (rIxL K) ta (tC (.int i))) σ H v := ev_op ha ev_c (rv_ixL (sq_of (h.r n hn)) hi)
theorem ev_eqP {σ : L2.St} {H : Hp} {t1 t2 : TE} {a b : Addr} {r o : List Str} (ht : Ev t1 σ H (.ref a)) (hS : H a = some (.lst (r.map V.str))) (hn : ∀ z ∈ r, nmS z = true) (hu : Ev t2 σ H (.ref b)) (hb : H b = some (.lst (o.map V.str))) (on : ∀ z ∈ o, nmS z = true) : Ev (tOp (rEqD K) t1 t2) σ H (.bl (decide (r = o))) :=
  ev_is (ev_eqD (K := K) (n := 2) (m := 2) (d := .list (r.map PyData.str)) (e := .list (o.map PyData.str)) (ed_of ht (.lst (sq_of hS) (dp_strs _))) (ed_of hu (.lst (sq_of hb) (dp_strs _))) (sd_list (sds_nm hn)) (sd_list (sds_nm on)) (by decide) (by decide)) (congrArg V.bl (eqv_strs _ _))
def LAt (ns : List Nd) (xs : List Str) (i : Int) : Prop := (∃ (k : Nat) (n : Nd), i = (k : Int) ∧ ns[k]? = some n ∧ n.path = xs) ∨ (i = -1 ∧ ∀ n ∈ ns, n.path ≠ xs)
def spLAt : Sp := fun vs H Q _ => ∃ (nd q : Addr) (ns : List Nd) (xs : List Str), vs = [.ref nd, .ref q] ∧ RwS H nd ns ∧ H q = some (.lst (xs.map V.str)) ∧ (∀ z ∈ xs, nmS z = true) ∧ ∀ i H1, LAt ns xs i → Ex H H1 → Q (.int i) H1
theorem ok_lat {f : Addr} {fd : FuncData} (F : Fun K "_law_at" "_law_at" s__law_at f fd) (T : Glo mg) : FnOk P w K mg base CX0 1 f fd ["nodes", "path"] spLAt := by
  refine F.ok sc__law_at (fun vs H Q E h => ?_) (fun cdv A outer s H vs Q E hr h => ?_)
  · obtain ⟨nd, q, ns, xs, rfl, _⟩ := h
    rfl
  · obtain ⟨nd, qa, ns, xs, rfl, hR, hq, hm, q⟩ := h
    refine ⟨_, (pss_cons (ps_for PassesOwn.never rfl (pi_range1 (by rfl) T.range (pa_cons (pe_callB call_len_seq (by rfl) T.len PySem.boot_len (pa_cons (pv 0) pa_nil)) pa_nil)) (pg_name (i := 2) sc__law_at.nd rfl (.inl rfl))
  (pss_one (ps_if (pt_cmpR (op_eqD hr.units) (pe_ix ix_list (pe_ix ix_list (pv 0) (pv 2) (fun _ _ => rfl)) pe_int (fun _ _ => rfl)) (pv 1) (nomark _))
  (pss_one (ps_ret (pv 2)))
  pss_nil)))
  (pss_one (ps_ret (pe_un un_neg pe_int)))), ?_⟩
    have hl : (roL ns).length = ns.length := List.length_map _
    refine q_forR1 (n := (ns.length : Int)) (ea_cons (ev_is (ev_cb (ea_cons (ev_var rfl) ea_nil) (rc_len (sq_of hR.l))) (by rw [hl])) ea_nil) (by have := hR.few; omega) (fun k σ' H' => ∃ y2 : Option V, σ' = [some (.ref nd), some (.ref qa), y2] ∧ Ex H H' ∧ ∀ j, j < k → ∀ n, ns[j]? = some n → n.path ≠ xs) (fun H4 e4 => ⟨none, rfl, e4, fun j hj => absurd hj (Nat.not_lt_zero j)⟩) (fun k σ' H' hk p => ?_) (fun σ' H' p => ?_)
    · obtain ⟨y2, rfl, e, hj⟩ := p
      have hkl : k < ns.length := by omega
      have hn : ns[k]? = some ns[k] := List.getElem?_eq_getElem hkl
      generalize ns[k] = n at hn
      have hR := hR.ex e
      have hnm := List.mem_of_getElem? hn
      refine s_when (b := decide (n.path = xs)) (et_test (ev_eqP (hR.row hnm (v := .ref n.pa) rfl (hR.at_ hn (ev_var rfl) (ev_var rfl))) (hR.p n hnm) (hR.m n hnm) (ev_var rfl) (e _ _ hq) hm)) (fun hb H5 e5 => ?_) (fun hb H5 e5 => ?_)
      · exact s_ret (ev_var rfl) fun H6 e6 => q _ H6 (.inl ⟨k, n, rfl, hn, of_decide_eq_true hb⟩) (e.trans (e5.trans e6))
      · refine ⟨_, rfl, e.trans e5, fun j hj' n' hn' => ?_⟩
        rcases Nat.lt_or_ge j k with h | h
        · exact hj j h n' hn'
        · have : j = k := by omega
          subst this
          rw [hn] at hn'
          cases hn'
          exact of_decide_eq_false hb
    · obtain ⟨y2, rfl, e, hj⟩ := p
      refine s_ret (v := .int (-1)) (ev_un ev_c ru_neg) fun H6 e6 => q (-1) H6 (.inr ⟨rfl, fun n hn => ?_⟩) (e.trans e6)
      obtain ⟨j, hjn⟩ := List.getElem?_of_mem hn
      have := (List.getElem?_eq_some_iff.mp hjn).1
      exact hj j (by omega) n hjn
def spLIn : Sp := fun vs H Q _ => ∃ (a b : Addr) (r o : List Str), vs = [.ref a, .ref b] ∧ H a = some (.lst (r.map V.str)) ∧ (∀ z ∈ r, nmS z = true) ∧ H b = some (.lst (o.map V.str)) ∧ (∀ z ∈ o, nmS z = true) ∧ RetV (.bl (inB o r)) H Q
theorem ok_linside {f : Addr} {fd : FuncData} (F : Fun K "_law_inside" "_law_inside" s__law_inside f fd) (T : Glo mg) : FnOk P w K mg base CX0 1 f fd ["path", "top"] spLIn := by
  refine F.ok sc__law_inside (fun vs H Q E h => ?_) (fun cdv A outer s H vs Q E hr h => ?_)
  · obtain ⟨a, b, r, o, rfl, _⟩ := h
    rfl
  · obtain ⟨a, b, r, o, rfl, ha, hn, hb, on, q⟩ := h
    refine ⟨_, (pss_one (ps_ret (pe_cmpR (op_eqD hr.units) (pe_slice sl_list (pv 0) po_none (po_some (pe_callB call_len_seq (by rfl) T.len PySem.boot_len (pa_cons (pv 1) pa_nil)))) (pv 1) (nomark _)))), ?_⟩
    exact s_ret (ev_is (ev_eqD (K := K) (n := 2) (m := 2) (d := .list ((r.take o.length).map PyData.str)) (e := .list (o.map PyData.str)) (ed_is (ed_new (en_slL (ed_of (ev_var rfl) (.lst (sq_of ha) (dp_strs _))) eo_none (eo_some (ev_lenD (ed_of (ev_var rfl) (.lst (sq_of hb) (dp_strs _))))))) (by rw [cutA_to25, List.length_map, ← List.map_take])) (ed_of (ev_var rfl) (.lst (sq_of hb) (dp_strs _))) (sd_list (sds_nm fun z hz => hn z (List.mem_of_mem_take hz))) (sd_list (sds_nm on)) (by decide) (by decide)) (congrArg V.bl (eqv_strs _ _))) q
theorem spLIn_v {a b : Addr} {r o : List Str} {H : Hp} (ha : H a = some (.lst (r.map V.str))) (hn : ∀ z ∈ r, nmS z = true) (hb : H b = some (.lst (o.map V.str))) (on : ∀ z ∈ o, nmS z = true) : SpV spLIn [.ref a, .ref b] H (.bl (inB o r)) := fun H1 e1 Q q E => ⟨a, b, r, o, rfl, e1 _ _ ha, hn, e1 _ _ hb, on, q⟩
theorem Wf.fresh {ns : List Nd} (W : Wf ns) {j : Nat} {p : Nd} {z : Str} (hp : ns[j]? = some p) (hf : p.file = false) (hx : ∀ n ∈ ns, n.path ≠ p.path ++ [z]) : valV p.l z = none := by
  cases hv : valV p.l z with
  | none => rfl
  | some v =>
    obtain ⟨i, m, _, hm, hpm⟩ := W.kid hp hf hv
    exact absurd hpm (hx m (List.mem_of_getElem? hm))
theorem Wf.attach {ns : List Nd} (W : Wf ns) {j : Nat} {p n : Nd} {z : Str} (hp : ns[j]? = some p) (hf : p.file = false) (hx : ∀ n ∈ ns, n.path ≠ p.path ++ [z]) (h1 : n.par = j) (h2 : n.nm = z) (h3 : n.path = p.path ++ [z]) (h4 : n.l = []) : Wf (ns.set j { p with l := putK p.l z (.int (ns.length : Int)) } ++ [n]) := by
  have hjl : j < ns.length := (List.getElem?_eq_some_iff.mp hp).1
  have hv0 := W.fresh hp hf hx
  have hlen : (ns.set j { p with l := putK p.l z (.int (ns.length : Int)) }).length = ns.length := List.length_set
  have C : (ns.set j { p with l := putK p.l z (.int (ns.length : Int)) } ++ [n])[ns.length]? = some n := by
    rw [List.getElem?_append_right (by rw [hlen]; exact Nat.le_refl _), hlen, Nat.sub_self]
    rfl
  have A : ∀ (i : Nat) (m : Nd), (ns.set j { p with l := putK p.l z (.int (ns.length : Int)) } ++ [n])[i]? = some m → (i < ns.length ∧ ∃ m0, ns[i]? = some m0 ∧ m.path = m0.path ∧ m.par = m0.par ∧ m.nm = m0.nm ∧ m.file = m0.file ∧ m.l = if i = j then putK m0.l z (.int (ns.length : Int)) else m0.l) ∨ (i = ns.length ∧ m = n) := fun i m hm => by
    rcases Nat.lt_or_ge i ns.length with h | h
    · rw [List.getElem?_append_left (by rw [hlen]; exact h)] at hm
      by_cases e : j = i
      · subst e
        rw [List.getElem?_set_self hjl] at hm
        cases hm
        exact .inl ⟨h, p, hp, rfl, rfl, rfl, rfl, (if_pos rfl).symm⟩
      · rw [List.getElem?_set_ne e] at hm
        exact .inl ⟨h, m, hm, rfl, rfl, rfl, rfl, (if_neg (fun x => e x.symm)).symm⟩
    · have : i < ns.length + 1 := by
        have := (List.getElem?_eq_some_iff.mp hm).1
        rw [List.length_append, hlen] at this
        exact this
      have hi : i = ns.length := by omega
      subst hi
      rw [C] at hm
      cases hm
      exact .inr ⟨rfl, rfl⟩
  have Bw : ∀ (i : Nat) (m0 : Nd), ns[i]? = some m0 → ∃ m, (ns.set j { p with l := putK p.l z (.int (ns.length : Int)) } ++ [n])[i]? = some m ∧ m.path = m0.path ∧ m.par = m0.par ∧ m.nm = m0.nm ∧ m.file = m0.file ∧ m.l = if i = j then putK m0.l z (.int (ns.length : Int)) else m0.l := fun i m0 hm => by
    have h := (List.getElem?_eq_some_iff.mp hm).1
    by_cases e : j = i
    · subst e
      rw [hp] at hm
      cases hm
      exact ⟨{ p with l := putK p.l z (.int (ns.length : Int)) }, by rw [List.getElem?_append_left (by rw [hlen]; exact h), List.getElem?_set_self hjl], rfl, rfl, rfl, rfl, (if_pos rfl).symm⟩
    · exact ⟨m0, by rw [List.getElem?_append_left (by rw [hlen]; exact h), List.getElem?_set_ne e]; exact hm, rfl, rfl, rfl, rfl, (if_neg (fun x => e x.symm)).symm⟩
  refine ⟨?_, fun i m h0 hm => ?_, fun jj o y v ho hof hv => ?_, fun i i' m m' hm hm' e => ?_, fun m hm => ?_⟩
  · obtain ⟨r, hr, rf, rp⟩ := W.root
    obtain ⟨m, hm, a, _, _, b, _⟩ := Bw 0 r hr
    exact ⟨m, hm, b.trans rf, a.trans rp⟩
  · rcases A i m hm with ⟨hi, m0, hm0, a1, a2, a3, a4, a5⟩ | ⟨rfl, rfl⟩
    · obtain ⟨o, ho, hof, hpo, hvo⟩ := W.par i m0 h0 hm0
      obtain ⟨o', ho', b1, b2, b3, b4, b5⟩ := Bw m0.par o ho
      refine ⟨o', by rw [a2]; exact ho', b4.trans hof, by rw [a1, b1, a3]; exact hpo, ?_⟩
      rw [b5, a3]
      split
      · next hj =>
        rw [valV_put]
        by_cases ez : m0.nm = z
        · rw [ez] at hpo hvo
          rw [hj, hp] at ho
          cases ho
          exact absurd hpo (hx m0 (List.mem_of_getElem? hm0))
        · rw [if_neg ez]
          exact hvo
      · exact hvo
    · obtain ⟨o', ho', b1, b2, b3, b4, b5⟩ := Bw j p hp
      refine ⟨o', by rw [h1]; exact ho', b4.trans hf, by rw [h3, h2, b1], ?_⟩
      rw [b5, if_pos rfl, h2, valV_put, if_pos rfl]
  · rcases A jj o ho with ⟨hi, m0, hm0, a1, a2, a3, a4, a5⟩ | ⟨rfl, rfl⟩
    · by_cases e : jj = j ∧ y = z
      · obtain ⟨rfl, rfl⟩ := e
        rw [a5, if_pos rfl, valV_put, if_pos rfl] at hv
        cases hv
        exact ⟨ns.length, n, rfl, by omega, C, h1, h2⟩
      · have hv' : valV m0.l y = some v := by
          rw [a5] at hv
          by_cases ej : jj = j
          · rw [if_pos ej, valV_put, if_neg (fun ez => e ⟨ej, ez⟩)] at hv
            exact hv
          · rw [if_neg ej] at hv
            exact hv
        obtain ⟨i1, n1, hv1, h01, hn1, c1, c2⟩ := W.ent jj m0 y v hm0 (a4 ▸ hof) hv'
        obtain ⟨n2, hn2, b1, b2, b3, b4, b5⟩ := Bw i1 n1 hn1
        exact ⟨i1, n2, hv1, h01, hn2, b2.trans c1, b3.trans c2⟩
    · rw [h4] at hv
      cases hv
  · rcases A i m hm with ⟨hi, m0, hm0, a1, _⟩ | ⟨rfl, rfl⟩ <;> rcases A i' m' hm' with ⟨hi', m0', hm0', a1', _⟩ | ⟨rfl, rfl⟩
    · exact W.uniq i i' m0 m0' hm0 hm0' (by rw [← a1, ← a1', e])
    · exact absurd (a1.symm.trans (e.trans h3)) (hx m0 (List.mem_of_getElem? hm0))
    · exact absurd (a1'.symm.trans (e.symm.trans h3)) (hx m0' (List.mem_of_getElem? hm0'))
    · rfl
  · obtain ⟨i, hi⟩ := List.getElem?_of_mem hm
    rcases A i m hi with ⟨_, m0, hm0, _, _, _, _, a5⟩ | ⟨rfl, rfl⟩
    · rw [a5]
      split
      · next hj =>
        rw [hj, hp] at hm0
        cases hm0
        exact nd_putK _ (W.keys p (List.mem_of_getElem? hp)) hv0
      · exact W.keys m0 (List.mem_of_getElem? hm0)
    · rw [h4]
      exact List.nodup_nil
def renP (a b q : List Str) : List Str := if inB a q = true then b ++ q.drop a.length else q
structure Mvd (ns ns' : List Nd) (i j : Nat) (n p : Nd) (z : Str) : Prop where
  len : ns'.length = ns.length
  file : ∀ (k : Nat) (m m' : Nd), ns[k]? = some m → ns'[k]? = some m' → m'.file = m.file
  path : ∀ (k : Nat) (m m' : Nd), ns[k]? = some m → ns'[k]? = some m' → m'.path = renP n.path (p.path ++ [z]) m.path
  par : ∀ (k : Nat) (m m' : Nd), ns[k]? = some m → ns'[k]? = some m' → m'.par = if k = i then j else m.par
  nm : ∀ (k : Nat) (m m' : Nd), ns[k]? = some m → ns'[k]? = some m' → m'.nm = if k = i then z else m.nm
  l : ∀ (k : Nat) (m m' : Nd), ns[k]? = some m → ns'[k]? = some m' → m'.l = if k = j then putK (if k = n.par then dropK m.l n.nm else m.l) z (.int (i : Int)) else if k = n.par then dropK m.l n.nm else m.l
theorem Mvd.to {ns ns' : List Nd} {i j : Nat} {n p : Nd} {z : Str} (M : Mvd ns ns' i j n p z) {k : Nat} {m : Nd} (h : ns[k]? = some m) : ∃ m', ns'[k]? = some m' := by
  have := (List.getElem?_eq_some_iff.mp h).1
  exact ⟨_, List.getElem?_eq_getElem (by rw [M.len]; exact this)⟩
theorem Mvd.back {ns ns' : List Nd} {i j : Nat} {n p : Nd} {z : Str} (M : Mvd ns ns' i j n p z) {k : Nat} {m' : Nd} (h : ns'[k]? = some m') : ∃ m, ns[k]? = some m := by
  have := (List.getElem?_eq_some_iff.mp h).1
  exact ⟨_, List.getElem?_eq_getElem (by rw [← M.len]; exact this)⟩
theorem renP_in {a b r : List Str} : renP a b (a ++ r) = b ++ r := by
  unfold renP
  rw [if_pos (inB_iff.mpr ⟨r, rfl⟩), List.drop_left]
theorem renP_out {a b q : List Str} (h : inB a q = false) : renP a b q = q := by
  unfold renP
  rw [if_neg (by rw [h]; decide)]
theorem Wf.move {ns ns' : List Nd} (W : Wf ns) {i j : Nat} {n p : Nd} {z : Str} (hi0 : i ≠ 0) (hn : ns[i]? = some n) (hp : ns[j]? = some p) (hf : p.file = false) (hin : inB n.path p.path = false) (hx : ∀ m ∈ ns, m.path ≠ p.path ++ [z]) (M : Mvd ns ns' i j n p z) : Wf ns' := by
  obtain ⟨o, ho, hof, hpo, hvo⟩ := W.par i n hi0 hn
  have hio : inB n.path o.path = false := by
    cases h : inB n.path o.path with
    | false => rfl
    | true =>
      obtain ⟨r, hr⟩ := inB_iff.mp h
      have := congrArg List.length hr
      rw [List.length_append, hpo, List.length_append] at this
      have e : ([n.nm] : List Str).length = 1 := rfl
      omega
  have hji : j ≠ i := by
    rintro rfl
    rw [hn] at hp
    cases hp
    rw [inB_self] at hin
    cases hin
  have hoi : n.par ≠ i := by
    intro e
    rw [e, hn] at ho
    cases ho
    rw [inB_self] at hio
    cases hio
  have hne : n.path ≠ [] := by
    intro e
    rw [hpo] at e
    exact absurd (List.append_eq_nil_iff.mp e).2 (by simp)
  have hvz := W.fresh hp hf hx
  -- nothing stands inside the new path
  have hnew : ∀ (k : Nat) (m : Nd), ns[k]? = some m → inB (p.path ++ [z]) m.path = false := fun k m hm => by
    cases h : inB (p.path ++ [z]) m.path with
    | false => rfl
    | true =>
      obtain ⟨r, hr⟩ := inB_iff.mp h
      obtain ⟨k', m', hm', e⟩ := W.above r.length k m (p.path ++ [z]) r rfl hm hr
      exact absurd e (hx m' (List.mem_of_getElem? hm'))
  -- the path of a child of o is new exactly when o's is
  have hstep : ∀ (k : Nat) (m o1 : Nd), k ≠ i → ns[k]? = some m → m.path = o1.path ++ [m.nm] → renP n.path (p.path ++ [z]) m.path = renP n.path (p.path ++ [z]) o1.path ++ [m.nm] := fun k m o1 hk hm hpm => by
    cases h : inB n.path o1.path with
    | true =>
      obtain ⟨r, hr⟩ := inB_iff.mp h
      rw [hpm, hr, List.append_assoc, renP_in, renP_in]
      simp only [List.append_assoc]
    | false =>
      have h2 : inB n.path m.path = false := by
        cases h3 : inB n.path m.path with
        | false => rfl
        | true =>
          obtain ⟨r, hr⟩ := inB_iff.mp h3
          rcases List.eq_nil_or_concat r with rfl | ⟨r', y, rfl⟩
          · rw [List.append_nil] at hr
            exact absurd (W.uniq k i m n hm hn hr) hk
          · rw [hpm, List.concat_eq_append, ← List.append_assoc] at hr
            have := (List.append_inj' hr rfl).1
            rw [inB_iff.mpr ⟨r', this⟩] at h
            cases h
      rw [renP_out h, renP_out h2, hpm]
  refine ⟨?_, fun k m' hk0 hm' => ?_, fun jj o' y v ho' hof' hv => ?_, fun k k' m m' hm hm' e => ?_, fun m' hm' => ?_⟩
  · obtain ⟨r, hr, rf, rp⟩ := W.root
    obtain ⟨r', hr'⟩ := M.to hr
    refine ⟨r', hr', (M.file 0 r r' hr hr').trans rf, ?_⟩
    rw [M.path 0 r r' hr hr', rp]
    refine renP_out ?_
    cases h : inB n.path [] with
    | false => rfl
    | true =>
      obtain ⟨r1, h1⟩ := inB_iff.mp h
      exact absurd (List.append_eq_nil_iff.mp h1.symm).1 hne
  · obtain ⟨m, hm⟩ := M.back hm'
    rw [M.par k m m' hm hm', M.nm k m m' hm hm', M.path k m m' hm hm']
    by_cases hk : k = i
    · subst hk
      rw [hn] at hm
      cases hm
      rw [if_pos rfl, if_pos rfl]
      obtain ⟨p', hp'⟩ := M.to hp
      refine ⟨p', hp', (M.file j p p' hp hp').trans hf, ?_, ?_⟩
      · rw [M.path j p p' hp hp', renP_out hin]
        have := renP_in (a := n.path) (b := p.path ++ [z]) (r := [])
        rw [List.append_nil, List.append_nil] at this
        exact this
      · rw [M.l j p p' hp hp', if_pos rfl, valV_put, if_pos rfl]
    · rw [if_neg hk, if_neg hk]
      obtain ⟨o1, ho1, ho1f, hpo1, hvo1⟩ := W.par k m hk0 hm
      obtain ⟨o1', ho1'⟩ := M.to ho1
      refine ⟨o1', ho1', (M.file _ o1 o1' ho1 ho1').trans ho1f, ?_, ?_⟩
      · rw [M.path _ o1 o1' ho1 ho1']
        exact hstep k m o1 hk hm hpo1
      · rw [M.l _ o1 o1' ho1 ho1']
        have hd : valV (if m.par = n.par then dropK o1.l n.nm else o1.l) m.nm = some (.int (k : Int)) := by
          split
          · next e =>
            rw [valV_drop, if_neg, hvo1]
            intro e2
            rw [e, ho] at ho1
            cases ho1
            rw [e2, ← hpo] at hpo1
            exact hk (W.uniq k i m n hm hn hpo1)
          · exact hvo1
        split
        · next e =>
          rw [valV_put, if_neg, hd]
          intro e2
          rw [e, hp] at ho1
          cases ho1
          rw [e2] at hpo1
          exact hx m (List.mem_of_getElem? hm) hpo1
        · exact hd
  · obtain ⟨o1, ho1⟩ := M.back ho'
    rw [M.l jj o1 o' ho1 ho'] at hv
    by_cases e : jj = j ∧ y = z
    · obtain ⟨rfl, rfl⟩ := e
      rw [if_pos rfl, valV_put, if_pos rfl] at hv
      cases hv
      obtain ⟨n', hn'⟩ := M.to hn
      refine ⟨i, n', rfl, hi0, hn', ?_, ?_⟩
      · rw [M.par i n n' hn hn', if_pos rfl]
      · rw [M.nm i n n' hn hn', if_pos rfl]
    · have hv1 : valV (if jj = n.par then dropK o1.l n.nm else o1.l) y = some v := by
        by_cases ej : jj = j
        · rw [if_pos ej, valV_put, if_neg (fun ez => e ⟨ej, ez⟩)] at hv
          exact hv
        · rw [if_neg ej] at hv
          exact hv
      have hv2 : valV o1.l y = some v ∧ ¬ (jj = n.par ∧ y = n.nm) := by
        by_cases ej : jj = n.par
        · rw [if_pos ej, valV_drop] at hv1
          by_cases ey : y = n.nm
          · rw [if_pos ey] at hv1
            cases hv1
          · rw [if_neg ey] at hv1
            exact ⟨hv1, fun h => ey h.2⟩
        · rw [if_neg ej] at hv1
          exact ⟨hv1, fun h => ej h.1⟩
      obtain ⟨i1, n1, rfl, h01, hn1, c1, c2⟩ := W.ent jj o1 y v ho1 ((M.file jj o1 o' ho1 ho').symm.trans hof') hv2.1
      obtain ⟨n2, hn2⟩ := M.to hn1
      have hi1 : i1 ≠ i := by
        rintro rfl
        rw [hn] at hn1
        cases hn1
        exact hv2.2 ⟨c1.symm, c2.symm⟩
      refine ⟨i1, n2, rfl, h01, hn2, ?_, ?_⟩
      · rw [M.par i1 n1 n2 hn1 hn2, if_neg hi1, c1]
      · rw [M.nm i1 n1 n2 hn1 hn2, if_neg hi1, c2]
  · obtain ⟨m0, hm0⟩ := M.back hm
    obtain ⟨m0', hm0'⟩ := M.back hm'
    rw [M.path k m0 m hm0 hm, M.path k' m0' m' hm0' hm'] at e
    cases h1 : inB n.path m0.path with
    | true =>
      obtain ⟨r1, e1⟩ := inB_iff.mp h1
      cases h2 : inB n.path m0'.path with
      | true =>
        obtain ⟨r2, e2⟩ := inB_iff.mp h2
        rw [e1, e2, renP_in, renP_in] at e
        exact W.uniq k k' m0 m0' hm0 hm0' (by rw [e1, e2, List.append_cancel_left e])
      | false =>
        rw [e1, renP_in, renP_out h2] at e
        have := hnew k' m0' hm0'
        rw [inB_iff.mpr ⟨r1, e.symm⟩] at this
        cases this
    | false =>
      cases h2 : inB n.path m0'.path with
      | true =>
        obtain ⟨r2, e2⟩ := inB_iff.mp h2
        rw [e2, renP_in, renP_out h1] at e
        have := hnew k m0 hm0
        rw [inB_iff.mpr ⟨r2, e⟩] at this
        cases this
      | false =>
        rw [renP_out h1, renP_out h2] at e
        exact W.uniq k k' m0 m0' hm0 hm0' e
  · obtain ⟨k, hk⟩ := List.getElem?_of_mem hm'
    obtain ⟨m, hm⟩ := M.back hk
    rw [M.l k m m' hm hk]
    have hkm := W.keys m (List.mem_of_getElem? hm)
    have hd : ((if k = n.par then dropK m.l n.nm else m.l).map (·.1)).Nodup := by
      split
      · exact nd_dropK hkm
      · exact hkm
    split
    · next e =>
      rw [e, hp] at hm
      cases hm
      refine nd_putK _ hd ?_
      split
      · rw [valV_drop]
        split
        · rfl
        · exact hvz
      · exact hvz
    · exact hd
def RwM (n : Nd) : MP := Pt n.ro (.lst (rowV n))
structure InvT (k : Nat) (B : Hp) (ns : List Nd) : Prop where
  wf : Wf ns
  few : ∀ n ∈ ns, n.l.length ≤ k
  deep : ∀ n ∈ ns, n.path.length ≤ 6
  len : ns.length ≤ k + 1
  pa : ∀ n ∈ ns, B n.pa = some (.lst (n.path.map V.str))
  nm : ∀ n ∈ ns, ∀ z ∈ n.path, nmS z = true
  ps : ∀ n ∈ ns, n.ps.length ≤ 3
theorem InvT.mono {k k' : Nat} {B B' : Hp} {ns : List Nd} (I : InvT k B ns) (h : k ≤ k') (e : Ex B B') : InvT k' B' ns := ⟨I.wf, fun n hn => Nat.le_trans (I.few n hn) h, I.deep, by have := I.len; omega, fun n hn => e _ _ (I.pa n hn), I.nm, I.ps⟩
theorem InvT.ok {k : Nat} {B : Hp} {ns : List Nd} (I : InvT k B ns) (h : k < 64) : TrOk ns := ⟨I.wf, fun n hn => by have := I.few n hn; omega, I.deep⟩
theorem InvT.rws {k : Nat} {B H : Hp} {ns : List Nd} {nd : Addr} {l : List MP} (I : InvT k B ns) (h : k < 64) (a b : Nat) (ha : l[a]? = some (Pt nd (.lst (roL ns)))) (hb : l[b]? = some (Each ns RwM)) (hA : At B l H) : RwS H nd ns := ⟨at_get a ha hA, fun n hn => by
  obtain ⟨j, hj⟩ := List.getElem?_of_mem hn
  exact at_get (a := n.ro) 0 rfl (each_at (at_pull b hb hA) hj), fun n hn => at_base hA _ _ (I.pa n hn), I.nm, by have := I.len; omega⟩
theorem el_catV {σ : L2.St} {H : Hp} {ta tb : TE} {a : Addr} {xs ys : List V} (ha : Ev ta σ H (.ref a)) (h : H a = some (.lst xs)) (hb : EvL tb σ H ys) (hl : xs.length + ys.length ≤ 100000) : EvL (tOp rCat ta tb) σ H (xs ++ ys) := fun H1 e Q q =>
  ha H1 e _ fun H2 e2 => hb H2 (e.trans e2) _ fun p H3 np e3 hp => ⟨a, p, xs, ys, rfl, rfl, (e.trans (e2.trans e3)) _ _ h, hp, sz_of hl, fun r nr => q r _ (fresh_back e2 (fresh_back e3 nr)) (e2.trans (e3.trans (Ex.new nr))) upd_same⟩
theorem ov_fresh {B H H1 : Hp} {p : Addr} {o : HO} (e : Ex B H) (np : H p = none) (hp : H1 p = some o) : ov B H H1 p = some o := by
  have hb : B p = none := by
    cases h : B p with
    | none => rfl
    | some x => rw [e _ _ h] at np; cases np
  unfold ov
  rw [hb, np]
  exact hp
def spLNu : Sp := fun vs H Q _ => ∃ (a b : Addr) (xs : List V), vs = [.ref a, .ref b] ∧ H a = some (.lst xs) ∧ H b = some (.lst xs) ∧ xs.length ≤ 1000 ∧ (∀ v ∈ xs, (∃ i, v = V.int i) ∨ ∃ z, v = V.str z) ∧ RetV (.bl true) H Q
theorem dxs_flat {H : Hp} : ∀ xs : List V, (∀ v ∈ xs, (∃ i, v = V.int i) ∨ ∃ z, v = V.str z) → ∃ ds, DxAll K H xs ds ∧ ∀ d ∈ ds, Oks 2 d
  | [], _ => ⟨[], .nil, fun d h => nomatch h⟩
  | v :: r, h => by
    obtain ⟨ds, h1, h2⟩ := dxs_flat (H := H) r (fun v hv => h v (List.mem_cons_of_mem _ hv))
    rcases h v List.mem_cons_self with ⟨i, rfl⟩ | ⟨z, rfl⟩
    · exact ⟨.int i :: ds, .cons (.int i) h1, fun d hd => by
        rcases List.mem_cons.mp hd with rfl | hd
        · exact .int i
        · exact h2 d hd⟩
    · exact ⟨.str z :: ds, .cons (.str z) h1, fun d hd => by
        rcases List.mem_cons.mp hd with rfl | hd
        · exact .str z
        · exact h2 d hd⟩
theorem ok_lnumbers {f f_s : Addr} {fd fd_s : FuncData} (F : Fun K "_law_numbers" "_law_numbers" s__law_numbers f fd) (D__law_same : Df K mg "_law_same" s__law_same ["actual", "due"] f_s fd_s) (G__law_same : FnOk P w K mg base CX0 4 f_s fd_s ["actual", "due"] (spSm K 3)) (T : Glo mg) : FnOk P w K mg base CX0 5 f fd ["actual", "due"] spLNu := by
  refine F.ok sc__law_numbers (fun vs H Q E h => ?_) (fun cdv A outer s H vs Q E hr h => ?_)
  · obtain ⟨a, b, xs, rfl, _⟩ := h
    rfl
  · obtain ⟨a, b, xs, rfl, ha, hb, hl, hx, q⟩ := h
    refine ⟨_, (pss_one (ps_ret (pe_and (pe_callB call_isi (by rfl) T.isinstance (by decide +kernel) (pa_cons (pv 0) (pa_cons (pe_bltn (v := .ty "list") (u := .type "list") (by rfl) T.list (by decide +kernel) rfl) pa_nil))) (pe_one (pe_call G__law_same (hr.mono (by decide)) (by rfl) D__law_same.g D__law_same.F.kp D__law_same.b .nil pass0 (pa_cons (pe_tupleOf (by rfl) T.tuple (pv 0)) (pa_cons (pe_tupleOf (by rfl) T.tuple (pv 1)) pa_nil))))))), ?_⟩
    obtain ⟨ds, hd, ho⟩ := dxs_flat (K := K) (H := H) xs hx
    have hdl : ds.length = xs.length := (dxa_len hd).symm
    refine s_ret (ev_andT (ev_isiX (K := K) (ex_var rfl (.lst (sq_of ha) hd)) (kit_lst _)) (ev_callD (K := K) (exs_cons (exn_tup (ev_var rfl) (sq_of ha) hd) (exs_cons (exn_tup (ev_var rfl) (sq_of hb) hd) exs_nil)) (fun vs H5 e5 hv Q q => ?_))) q
    cases hv with
    | cons h1 h2 => cases h2 with
      | cons h2 h3 =>
        cases h3
        exact ⟨_, _, _, rfl, h1, h2, .tup (by omega) ho, q⟩
theorem go_mx {σ : L2.St} {H : Hp} {ta : TE} {C r dx : Addr} {sp : Sp} {E : L2.St → XK} {m : Str} {fs : List (Str × V)} {tr : L2.TA} {Q : VK} (h : Ev ta σ H (.ref r)) (hr : H r = some (.ins C dx fs)) (hn : fs.lookup m = none) (k : ∀ H1, Ex H H1 → tr σ H1 fun vs H2 => sp (.ref r :: vs) H2 Q (E σ)) : tMX C m sp E ta tr σ H Q := h H (Ex.refl H) _ fun H1 e1 => ⟨r, dx, fs, rfl, e1 _ _ hr, hn, k H1 e1⟩
def spLUn (K : PySem.W.Frag) (CT CF CD : Addr) : Sp := fun vs H Q _ => ∃ (t : Addr) (i : Int) (ns : List Nd) (B : Hp) (F : List MP), vs = [.ref t, .int i] ∧ At B (TrM K CT CF CD t ns :: F) H ∧ (i < 0 ∨ (ns.length : Int) ≤ i) ∧ ∀ H1, Ex H H1 → Q (.bl true) H1
theorem ok_lunknown {f f1 CT CF CD C_Unknown B_Unknown C_BadPath : Addr} {fd fd1 : FuncData} (F : Fun K "_law_unknown" "_law_unknown" s__law_unknown f fd) (D_Tree_node : Dm K CT "node" "Tree.node" s_Tree_node ["self", "number"] f1 fd1) (G_Tree_node : FnOk P w K mg base (L2.CX P w) 1 f1 fd1 ["self", "number"] (spTrN K CT CF CD C_Unknown)) (L_Tree : Kl K mg "Tree" CT) (E_Unknown : Err K mg "Unknown" C_Unknown B_Unknown) (h_U : mg "HallError" = some (.ref B_Unknown)) (g_BadPath : mg "BadPath" = some (.ref C_BadPath)) (M_U : PySem.W.exmOne K (.ref C_Unknown) (.ref B_Unknown) = some true)
    (K_U : PySem.W.kitOne K (.ref C_Unknown) (.ref C_Unknown) = some true) (N_U : PySem.W.kitOne K (.ref C_Unknown) (.ref C_BadPath) = some false) (T : Glo mg) : FnOk P w K mg base CX0 3 f fd ["tree", "number"] (spLUn K CT CF CD) := by
  have g_Unknown := E_Unknown.g
  have g_HallError := h_U
  refine F.ok sc__law_unknown (fun vs H Q E h => ?_) (fun cdv A outer s H vs Q E hr h => ?_)
  · obtain ⟨t, i, ns, B, Fr, rfl, _⟩ := h
    rfl
  · obtain ⟨t, i, ns, B, Fr, rfl, hA, hi, q⟩ := h
    refine ⟨_, (pss_cons (ps_try_own (C := C_Unknown) (i := 2) rfl rfl sc__law_unknown.nd rfl rfl ⟨rfl, by decide, .inl g_HallError⟩ takes0 (fun W pn xe tk => (pss_one (ps_expr (pe_mx (pv 0) L_Tree.cl D_Tree_node.m G_Tree_node (hr.mono (by decide)) D_Tree_node.b (fun σ => passAt tk σ) (pa_cons (pv 1) pa_nil))))) (fun a oe pn hz hf => (pss_one (ps_ret (pe_and (pe_callB (call_isE E_Unknown.ec hz hf) (by rfl) T.isinstance (by decide +kernel) (pa_cons (pv 2) (pa_cons (pe_glob (v := .ref C_Unknown) (by rfl) g_Unknown rfl) pa_nil))) (pe_and (pe_callB (call_isE E_Unknown.ec hz hf) (by rfl) T.isinstance (by decide +kernel) (pa_cons (pv 2) (pa_cons (pe_bltn (v := .ty "ValueError") (u := .type "ValueError") (by rfl) T.ValueError (by decide +kernel) rfl) pa_nil))) (pe_one (pe_not (pe_callB (call_isE E_Unknown.ec hz hf) (by rfl) T.isinstance (by decide +kernel) (pa_cons (pv 2) (pa_cons (pe_glob (v := .ref C_BadPath) (by rfl) g_BadPath rfl) pa_nil)))))))))))
  (pss_one (ps_ret pe_bl))), ?_⟩
    obtain ⟨dx, nl, pl, ht⟩ := tr_ins hA
    refine s_drop0 (go_mx (ev_var rfl) ht rfl fun H1 e1 => go_cons (ev_var rfl) fun H2 e2 => go_nil ⟨t, i, ns, B, Fr, rfl, at_ex hA (e1.trans e2), fun k n hk hn => ?_, fun _ H3 e3 => ⟨true, M_U, fun _ a na => ⟨⟨rfl, rfl⟩, ?_⟩, fun z => nomatch z⟩⟩)
    · have := (List.getElem?_eq_some_iff.mp hn).1
      rcases hi with hi | hi <;> omega
    · exact s_ret (ev_andT (ev_isE (c := .ref C_Unknown) (cv := .ref C_Unknown) rfl ev_c (fun u hu => hu) K_U) (ev_andT (ev_isE (c := .ty "ValueError") (cv := .type "ValueError") rfl ev_c (fun u hu => hu) E_Unknown.k2) (ev_nf (ev_isE (c := .ref C_BadPath) (cv := .ref C_BadPath) rfl ev_c (fun u hu => hu) N_U)))) (fun H4 e4 => q H4 (((e1.trans e2).trans e3).trans e4))
theorem q_notT {σ : L2.St} {H : Hp} {D : Ends} {te : TE} {tu tz : TS} (h : te σ H fun x H1 => ∃ c, x = .bl c ∧ (if (!c) = true then tu { D with nx := tz D } σ H1 else tz D σ H1)) : tSeq (tIfS (tNot (tB te)) tu tNext) tz D σ H := h
theorem q_appN {σ : L2.St} {B H : Hp} {D : Ends} {tz : TS} {l : List MP} {ta : TE} {tr : L2.TA} {q : Addr} {xs vs : List V} (k : Nat) (hk : l[k]? = some (Pt q (.lst xs))) (hA : At B l H) (ha : Ev ta σ H (.ref q)) (h : EvA tr σ H vs) (hv : vs.length ≤ 100000) (hz : xs.length < 100000) (c : ∀ p H1, At B (Pt p (.lst vs) :: l.set k (Pt q (.lst (xs ++ [.ref p])))) H1 → tz D σ H1) : tSeq (tDrop (tBM K "list" rAppend ta (tCons (tLst tr) tNil))) tz D σ H :=
  ha H (Ex.refl H) _ fun H1 e1 => ⟨.inl ⟨rfl, xs, sq_of (at_get k hk (at_ex hA e1))⟩, h H1 e1 _ fun H2 e2 => ⟨sz_of hv, fun p np => by
    have hA2 := at_new (o := .lst vs) (at_ex hA (e1.trans e2)) np (Ex.new np) upd_same
    exact ⟨q, xs, .ref p, rfl, rfl, at_get (a := q) (k + 1) hk hA2, sz_lt hz, c p _ (at_upd (k + 1) hk hA2)⟩⟩⟩
theorem lat_ex (ns : List Nd) (xs : List Str) : ∃ i, LAt ns xs i := by
  by_cases h : ∃ n ∈ ns, n.path = xs
  · obtain ⟨n, hn, hp⟩ := h
    obtain ⟨k, hk⟩ := List.getElem?_of_mem hn
    exact ⟨k, .inl ⟨k, n, rfl, hk, hp⟩⟩
  · exact ⟨-1, .inr ⟨rfl, fun n hn hp => h ⟨n, hn, hp⟩⟩⟩
theorem lat_uniq {ns : List Nd} (W : Wf ns) {xs : List Str} {i j : Int} (a : LAt ns xs i) (b : LAt ns xs j) : i = j := by
  rcases a with ⟨k, n, rfl, hk, hp⟩ | ⟨rfl, h⟩ <;> rcases b with ⟨k', n', rfl, hk', hp'⟩ | ⟨rfl, h'⟩
  · rw [W.uniq k k' n n' hk hk' (hp.trans hp'.symm)]
  · exact absurd hp (h' n (List.mem_of_getElem? hk))
  · exact absurd hp' (h n' (List.mem_of_getElem? hk'))
  · rfl
theorem lat_no {ns : List Nd} {xs : List Str} {i : Int} (a : LAt ns xs i) (h : i < 0) : ∀ n ∈ ns, n.path ≠ xs := by
  rcases a with ⟨k, n, rfl, hk, hp⟩ | ⟨_, h'⟩
  · omega
  · exact h'
theorem spLAt_v {nd q : Addr} {ns : List Nd} {xs : List Str} {H : Hp} {i : Int} (W : Wf ns) (hR : RwS H nd ns) (hq : H q = some (.lst (xs.map V.str))) (hm : ∀ z ∈ xs, nmS z = true) (hi : LAt ns xs i) : SpV spLAt [.ref nd, .ref q] H (.int i) := fun H1 e1 Q q1 E => ⟨nd, q, ns, xs, rfl, hR.ex e1, e1 _ _ hq, hm, fun i' H2 hi' e2 => by
  rw [lat_uniq W hi' hi]
  exact q1 H2 e2⟩
/-- one node out of the tree, and in again -/
theorem tr_take {B H : Hp} {F : List MP} {CT CF CD t : Addr} {ns : List Nd} {i : Nat} {n : Nd} (h : At B (TrM K CT CF CD t ns :: F) H) (hn : ns[i]? = some n) : ∃ dx nl pl, At B (NdM K CF CD n :: Each (ns.eraseIdx i) (NdM K CF CD) :: Pt t (.ins CT dx (TrF nl pl)) :: Pt nl (.lst (adL ns)) :: DctM K pl (plc ns) :: F) H := by
  obtain ⟨dx, nl, pl, h⟩ := tr_open h
  exact ⟨dx, nl, pl, each_at (at_ix 4 [3, 0, 1, 2] h) hn⟩
theorem tr_put {B H : Hp} {F : List MP} {CT CF CD t dx nl pl : Addr} {ns : List Nd} {i : Nat} {n n' : Nd} (hn : ns[i]? = some n) (ha : n'.ad = n.ad) (hp : plD n' = plD n) (h : At B (NdM K CF CD n' :: Each (ns.eraseIdx i) (NdM K CF CD) :: Pt t (.ins CT dx (TrF nl pl)) :: Pt nl (.lst (adL ns)) :: DctM K pl (plc ns) :: F) H) : At B (TrM K CT CF CD t (ns.set i n') :: F) H := by
  have h := each_set (f := NdM K CF CD) (List.getElem?_eq_some_iff.mp hn).1 h
  have e1 : adL (ns.set i n') = adL ns := map_same (g := fun n : Nd => V.ref n.ad) hn (by rw [ha])
  have e2 : plc (ns.set i n') = plc ns := by
    unfold plc
    rw [map_same (g := plD) hn hp]
  refine tr_close (dx := dx) (nl := nl) (pl := pl) ?_
  rw [e1, e2]
  exact at_ix 4 [1, 2, 3, 0] h
theorem set_last {α : Type} (xs : List α) (a b : α) : (xs ++ [a]).set xs.length b = xs ++ [b] := by
  rw [List.set_append_right _ _ (Nat.le_refl _), Nat.sub_self]
  rfl
theorem at_last {α : Type} (xs : List α) (a : α) : (xs ++ [a])[xs.length]? = some a := by
  rw [List.getElem?_append_right (Nat.le_refl _), Nat.sub_self]
  rfl
theorem InvT.attach {k : Nat} {B : Hp} {ns : List Nd} (I : InvT k B ns) {j : Nat} {p n : Nd} {z : Str} (hp : ns[j]? = some p) (hf : p.file = false) (hx : ∀ n ∈ ns, n.path ≠ p.path ++ [z]) (h6 : p.path.length < 6) (hz : nmS z = true) (h1 : n.par = j) (h2 : n.nm = z) (h3 : n.path = p.path ++ [z]) (h4 : n.l = []) (h5 : n.ps.length ≤ 3) (hpa : B n.pa = some (.lst ((p.path ++ [z]).map V.str))) : InvT (k + 1) B (ns.set j { p with l := putK p.l z (.int (ns.length : Int)) } ++ [n]) := by
  have hpm := List.mem_of_getElem? hp
  have key : ∀ {φ : Nd → Prop}, (∀ m ∈ ns, φ m) → (φ p → φ { p with l := putK p.l z (.int (ns.length : Int)) }) → φ n → ∀ m ∈ ns.set j { p with l := putK p.l z (.int (ns.length : Int)) } ++ [n], φ m := fun a b c m hm => by
    rcases List.mem_append.mp hm with hm | hm
    · rcases List.mem_or_eq_of_mem_set hm with hm | rfl
      · exact a m hm
      · exact b (a p hpm)
    · rw [List.mem_singleton.mp hm]; exact c
  refine ⟨I.wf.attach hp hf hx h1 h2 h3 h4, key (fun m hm => Nat.le_trans (I.few m hm) (Nat.le_succ k)) (fun _ => ?_) (by rw [h4]; exact Nat.zero_le _), key I.deep (fun h => h) ?_, ?_, key I.pa (fun h => h) (by rw [h3]; exact hpa), key I.nm (fun h => h) ?_, key I.ps (fun h => h) h5⟩
  · have := putK_le p.l z (.int (ns.length : Int))
    have := I.few p hpm
    show (putK p.l z (.int (ns.length : Int))).length ≤ k + 1
    omega
  · rw [h3, List.length_append]
    show p.path.length + 1 ≤ 6
    omega
  · rw [List.length_append, List.length_set]
    have := I.len
    show ns.length + 1 ≤ k + 1 + 1
    omega
  · rw [h3]
    intro y hy
    rcases List.mem_append.mp hy with hy | hy
    · exact I.nm p hpm y hy
    · rw [List.mem_singleton.mp hy]; exact hz
/-- the law's rows after a node more -/
theorem rows_app {B H : Hp} {F : List MP} {ns : List Nd} {j : Nat} {p n : Nd} {l : List (Str × V)} {nd : Addr} (hp : ns[j]? = some p) (h : At B (Pt n.ro (.lst (rowV n)) :: Pt nd (.lst (roL ns ++ [.ref n.ro])) :: Each ns RwM :: F) H) : At B (Pt nd (.lst (roL (ns.set j { p with l := l } ++ [n]))) :: Each (ns.set j { p with l := l } ++ [n]) RwM :: F) H := by
  have h := each_app (x := n) (f := RwM) (at_ix 3 [0, 2, 1] h)
  have hjl := (List.getElem?_eq_some_iff.mp hp).1
  have hp' : (ns ++ [n])[j]? = some p := by rw [List.getElem?_append_left hjl]; exact hp
  have e1 : (ns ++ [n]).set j { p with l := l } = ns.set j { p with l := l } ++ [n] := List.set_append_left _ _ hjl
  have e2 : roL (ns.set j { p with l := l } ++ [n]) = roL ns ++ [.ref n.ro] := by
    rw [← e1]
    unfold roL
    rw [map_same (g := fun n : Nd => V.ref n.ro) (r' := { p with l := l }) hp' rfl, List.map_append]
    rfl
  rw [e2, ← e1, each_same (f := RwM) (r' := { p with l := l }) hp' rfl]
  exact at_swap h
theorem add_at {σ : L2.St} {B H : Hp} {F : List MP} {C d : Addr} {ps : List PyData} {ta : TE} {tr : L2.TA} {E : XK} {Q : VK} {a1 a2 a3 : Int} {z : Str} (hA : At B (FlM K C d ps false :: F) H) (h : Ev ta σ H (.ref d)) (hr : EvA tr σ H [.int a1, .int a2, .int a3, .str z]) (hz : z.length ≤ 1000) (hl : ps.length < 1000)
    (k : ∀ r B1 H1, Ex B B1 → At B1 (FlM K C d (ps ++ [.tuple [.int a1, .int a2, .int a3, .str z]]) false :: F) H1 → Q r H1) : tMeth C "add_piece" (spFlA K C) [] E ta (tCons (tTup tr) tNil) σ H Q := by
  obtain ⟨dx, p, hd⟩ := fl_ins hA
  refine go_meth h hd rfl fun H1 e1 => go_cons' (hr H1 e1 _ fun H2 e2 => ⟨by show 4 ≤ sizeLine; decide, fun p np => ?_⟩)
  obtain ⟨b1, hA1, hp1⟩ := Ap.at_tup (vs := [.int a1, .int a2, .int a3, .str z]) (at_ex hA (e1.trans e2)) np
  exact go_nil ⟨d, .ref p, ps, .int a1, .int a2, .int a3, z, false, _, F, rfl, hA1, .tup (st_of hp1) (.cons (.int _) (.cons (.int _) (.cons (.int _) (.cons (.str _) .nil)))), hz, hl, fun B1 H3 b2 hA => k _ B1 H3 (b1.trans b2) hA⟩
theorem q_whenM {σ : L2.St} {H : Hp} {D : Ends} {t : TT} {tu tz : TS} {b : Bool} (M : Hp → Prop) (h : EvT t σ H b) (h2 : b = false → ∀ H1, Ex H H1 → M H1) (h1 : b = true → ∀ H1, Ex H H1 → ∀ Dn : Ends, (∀ H', M H' → Dn.nx σ H') → tu Dn σ H1) (k : ∀ H', M H' → tz D σ H') : tSeq (tIfS t tu tNext) tz D σ H := q_when h (fun hb H1 e1 => h1 hb H1 e1 { D with nx := tz D } k) (fun hb H1 e1 => k H1 (h2 hb H1 e1))
theorem s_setA {σ : L2.St} {B H : Hp} {D : Ends} {l : List MP} {te ta ti : TE} {q : Addr} {xs : List V} {i : Int} {v : V} {m : Nat} (k : Nat) (hk : l[k]? = some (Pt q (.lst xs))) (hA : At B l H) (hv : Ev te σ H v) (ha : ∀ H1, Ex H H1 → Ev ta σ H1 (.ref q)) (hi : ∀ H1, Ev ti σ H1 (.int i)) (hx : ixN xs.length i = some m) (c : ∀ H1, At B (l.set k (Pt q (.lst (xs.set m v)))) H1 → D.nx σ H1) : tAsg te (gSub ta ti rSetL) D σ H :=
  hv H (Ex.refl H) _ fun H1 e1 => ha H1 e1 H1 (Ex.refl H1) _ fun H2 e2 => hi H2 H2 (Ex.refl H2) _ fun H3 e3 => ⟨q, xs, i, m, rfl, rfl, at_get k hk (at_ex hA ((e1.trans e2).trans e3)), hx, c _ (at_upd k hk (at_ex hA ((e1.trans e2).trans e3)))⟩
def spWAt (K : PySem.W.Frag) (CT CF CD : Addr) : Sp := fun vs H Q _ => ∃ (t nd : Addr) (j : Nat) (z : Str) (dr : Int) (p : Nd) (ns : List Nd) (k : Nat) (B : Hp) (F : List MP), vs = [.ref t, .ref nd, .int (j : Int), .str z, .int dr] ∧ At B (TrM K CT CF CD t ns :: Pt nd (.lst (roL ns)) :: Each ns RwM :: F) H ∧ InvT k B ns ∧ k < 60 ∧ ns[j]? = some p ∧ nmS z = true ∧
  ∀ ns' B1 H1, Ex B B1 → InvT (k + 1) B1 ns' → At B1 (TrM K CT CF CD t ns' :: Pt nd (.lst (roL ns')) :: Each ns' RwM :: F) H1 → Q (.bl true) H1
theorem ok_lattach {f f1 f2 f3 f4 f5 f6 f7 f8 f9 f0 CT CF CD CU : Addr} {fd fd1 fd2 fd3 fd4 fd5 fd6 fd7 fd8 fd9 fd0 : FuncData} (F : Fun K "_law_attach" "_law_attach" s__law_attach f fd) (D__law_at : Df K mg "_law_at" s__law_at ["nodes", "path"] f1 fd1) (G__law_at : FnOk P w K mg base CX0 1 f1 fd1 ["nodes", "path"] spLAt) (D_Directory___init__ : Dm K CD "__init__" "Directory.__init__" s_Directory___init__ ["self"] f2 fd2) (G_Directory___init__ : FnOk P w K mg base CX0 1 f2 fd2 ["self"] (spDrI K CD))
    (D__law_same : Df K mg "_law_same" s__law_same ["actual", "due"] f3 fd3) (G__law_same : FnOk P w K mg base CX0 4 f3 fd3 ["actual", "due"] (spSm K 3)) (D_Tree_attach : Dm K CT "attach" "Tree.attach" s_Tree_attach ["self", "parent", "name", "node"] f4 fd4) (G_Tree_attach : FnOk P w K mg base CX0 3 f4 fd4 ["self", "parent", "name", "node"] (spTrA K CT CF CD)) (D_Directory_set_limit : Dm K CD "set_limit" "Directory.set_limit" s_Directory_set_limit ["self", "most"] f5 fd5) (G_Directory_set_limit : FnOk P w K mg base CX0 1 f5 fd5 ["self", "most"] (spDrS K CD))
    (D_Tree_node : Dm K CT "node" "Tree.node" s_Tree_node ["self", "number"] f6 fd6) (G_Tree_node : FnOk P w K mg base (L2.CX P w) 1 f6 fd6 ["self", "number"] (spTrN K CT CF CD CU)) (D_Directory_limit : Pr K CD "limit" "Directory.limit" s_Directory_limit f7 fd7) (G_Directory_limit : FnOk P w K mg base CX0 1 f7 fd7 ["self"] (spDrL K CD)) (D_File___init__ : Dm K CF "__init__" "File.__init__" s_File___init__ ["self"] f8 fd8) (G_File___init__ : FnOk P w K mg base CX0 1 f8 fd8 ["self"] (spFlI K CF))
    (D__law_text : Df K mg "_law_text" s__law_text ["draw"] f9 fd9) (G__law_text : FnOk P w K mg base CX0 2 f9 fd9 ["draw"] spTx) (D_File_add_piece : Dm K CF "add_piece" "File.add_piece" s_File_add_piece ["self", "piece"] f0 fd0) (G_File_add_piece : FnOk P w K mg base CX0 1 f0 fd0 ["self", "piece"] (spFlA K CF)) (L_Tree : Kl K mg "Tree" CT) (L_Directory : Kl K mg "Directory" CD) (L_File : Kl K mg "File" CF) (T : Glo mg) : FnOk P w K mg base CX0 5 f fd ["tree", "nodes", "at", "name", "draw"] (spWAt K CT CF CD) := by
  refine F.ok sc__law_attach (fun vs H Q E h => ?_) (fun cdv A outer s H vs Q E hr h => ?_)
  · obtain ⟨t, nd, j, z, dr, p, ns, k, B, Fr, rfl, _⟩ := h
    rfl
  · obtain ⟨t, nd, j, z, dr, p, ns, k, B, Fr, rfl, hA, I, hk, hp, hz, q⟩ := h
    refine ⟨_, (pss_cons (ps_set (i := 5) sc__law_attach.nd rfl (.inl rfl) (pe_op op_cat (pe_ix ix_list (pe_ix ix_list (pv 1) (pv 2) (fun _ _ => rfl)) pe_int (fun _ _ => rfl)) (pe_lst (pa_cons (pv 3) pa_nil))))
  (pss_cons (ps_if (PW.pt (pw_or (pt_cmpR op_eq (pe_ix ix_list (pe_ix ix_list (pv 1) (pv 2) (fun _ _ => rfl)) pe_int (fun _ _ => rfl)) pe_int (nomark _)) (pw_or (pt_cmpR op_gt (pe_callB call_len_seq (by rfl) T.len PySem.boot_len (pa_cons (pv 5) pa_nil)) pe_int (nomark _)) (pw_or1 (pt_cmpR op_ge (pe_call G__law_at (hr.mono (by decide)) (by rfl) D__law_at.g D__law_at.F.kp D__law_at.b .nil pass0 (pa_cons (pv 1) (pa_cons (pv 5) pa_nil))) pe_int (nomark _))))))
  (pss_one (ps_ret pe_bl))
  pss_nil)
  (pss_cons (ps_set (i := 6) sc__law_attach.nd rfl (.inl rfl) (pe_callB call_len_seq (by rfl) T.len PySem.boot_len (pa_cons (pv 1) pa_nil)))
  (pss_cons (ps_if (pt_cmpR op_eq (pe_op op_mod (pe_callTy call_int1 (by rfl) T.int (by decide +kernel) (pa_cons (pv 4) pa_nil)) pe_int) pe_int (nomark _))
  (pss_cons (ps_expr (pe_bm PySem.F.plainAttrs_list PySem.F.slot_list_append PySem.F.type_list_append mt_append (pv 1) (pa_cons (pe_lst (pa_cons pe_int (pa_cons (pv 5) (pa_cons pe_int pa_nil)))) pa_nil)))
  (pss_cons (ps_set (i := 7) sc__law_attach.nd rfl (.inl rfl) (pe_make0 (L_Directory.make D_Directory___init__) G_Directory___init__ (hr.mono (by decide)) (by rfl) L_Directory.g D_Directory___init__.b .nil pass0))
  (pss_cons (ps_if (pt_not (pt_val (pe_call G__law_same (hr.mono (by decide)) (by rfl) D__law_same.g D__law_same.F.kp D__law_same.b .nil pass0 (pa_cons (pe_meth (pv 0) L_Tree.cl D_Tree_attach.m G_Tree_attach (hr.mono (by decide)) D_Tree_attach.b .nil pass0 (pa_cons (pv 2) (pa_cons (pv 3) (pa_cons (pv 7) pa_nil)))) (pa_cons (pv 6) pa_nil)))))
  (pss_one (ps_ret pe_bl))
  pss_nil)
  (pss_cons (ps_expr (pe_meth (pv 7) L_Directory.cl D_Directory_set_limit.m G_Directory_set_limit (hr.mono (by decide)) D_Directory_set_limit.b .nil pass0 (pa_cons (pe_op op_mod (pe_callTy call_int1 (by rfl) T.int (by decide +kernel) (pa_cons (pe_op op_fdiv (pv 4) pe_int) pa_nil)) pe_int) pa_nil)))
  (pss_one (ps_ret (pe_call G__law_same (hr.mono (by decide)) (by rfl) D__law_same.g D__law_same.F.kp D__law_same.b .nil pass0 (pa_cons (pe_pr (pe_meth (pv 0) L_Tree.cl D_Tree_node.m G_Tree_node (hr.mono (by decide)) D_Tree_node.b .nil passL (pa_cons (pv 6) pa_nil)) L_Directory.cl D_Directory_limit G_Directory_limit (hr.mono (by decide)) pass0 rfl) (pa_cons (pe_op op_mod (pe_callTy call_int1 (by rfl) T.int (by decide +kernel) (pa_cons (pe_op op_fdiv (pv 4) pe_int) pa_nil)) pe_int) pa_nil)))))))))
  pss_nil)
  (pss_cons (ps_set (i := 8) sc__law_attach.nd rfl (.inl rfl) (pe_make0 (L_File.make D_File___init__) G_File___init__ (hr.mono (by decide)) (by rfl) L_File.g D_File___init__.b .nil pass0))
  (pss_cons (ps_set (i := 9) sc__law_attach.nd rfl (.inl rfl) (pe_call G__law_text (hr.mono (by decide)) (by rfl) D__law_text.g D__law_text.F.kp D__law_text.b .nil pass0 (pa_cons (pe_op op_fdiv (pv 4) pe_int) pa_nil)))
  (pss_cons (ps_if (pt_cmpR op_ne (pv 9) pe_str (nomark _))
  (pss_one (ps_expr (pe_meth (pv 8) L_File.cl D_File_add_piece.m G_File_add_piece (hr.mono (by decide)) D_File_add_piece.b .nil pass0 (pa_cons (pe_tup (pa_cons (pe_op op_add pe_int (pe_op op_mod (pe_callTy call_int1 (by rfl) T.int (by decide +kernel) (pa_cons (pv 4) pa_nil)) pe_int)) (pa_cons pe_int (pa_cons pe_int (pa_cons (pv 9) pa_nil))))) pa_nil))))
  pss_nil)
  (pss_cons (ps_expr (pe_bm PySem.F.plainAttrs_list PySem.F.slot_list_append PySem.F.type_list_append mt_append (pv 1) (pa_cons (pe_lst (pa_cons pe_int (pa_cons (pv 5) (pa_cons (pe_callB call_len_str (by rfl) T.len PySem.boot_len (pa_cons (pv 9) pa_nil)) pa_nil)))) pa_nil)))
  (pss_cons (ps_if (pt_not (pt_val (pe_call G__law_same (hr.mono (by decide)) (by rfl) D__law_same.g D__law_same.F.kp D__law_same.b .nil pass0 (pa_cons (pe_meth (pv 0) L_Tree.cl D_Tree_attach.m G_Tree_attach (hr.mono (by decide)) D_Tree_attach.b .nil pass0 (pa_cons (pv 2) (pa_cons (pv 3) (pa_cons (pv 8) pa_nil)))) (pa_cons (pv 6) pa_nil)))))
  (pss_one (ps_ret pe_bl))
  pss_nil)
  (pss_cons (ps_if (pt_cmpR op_eq (pe_op op_mod (pe_callTy call_int1 (by rfl) T.int (by decide +kernel) (pa_cons (pe_op op_fdiv (pv 4) pe_int) pa_nil)) pe_int) pe_int (nomark _))
  (pss_cons (ps_expr (pe_meth (pv 8) L_File.cl D_File_add_piece.m G_File_add_piece (hr.mono (by decide)) D_File_add_piece.b .nil pass0 (pa_cons (pe_tup (pa_cons pe_int (pa_cons pe_int (pa_cons pe_int (pa_cons pe_str pa_nil))))) pa_nil)))
  (pss_cons (ps_set (i := 10) sc__law_attach.nd rfl (.inl rfl) (pe_meth (pv 0) L_Tree.cl D_Tree_node.m G_Tree_node (hr.mono (by decide)) D_Tree_node.b .nil passL (pa_cons (pv 6) pa_nil)))
  (pss_cons (ps_expr (pe_meth (pv 10) L_File.cl D_File_add_piece.m G_File_add_piece (hr.mono (by decide)) D_File_add_piece.b .nil pass0 (pa_cons (pe_tup (pa_cons pe_int (pa_cons pe_int (pa_cons pe_int (pa_cons pe_str pa_nil))))) pa_nil)))
  (pss_one (ps_asg (pe_op op_add (pe_callB call_len_str (by rfl) T.len PySem.boot_len (pa_cons (pv 9) pa_nil)) pe_int) (pg_sub (pe_ix ix_list (pv 1) (pv 6) (fun _ _ => rfl)) pe_int set_list))))))
  pss_nil)
  (pss_one (ps_ret pe_bl)))))))))))), ?_⟩
    have hpm := List.mem_of_getElem? hp
    have hR := I.rws (by omega) 1 2 rfl rfl hA
    have hp6 := I.deep p hpm
    refine q_asgL (el_catV (hR.row hpm (v := .ref p.pa) rfl (hR.at_ hp (ev_var rfl) (ev_var rfl))) (hR.p p hpm) (el_lst (ea_cons (ev_var rfl) ea_nil) (by show 1 ≤ 100000; decide)) (by rw [List.length_map]; show p.path.length + 1 ≤ 100000; omega)) fun pp H1 np e1 hpp => ?_
    have hxs : p.path.map V.str ++ [V.str z] = (p.path ++ [z]).map V.str := by rw [List.map_append]; rfl
    rw [hxs] at hpp
    have hB1 : ov B H H1 pp = some (.lst ((p.path ++ [z]).map V.str)) := ov_fresh (at_base hA) np hpp
    have hA := at_grow hA e1
    have I1 := I.mono (Nat.le_refl k) (ov_base (H := B) (H1 := H) (H2 := H1))
    have b1 : Ex B (ov B H H1) := ov_base
    generalize ov B H H1 = B1 at hB1 hA I1 b1
    clear hR
    have hR := I1.rws (by omega) 1 2 rfl rfl hA
    have hxn : ∀ y ∈ p.path ++ [z], nmS y = true := fun y hy => by
      rcases List.mem_append.mp hy with hy | hy
      · exact I.nm p hpm y hy
      · rw [List.mem_singleton.mp hy]; exact hz
    obtain ⟨i, hi⟩ := lat_ex ns (p.path ++ [z])
    refine q_when (b := decide (kdN p = 1) || (decide ((((p.path ++ [z]).map V.str).length : Int) > 6) || decide (i ≥ 0))) (et_or (et_test (ev_op (hR.row hpm (v := .int (kdN p)) rfl (hR.at_ hp (ev_var rfl) (ev_var rfl))) ev_c rv_eqI)) fun _ => et_or (et_test (ev_op (ev_cb (ea_cons (ev_var rfl) ea_nil) (rc_len (sq_of hpp))) ev_c rv_I0)) fun _ => et_test (ev_op (ev_call (ea_cons (ev_var rfl) (ea_cons (ev_var rfl) ea_nil)) (spLAt_v I1.wf hR hpp hxn hi)) ev_c rv_I0)) (fun hb H2 e2 => ?_) (fun hb H2 e2 => ?_)
    · exact s_ret ev_c fun H3 e3 => q ns B1 H3 b1 (I1.mono (Nat.le_succ k) (Ex.refl _)) (at_ex hA (e2.trans e3))
    · obtain ⟨hb1, hb⟩ := Bool.or_eq_false_iff.mp hb
      obtain ⟨hb2, hb3⟩ := Bool.or_eq_false_iff.mp hb
      have hb1 := of_decide_eq_false hb1
      have hb2 := of_decide_eq_false hb2
      have hb3 := of_decide_eq_false hb3
      have hf : p.file = false := by
        cases h : p.file with
        | false => rfl
        | true => exact absurd (by unfold kdN; rw [if_pos h]) hb1
      have hl6 : p.path.length < 6 := by
        rw [List.length_map, List.length_append] at hb2
        have e : ([z] : List Str).length = 1 := rfl
        omega
      have hx := lat_no hi (by omega)
      have hA := at_ex hA e2
      have hpl : p.l.length < 1000 := by have := I.few p hpm; omega
      have hnl : ns.length < 900 := by have := I.len; omega
      have hrl : (roL ns).length = ns.length := List.length_map _
      refine qe_asg (x := .int (ns.length : Int)) hA (ev_is (ev_cb (ea_cons (ev_var rfl) ea_nil) (rc_len (sq_of (at_get (a := nd) 1 rfl hA)))) (by rw [hrl])) fun H3 hA => ?_
      refine q_when (b := decide (dr % 2 = 0)) (et_test (ev_op (ev_op (ev_cb (ea_cons (ev_var rfl) ea_nil) rc_int) ev_c (rv_I (by decide))) ev_c rv_eqI)) (fun _ H4 e4 => ?_) (fun _ H4 e4 => ?_)
      · -- a folder
        refine q_appN (vs := [.int 0, .ref pp, .int 0]) 1 rfl (at_ex hA e4) (ev_var rfl) (ea_cons ev_c (ea_cons (ev_var rfl) (ea_cons ev_c ea_nil))) (by show 3 ≤ 100000; decide) (by omega) fun ro H5 hA => ?_
        refine q_do (make_at hA ea_nil fun d dx H6 hA => ⟨d, dx, _, _, rfl, hA, fun H7 hA => ⟨rfl, ?_⟩⟩)
        have hA : At B1 (TrM K CT CF CD t ns :: DrM K CD d [] .non :: Pt ro (.lst [.int 0, .ref pp, .int 0]) :: Pt nd (.lst (roL ns ++ [.ref ro])) :: Each ns RwM :: Fr) H7 := at_ix 3 [2, 0, 1] hA
        obtain ⟨tx, nl, pl, ht⟩ := tr_ins hA
        have hA : At B1 (DrM K CD d [] .non :: TrM K CT CF CD t ns :: Pt ro (.lst [.int 0, .ref pp, .int 0]) :: Pt nd (.lst (roL ns ++ [.ref ro])) :: Each ns RwM :: Fr) H7 := at_swap hA
        refine q_notT (go_call (go_cons' (go_meth (ev_var rfl) ht rfl fun H8 e8 => go_cons (ev_var rfl) fun H9 e9 => go_cons (ev_var rfl) fun H10 e10 => go_cons (ev_var rfl) fun H11 e11 => go_nil ⟨t, ns, j, p, ⟨false, d, j, z, p.path ++ [z], [], [], .non, ro, pp⟩, B1, _, rfl, at_ex hA (e8.trans (e9.trans (e10.trans e11))), hp, hf, rfl, hpl, hnl, fun B2 H12 b2 hA => go_cons (ev_var rfl) fun H13 e13 => go_nil ⟨_, _, .int (ns.length : Int), rfl, .int _, .int _, .int _, fun H14 e14 => ⟨true, rfl, ?_⟩⟩⟩)))
        rw [if_neg (by decide)]
        generalize hp1 : ({ p with l := putK p.l z (.int (ns.length : Int)) } : Nd) = p1 at hA
        have hls : (ns.set j p1).length = ns.length := List.length_set
        have hn1 := at_last (ns.set j p1) ⟨false, d, j, z, p.path ++ [z], [], [], .non, ro, pp⟩
        rw [hls] at hn1
        obtain ⟨tx, nl, pl, hA⟩ := tr_take (at_ex hA (e13.trans e14)) hn1
        rw [nd_dir rfl] at hA
        obtain ⟨dx, en, hd⟩ := dr_ins hA
        refine q_drop0 (go_meth (ev_var rfl) hd rfl fun H15 e15 => go_cons (ev_op (ev_cb (ea_cons (ev_op (ev_var rfl) ev_c (rv_I ⟨by decide, by decide⟩)) ea_nil) rc_int) ev_c (rv_I (by decide))) fun H16 e16 => go_nil ⟨d, .int (dr / 2 % 1000), [], .non, B2, _, rfl, at_ex hA (e15.trans e16), fun H17 hA => ?_⟩)
        generalize hli : dr / 2 % 1000 = li at hA
        have hA := tr_put (n' := ⟨false, d, j, z, p.path ++ [z], [], [], .int li, ro, pp⟩) hn1 rfl rfl (show At B2 (NdM K CF CD ⟨false, d, j, z, p.path ++ [z], [], [], .int li, ro, pp⟩ :: _) H17 by rw [nd_dir rfl]; exact hA)
        have hsl := set_last (ns.set j p1) (⟨false, d, j, z, p.path ++ [z], [], [], .non, ro, pp⟩ : Nd) ⟨false, d, j, z, p.path ++ [z], [], [], .int li, ro, pp⟩
        rw [hls] at hsl
        rw [hsl] at hA
        have hn2 := at_last (ns.set j p1) ⟨false, d, j, z, p.path ++ [z], [], [], .int li, ro, pp⟩
        rw [hls] at hn2
        have hA0 := hA
        obtain ⟨tx, nl, pl, ht⟩ := tr_ins hA
        obtain ⟨tx, nl, pl, hA⟩ := tr_take hA hn2
        rw [nd_dir rfl] at hA
        obtain ⟨dx, en, hd⟩ := dr_ins hA
        refine r_do (go_call (go_cons' (go_prop (go_meth (ev_var rfl) ht rfl fun H18 e18 => go_cons (ev_var rfl) fun H19 e19 => go_nil ⟨t, _, _, B2, _, rfl, at_ex hA0 (e18.trans e19), fun k' n' hk' hn' H20 e20 => ?_, fun hh => ?_⟩))))
        · have hkk : k' = ns.length := by omega
          subst hkk
          rw [hn2] at hn'
          cases hn'
          refine ⟨d, dx, _, rfl, (e18.trans (e19.trans e20)) _ _ hd, d, [], .int li, B2, _, rfl, at_ex hA (e18.trans (e19.trans e20)), fun H21 e21 => go_cons (ev_op (ev_cb (ea_cons (ev_op (ev_var rfl) ev_c (rv_I ⟨by decide, by decide⟩)) ea_nil) rc_int) ev_c (rv_I (by decide))) fun H22 e22 => go_nil ⟨_, _, .int li, rfl, .int _, ?_, .int _, fun H23 e23 => ?_⟩⟩
          · rw [hli]
            exact .int li
          · have I3 := (I1.mono (Nat.le_refl k) b2).attach (n := ⟨false, d, j, z, p.path ++ [z], [], [], .int li, ro, pp⟩) hp hf hx hl6 hz rfl rfl rfl rfl (Nat.zero_le _) (b2 _ _ hB1)
            have hA := at_ix 4 [1, 2, 3, 0] (at_ex hA0 (e18.trans (e19.trans (e20.trans (e21.trans (e22.trans e23))))))
            have hA := rows_app (n := ⟨false, d, j, z, p.path ++ [z], [], [], .int li, ro, pp⟩) (l := putK p.l z (.int (ns.length : Int))) hp hA
            rw [hp1] at I3 hA
            exact q _ B2 H23 (b1.trans b2) I3 (at_ix 3 [2, 0, 1] hA)
        · rw [List.length_append, hls] at hh
          have e : ([(⟨false, d, j, z, p.path ++ [z], [], [], .int li, ro, pp⟩ : Nd)] : List Nd).length = 1 := rfl
          rw [e] at hh
          omega
      · -- a file
        refine q_do (make_at (at_ex hA e4) ea_nil fun d dx H6 hA => ⟨d, dx, _, _, rfl, hA, fun H7 hA => ⟨rfl, ?_⟩⟩)
        refine q_do (go_call (go_cons (ev_op (ev_var rfl) ev_c (rv_I ⟨by decide, by decide⟩)) fun H8 e8 => go_nil ⟨dr / 2, rfl, fun zt H9 e9 _ hzl => ?_⟩))
        have hA := at_ex hA (e8.trans e9)
        refine q_whenM (fun H' => ∃ ps B2, Ex B1 B2 ∧ ps.length ≤ 1 ∧ flN ps = (zt.length : Int) ∧ At B2 (FlM K CF d ps false :: TrM K CT CF CD t ns :: Pt nd (.lst (roL ns)) :: Each ns RwM :: Fr) H') (b := !decide (V.str zt = V.str "")) (et_test (ev_op (ev_var rfl) ev_c (rv_ne rfl))) (fun hb H10 e10 => ?_) (fun hb H10 e10 Dn hM => ?_) (fun H' hM => ?_)
        · have hzt : V.str zt = V.str "" := of_decide_eq_true (bnot_f hb)
          cases hzt
          exact ⟨[], B1, Ex.refl _, Nat.zero_le _, rfl, at_ex hA e10⟩
        · exact s_drop0 (add_at (at_ex hA e10) (ev_var rfl) (ea_cons (ev_op ev_c (ev_op (ev_cb (ea_cons (ev_var rfl) ea_nil) rc_int) ev_c (rv_I (by decide))) rv_I0) (ea_cons ev_c (ea_cons ev_c (ea_cons (ev_var rfl) ea_nil)))) (by omega) (by decide) fun r B2 H11 b2 hA => hM H11 ⟨_, B2, b2, by exact Nat.le_refl 1, by rw [flN_snoc]; show (0 : Int) + (zt.length : Int) = _; omega, hA⟩)
        · obtain ⟨ps, B2, b2, hps, hfl, hA⟩ := hM
          refine q_appN (vs := [.int 1, .ref pp, .int (zt.length : Int)]) 2 rfl hA (ev_var rfl) (ea_cons ev_c (ea_cons (ev_var rfl) (ea_cons (ev_cb (ea_cons (ev_var rfl) ea_nil) (rc_lenS (by omega))) ea_nil))) (by show 3 ≤ 100000; decide) (by omega) fun ro H11 hA => ?_
          have hA : At B2 (TrM K CT CF CD t ns :: FlM K CF d ps false :: Pt ro (.lst [.int 1, .ref pp, .int (zt.length : Int)]) :: Pt nd (.lst (roL ns ++ [.ref ro])) :: Each ns RwM :: Fr) H11 := at_ix 3 [2, 1, 0] hA
          obtain ⟨tx, nl, pl, ht⟩ := tr_ins hA
          have hA : At B2 (FlM K CF d ps false :: TrM K CT CF CD t ns :: Pt ro (.lst [.int 1, .ref pp, .int (zt.length : Int)]) :: Pt nd (.lst (roL ns ++ [.ref ro])) :: Each ns RwM :: Fr) H11 := at_swap hA
          refine q_notT (go_call (go_cons' (go_meth (ev_var rfl) ht rfl fun H12 e12 => go_cons (ev_var rfl) fun H13 e13 => go_cons (ev_var rfl) fun H14 e14 => go_cons (ev_var rfl) fun H15 e15 => go_nil ⟨t, ns, j, p, ⟨true, d, j, z, p.path ++ [z], ps, [], .non, ro, pp⟩, B2, _, rfl, at_ex hA (e12.trans (e13.trans (e14.trans e15))), hp, hf, rfl, hpl, hnl, fun B3 H16 b3 hA => go_cons (ev_var rfl) fun H17 e17 => go_nil ⟨_, _, .int (ns.length : Int), rfl, .int _, .int _, .int _, fun H18 e18 => ⟨true, rfl, ?_⟩⟩⟩)))
          rw [if_neg (by decide)]
          have hA := at_ex hA (e17.trans e18)
          generalize hp1 : ({ p with l := putK p.l z (.int (ns.length : Int)) } : Nd) = p1 at hA
          have hls : (ns.set j p1).length = ns.length := List.length_set
          have hn1 := at_last (ns.set j p1) ⟨true, d, j, z, p.path ++ [z], ps, [], .non, ro, pp⟩
          rw [hls] at hn1
          -- how it ends
          have fin : ∀ (ps' : List PyData) (B4 : Hp) (H' : Hp), Ex B2 B4 → ps'.length ≤ 3 → At B4 (TrM K CT CF CD t (ns.set j p1 ++ [⟨true, d, j, z, p.path ++ [z], ps', [], .non, ro, pp⟩]) :: Pt ro (.lst [.int 1, .ref pp, .int (flN ps')]) :: Pt nd (.lst (roL ns ++ [.ref ro])) :: Each ns RwM :: Fr) H' → Q (.bl true) H' := fun ps' B4 H' b4 h3 hA => by
            have I3 := (I1.mono (Nat.le_refl k) (b2.trans b4)).attach (n := ⟨true, d, j, z, p.path ++ [z], ps', [], .non, ro, pp⟩) hp hf hx hl6 hz rfl rfl rfl rfl h3 ((b2.trans b4) _ _ hB1)
            have hA := at_ix 4 [1, 2, 3, 0] hA
            have hA := rows_app (n := ⟨true, d, j, z, p.path ++ [z], ps', [], .non, ro, pp⟩) (l := putK p.l z (.int (ns.length : Int))) hp hA
            rw [hp1] at I3 hA
            exact q _ B4 H' (b1.trans (b2.trans b4)) I3 (at_ix 3 [2, 0, 1] hA)
          refine q_when (b := decide (dr / 8 % 3 = 1)) (et_test (ev_op (ev_op (ev_cb (ea_cons (ev_op (ev_var rfl) ev_c (rv_I ⟨by decide, by decide⟩)) ea_nil) rc_int) ev_c (rv_I (by decide))) ev_c rv_eqI)) (fun _ H19 e19 => ?_) (fun _ H19 e19 => ?_)
          · -- what comes late
            obtain ⟨tx, nl, pl, hA⟩ := tr_take (at_ex hA e19) hn1
            rw [nd_file rfl] at hA
            refine q_drop0 (add_at hA (ev_var rfl) (ea_cons ev_c (ea_cons ev_c (ea_cons ev_c (ea_cons ev_c ea_nil)))) (by decide) (by show ps.length < 1000; omega) fun r B4 H20 b4 hA => ?_)
            generalize hps1 : ps ++ [PyData.tuple [.int 100, .int 1, .int 1, .str "late"]] = ps1 at hA
            have hA := tr_put (n' := ⟨true, d, j, z, p.path ++ [z], ps1, [], .non, ro, pp⟩) hn1 rfl rfl (show At B4 (NdM K CF CD ⟨true, d, j, z, p.path ++ [z], ps1, [], .non, ro, pp⟩ :: _) H20 by rw [nd_file rfl]; exact hA)
            have hsl := set_last (ns.set j p1) (⟨true, d, j, z, p.path ++ [z], ps, [], .non, ro, pp⟩ : Nd) ⟨true, d, j, z, p.path ++ [z], ps1, [], .non, ro, pp⟩
            rw [hls] at hsl
            rw [hsl] at hA
            have hn2 := at_last (ns.set j p1) ⟨true, d, j, z, p.path ++ [z], ps1, [], .non, ro, pp⟩
            rw [hls] at hn2
            obtain ⟨tx, nl, pl, ht⟩ := tr_ins hA
            refine q_do (go_meth (ev_var rfl) ht rfl fun H21 e21 => go_cons (ev_var rfl) fun H22 e22 => go_nil ⟨t, _, _, B4, _, rfl, at_ex hA (e21.trans e22), fun k' n' hk' hn' H23 e23 => ?_, fun hh => ?_⟩)
            · have hkk : k' = ns.length := by omega
              subst hkk
              rw [hn2] at hn'
              cases hn'
              have hA := at_ex hA (e21.trans (e22.trans e23))
              obtain ⟨tx, nl, pl, hA⟩ := tr_take hA hn2
              rw [nd_file rfl] at hA
              refine q_drop0 (add_at hA (ev_var rfl) (ea_cons ev_c (ea_cons ev_c (ea_cons ev_c (ea_cons ev_c ea_nil)))) (by decide) (by rw [← hps1, List.length_append]; show ps.length + 1 < 1000; omega) fun r B5 H24 b5 hA => ?_)
              generalize hps2 : ps1 ++ [PyData.tuple [.int 101, .int 1, .int 2, .str "x"]] = ps2 at hA
              have hA := tr_put (n' := ⟨true, d, j, z, p.path ++ [z], ps2, [], .non, ro, pp⟩) hn2 rfl rfl (show At B5 (NdM K CF CD ⟨true, d, j, z, p.path ++ [z], ps2, [], .non, ro, pp⟩ :: _) H24 by rw [nd_file rfl]; exact hA)
              have hsl := set_last (ns.set j p1) (⟨true, d, j, z, p.path ++ [z], ps1, [], .non, ro, pp⟩ : Nd) ⟨true, d, j, z, p.path ++ [z], ps2, [], .non, ro, pp⟩
              rw [hls] at hsl
              rw [hsl] at hA
              have hf2 : flN ps2 = (zt.length : Int) + 5 := by
                rw [← hps2, flN_snoc, ← hps1, flN_snoc, hfl]
                show (zt.length : Int) + 4 + 1 = _
                omega
              have hln : ps2.length ≤ 3 := by
                rw [← hps2, ← hps1, List.length_append, List.length_append]
                show ps.length + 1 + 1 ≤ 3
                omega
              have hro := at_last (roL ns) (V.ref ro)
              rw [hrl] at hro
              refine s_setA (v := .int ((zt.length : Int) + 5)) 1 rfl hA (ev_op (ev_cb (ea_cons (ev_var rfl) ea_nil) (rc_lenS (by omega))) ev_c rv_I0) (fun H25 e25 => ev_op (ev_var rfl) (ev_var rfl) (rv_ixL (sq_of (at_get (a := nd) 2 rfl (at_ex hA e25))) (atI_nat (j := ns.length) hro))) (fun H25 => ev_c) (m := 2) rfl fun H25 hA => ?_
              dsimp only
              refine s_ret ev_c fun H26 e26 => fin ps2 B5 H26 (b3.trans (b4.trans b5)) hln ?_
              rw [hf2]
              exact at_ex hA e26
            · rw [List.length_append, hls] at hh
              have e : ([(⟨true, d, j, z, p.path ++ [z], ps1, [], .non, ro, pp⟩ : Nd)] : List Nd).length = 1 := rfl
              rw [e] at hh
              omega
          · refine s_ret ev_c fun H20 e20 => fin ps B3 H20 b3 (by omega) ?_
            rw [hfl]
            exact at_ex hA (e19.trans e20)
theorem given_next (n : Nat) (f : Nat → Bool) (v : Nat → V) : Evl.given (n + 1) f v = (if f 0 = true then [v 0] else []) ++ Evl.given n (fun i => f (i + 1)) (fun i => v (i + 1)) := by
  unfold Evl.given
  rw [List.range_succ_eq_map, List.filter_cons, List.filter_map]
  split <;> simp [Function.comp_def]
theorem given_filterN {α : Type} (f : α → Bool) (g : α → V) (d : α) : ∀ xs : List α, Evl.given xs.length (fun i => f (xs.getD i d)) (fun i => g (xs.getD i d)) = (xs.filter f).map g
  | [] => rfl
  | x :: r => by
    rw [List.length_cons, given_next]
    have ih := given_filterN f g d r
    show (if f x = true then [g x] else []) ++ Evl.given r.length (fun i => f (r.getD i d)) (fun i => g (r.getD i d)) = _
    rw [ih, List.filter_cons]
    split <;> rfl
theorem cutV_fromN (xs : List V) (m : Nat) : cutV xs (some (m : Int)) none = xs.drop m := cutA_from xs m
theorem cutV_toN (xs : List V) (m : Nat) : cutV xs none (some (m : Int)) = xs.take m := cutA_to25 xs m
theorem max_ex : ∀ (xs : List Int), xs ≠ [] → ∃ M, M ∈ xs ∧ ∀ y ∈ xs, y ≤ M
  | [], h => absurd rfl h
  | x :: r, _ => by
    obtain ⟨h1, h2, h3⟩ := foldl_max r x
    refine ⟨r.foldl max x, ?_, fun y hy => ?_⟩
    · rcases h1 with h1 | h1
      · rw [h1]; exact List.mem_cons_self
      · exact List.mem_cons_of_mem _ h1
    · rcases List.mem_cons.mp hy with rfl | hy
      · exact h2
      · exact h3 y hy
theorem rc_maxM {H : Hp} {a : Addr} {ns : List Int} {M : Int} (h : H a = some (.lst (ns.map V.int))) (hM : M ∈ ns) (hy : ∀ y ∈ ns, y ≤ M) : RC (rMax K) [.ref a] H (.int M) := fun H1 e1 Q q => ⟨a, ns, rfl, sq_of (e1 _ _ h), List.length_pos_of_mem hM, fun m hm hmy => by
  have := hmy M hM
  have := hy m hm
  have : m = M := by omega
  rw [this]
  exact q H1 (Ex.refl H1)⟩
/-- the rows inside a path, one after another -/
theorem lc_rows {σ : L2.St} {H : Hp} {nd : Addr} {ns : List Nd} (hR : RwS H nd ns) {α : Type} (f : Nd → Bool) (g : Nd → V) {tl te : TE} {t : TT} {j : Nat} {vs : List Nat} (hl : Ev tl σ H (.ref nd)) (hw : ∀ x, wipe ((wipe σ vs).set j (some x)) vs = wipe σ vs)
    (ht : ∀ n ∈ ns, ∀ H1, Ex H H1 → EvT t ((wipe σ vs).set j (some (.ref n.ro))) H1 (f n)) (he : ∀ n ∈ ns, ∀ H1, Ex H H1 → f n = true → Ev te ((wipe σ vs).set j (some (.ref n.ro))) H1 (g n)) : EvL (tLc (iList K tl) (gName j) t te vs) σ H ((ns.filter f).map g) := by
  cases hns : ns with
  | nil =>
    subst hns
    exact el_lcL (K := K) (xs := []) (fun _ => true) (fun _ => .non) hl (sq_of hR.l) (by decide) hw (fun i x H1 e1 h => nomatch h) (fun i x H1 e1 h => nomatch h)
  | cons n0 r =>
    rw [← hns]
    have key : ∀ (i : Nat) (x : V), (roL ns)[i]? = some x → ns.getD i n0 ∈ ns ∧ x = .ref (ns.getD i n0).ro := fun i x h => by
      unfold roL at h
      rw [List.getElem?_map] at h
      cases hn : ns[i]? with
      | none => rw [hn] at h; cases h
      | some n =>
        rw [hn] at h
        cases h
        rw [List.getD_eq_getElem?_getD, hn]
        exact ⟨List.mem_of_getElem? hn, rfl⟩
    have h := el_lcL (K := K) (xs := roL ns) (fun i => f (ns.getD i n0)) (fun i => g (ns.getD i n0)) hl (sq_of hR.l) (t := t) (te := te) (by unfold roL; rw [List.length_map]; have := hR.few; omega) hw (fun i x H1 e1 hx => by
      obtain ⟨h1, rfl⟩ := key i x hx
      exact ht _ h1 H1 e1) (fun i x H1 e1 hx hf => by
      obtain ⟨h1, rfl⟩ := key i x hx
      exact he _ h1 H1 e1 hf)
    have hl : (roL ns).length = ns.length := List.length_map _
    rw [hl, given_filterN] at h
    exact h
/-- the tree's own part of the nodes is the same -/
structure SameT (ns ns' : List Nd) : Prop where
  a : adL ns' = adL ns
  p : ns'.map plD = ns.map plD
  m : ∀ (CF CD : Addr) (K : PySem.W.Frag), ns'.map (NdM K CF CD) = ns.map (NdM K CF CD)
theorem tr_same {B H : Hp} {F : List MP} {CT CF CD t : Addr} {ns ns' : List Nd} (S : SameT ns ns') (h : At B (TrM K CT CF CD t ns :: F) H) : At B (TrM K CT CF CD t ns' :: F) H := by
  obtain ⟨dx, nl, pl, h⟩ := tr_open h
  refine tr_close (dx := dx) (nl := nl) (pl := pl) ?_
  have e2 : plc ns' = plc ns := congrArg plcD S.p
  have e3 : Each ns' (NdM K CF CD) = Each ns (NdM K CF CD) := congrArg Stars (S.m CF CD K)
  rw [S.a, e2, e3]
  exact h
theorem SameT.set {ns : List Nd} {k : Nat} {n n' : Nd} (hn : ns[k]? = some n) (h1 : n'.ad = n.ad) (h2 : plD n' = plD n) (h3 : n'.file = n.file) (h4 : n'.ps = n.ps) (h5 : n'.l = n.l) (h6 : n'.lim = n.lim) : SameT ns (ns.set k n') := ⟨map_same (g := fun n : Nd => V.ref n.ad) hn (by rw [h1]), map_same (g := plD) hn h2, fun CF CD K => map_same (g := NdM K CF CD) hn (by unfold NdM; rw [h1, h3, h4, h5, h6])⟩
structure RenK (a b : List Str) (k : Nat) (ns ns1 : List Nd) : Prop where
  len : ns1.length = ns.length
  at_ : ∀ (i : Nat) (m m1 : Nd), ns[i]? = some m → ns1[i]? = some m1 → ∃ q, m1 = { m with path := if i < k then renP a b m.path else m.path, pa := q }
theorem RenK.start (a b : List Str) (ns : List Nd) : RenK a b 0 ns ns := ⟨rfl, fun i m m1 h1 h2 => by
  rw [h1] at h2
  cases h2
  exact ⟨m.pa, by rw [if_neg (Nat.not_lt_zero i)]⟩⟩
theorem RenK.stay {a b : List Str} {k : Nat} {ns ns1 : List Nd} {m : Nd} (R : RenK a b k ns ns1) (hm : ns[k]? = some m) (h : inB a m.path = false) : RenK a b (k + 1) ns ns1 := ⟨R.len, fun i m' m1 h1 h2 => by
  obtain ⟨q, hq⟩ := R.at_ i m' m1 h1 h2
  refine ⟨q, ?_⟩
  rw [hq]
  by_cases e : i = k
  · subst e
    rw [hm] at h1
    cases h1
    rw [if_neg (Nat.lt_irrefl i), if_pos (Nat.lt_succ_self i), renP_out h]
  · by_cases h3 : i < k
    · rw [if_pos h3, if_pos (by omega)]
    · rw [if_neg h3, if_neg (by omega)]⟩
theorem RenK.go {a b : List Str} {k : Nat} {ns ns1 : List Nd} {m m1 : Nd} {q : Addr} (R : RenK a b k ns ns1) (hm : ns[k]? = some m) (hm1 : ns1[k]? = some m1) : RenK a b (k + 1) ns (ns1.set k { m1 with path := renP a b m.path, pa := q }) := ⟨by rw [List.length_set, R.len], fun i m' m2 h1 h2 => by
  by_cases e : k = i
  · subst e
    rw [List.getElem?_set_self (List.getElem?_eq_some_iff.mp hm1).1] at h2
    cases h2
    rw [hm] at h1
    cases h1
    obtain ⟨r, hr⟩ := R.at_ k m m1 hm hm1
    refine ⟨q, ?_⟩
    rw [hr, if_pos (Nat.lt_succ_self k)]
  · rw [List.getElem?_set_ne e] at h2
    obtain ⟨r, hr⟩ := R.at_ i m' m2 h1 h2
    refine ⟨r, ?_⟩
    rw [hr]
    by_cases h3 : i < k
    · rw [if_pos h3, if_pos (by omega)]
    · rw [if_neg h3, if_neg (by omega)]⟩
theorem RenK.back {a b : List Str} {k : Nat} {ns ns1 : List Nd} (R : RenK a b k ns ns1) {i : Nat} {m1 : Nd} (h : ns1[i]? = some m1) : ∃ m q, ns[i]? = some m ∧ m1 = { m with path := if i < k then renP a b m.path else m.path, pa := q } := by
  have hi := (List.getElem?_eq_some_iff.mp h).1
  have hi' : i < ns.length := by rw [← R.len]; exact hi
  have hm : ns[i]? = some ns[i] := List.getElem?_eq_getElem hi'
  obtain ⟨q, hq⟩ := R.at_ i _ m1 hm h
  exact ⟨_, q, hm, hq⟩
theorem RenK.fwd {a b : List Str} {k : Nat} {ns ns1 : List Nd} (R : RenK a b k ns ns1) {i : Nat} {m : Nd} (h : ns[i]? = some m) : ∃ m1 q, ns1[i]? = some m1 ∧ m1 = { m with path := if i < k then renP a b m.path else m.path, pa := q } := by
  have hi := (List.getElem?_eq_some_iff.mp h).1
  have hi' : i < ns1.length := by rw [R.len]; exact hi
  have hm : ns1[i]? = some ns1[i] := List.getElem?_eq_getElem hi'
  obtain ⟨q, hq⟩ := R.at_ i m _ h hm
  exact ⟨_, q, hm, hq⟩
theorem renP_names {φ : Str → Prop} {a b q : List Str} (hb : ∀ z ∈ b, φ z) (hq : ∀ z ∈ q, φ z) : ∀ z ∈ renP a b q, φ z := by
  unfold renP
  split
  · intro z hz
    rcases List.mem_append.mp hz with hz | hz
    · exact hb z hz
    · exact hq z (List.mem_of_mem_drop hz)
  · exact hq
/-- the tree after the move, beside the nodes before it -/
theorem RenK.moved {ns ns1 : List Nd} {i j : Nat} {n n1 o1 p p2 : Nd} {z : Str} (R : RenK n.path (p.path ++ [z]) ns.length ns ns1) (hn : ns[i]? = some n) (hn1 : ns1[i]? = some n1) (ho1 : ns1[n1.par]? = some o1) (hij : i ≠ j) (hio : i ≠ n1.par) (hp2 : (ns1.set n1.par { o1 with l := dropK o1.l n1.nm })[j]? = some p2) :
    Mvd ns (((ns1.set n1.par { o1 with l := dropK o1.l n1.nm }).set j { p2 with l := putK p2.l z (.int (i : Int)) }).set i { n1 with par := j, nm := z }) i j n p z := by
  obtain ⟨qn, hqn⟩ := R.at_ i n n1 hn hn1
  have e1 : n1.par = n.par := by rw [hqn]
  have e2 : n1.nm = n.nm := by rw [hqn]
  have hil := (List.getElem?_eq_some_iff.mp hn1).1
  have hol := (List.getElem?_eq_some_iff.mp ho1).1
  have hjl : j < ns1.length := by have := (List.getElem?_eq_some_iff.mp hp2).1; rwa [List.length_set] at this
  have key : ∀ (k : Nat) (m m' : Nd), ns[k]? = some m → (((ns1.set n1.par { o1 with l := dropK o1.l n1.nm }).set j { p2 with l := putK p2.l z (.int (i : Int)) }).set i { n1 with par := j, nm := z })[k]? = some m' → m'.file = m.file ∧ m'.path = renP n.path (p.path ++ [z]) m.path ∧ m'.par = (if k = i then j else m.par) ∧ m'.nm = (if k = i then z else m.nm) ∧ m'.l = if k = j then putK (if k = n.par then dropK m.l n.nm else m.l) z (.int (i : Int)) else if k = n.par then dropK m.l n.nm else m.l := fun k m m' hm hm' => by
    obtain ⟨m1, q, hm1, hq⟩ := R.fwd hm
    rw [if_pos (List.getElem?_eq_some_iff.mp hm).1] at hq
    by_cases hki : k = i
    · subst hki
      rw [List.getElem?_set_self (by rw [List.length_set, List.length_set]; exact hil)] at hm'
      cases hm'
      rw [hn1] at hm1
      cases hm1
      rw [if_pos rfl, if_pos rfl, if_neg hij, if_neg (by rw [← e1]; exact hio), hq]
      exact ⟨rfl, rfl, rfl, rfl, rfl⟩
    · rw [List.getElem?_set_ne (fun e => hki e.symm)] at hm'
      rw [if_neg hki, if_neg hki]
      -- what stands there before the name is put in
      have hb : ∀ x, (ns1.set n1.par { o1 with l := dropK o1.l n1.nm })[k]? = some x → x.file = m.file ∧ x.path = renP n.path (p.path ++ [z]) m.path ∧ x.par = m.par ∧ x.nm = m.nm ∧ x.l = if k = n.par then dropK m.l n.nm else m.l := fun x hx => by
        by_cases hko : n1.par = k
        · subst hko
          rw [List.getElem?_set_self hol] at hx
          cases hx
          rw [ho1] at hm1
          cases hm1
          rw [if_pos e1, ← e2, hq]
          exact ⟨rfl, rfl, rfl, rfl, rfl⟩
        · rw [List.getElem?_set_ne hko, hm1] at hx
          cases hx
          rw [if_neg (fun e => hko (e1.trans e.symm)), hq]
          exact ⟨rfl, rfl, rfl, rfl, rfl⟩
      by_cases hkj : j = k
      · subst hkj
        rw [List.getElem?_set_self (by rw [List.length_set]; exact hjl)] at hm'
        cases hm'
        obtain ⟨a1, a2, a3, a4, a5⟩ := hb p2 hp2
        rw [if_pos rfl]
        refine ⟨a1, a2, a3, a4, ?_⟩
        show putK p2.l z _ = _
        rw [a5]
      · rw [List.getElem?_set_ne hkj] at hm'
        rw [if_neg (fun e => hkj e.symm)]
        exact hb m' hm'
  exact ⟨by rw [List.length_set, List.length_set, List.length_set, R.len], fun k m m' a b => (key k m m' a b).1, fun k m m' a b => (key k m m' a b).2.1, fun k m m' a b => (key k m m' a b).2.2.1, fun k m m' a b => (key k m m' a b).2.2.2.1, fun k m m' a b => (key k m m' a b).2.2.2.2⟩
theorem ev_cbL {σ : L2.St} {H : Hp} {r : List V → Hp → VK → Prop} {te : TE} {xs : List V} {z : V} (h : EvL te σ H xs) (hr : ∀ a H1, Ex H H1 → H1 a = some (.lst xs) → RC r [.ref a] H1 z) : Ev (tCB r (tCons te tNil)) σ H z := fun H1 e Q q => h H1 e _ fun p H2 np e2 hp => hr p H2 (e.trans e2) hp H2 (Ex.refl H2) Q fun H3 e3 => q H3 (e2.trans e3)
theorem el_lcA {σ : L2.St} {H : Hp} {α : Type} {tl te : TE} {p : Addr} {ys : List α} (e g : α → V) {j : Nat} {vs : List Nat} (hl : Ev tl σ H (.ref p)) (hp : H p = some (.lst (ys.map e))) (hz : ys.length ≤ 40000) (hw : ∀ x, wipe ((wipe σ vs).set j (some x)) vs = wipe σ vs)
    (he : ∀ y ∈ ys, ∀ H1, Ex H H1 → Ev te ((wipe σ vs).set j (some (e y))) H1 (g y)) : EvL (tLc (iList K tl) (gName j) tYes te vs) σ H (ys.map g) := fun H1 e1 Q q => hl H1 e1 _ fun H2 e2 => lc_leaf (K := K) e g ((e1.trans e2) _ _ hp) hz hw (fun y hy H3 e3 => he y hy H3 ((e1.trans e2).trans e3)) (fun Dl H3 n3 e3 h3 => q Dl H3 (fresh_back e2 n3) (e2.trans e3) h3)
theorem rws_at {B H : Hp} {ns : List Nd} {nd : Addr} {l : List MP} (a b : Nat) (ha : l[a]? = some (Pt nd (.lst (roL ns)))) (hb : l[b]? = some (Each ns RwM)) (hA : At B l H) (pa : ∀ n ∈ ns, B n.pa = some (.lst (n.path.map V.str))) (nm : ∀ n ∈ ns, ∀ z ∈ n.path, nmS z = true) (few : ns.length ≤ 1000) : RwS H nd ns := ⟨at_get a ha hA, fun n hn => by
  obtain ⟨j, hj⟩ := List.getElem?_of_mem hn
  exact at_get (a := n.ro) 0 rfl (each_at (at_pull b hb hA) hj), fun n hn => at_base hA _ _ (pa n hn), nm, few⟩
theorem s_setN {σ : L2.St} {B H : Hp} {D : Ends} {l : List MP} {te ta ti : TE} {q : Addr} {xs vs : List V} {i : Int} {m : Nat} (k : Nat) (hk : l[k]? = some (Pt q (.lst xs))) (hA : At B l H) (hv : EvL te σ H vs) (ha : ∀ H1, Ex H H1 → Ev ta σ H1 (.ref q)) (hi : ∀ H1, Ev ti σ H1 (.int i)) (hx : ixN xs.length i = some m) (c : ∀ p B1 H1, Ex B B1 → B1 p = some (.lst vs) → At B1 (l.set k (Pt q (.lst (xs.set m (.ref p))))) H1 → D.nx σ H1) : tAsg te (gSub ta ti rSetL) D σ H :=
  hv H (Ex.refl H) _ fun p H1 np e1 hp => ha H1 e1 H1 (Ex.refl H1) _ fun H2 e2 => hi H2 H2 (Ex.refl H2) _ fun H3 e3 => ⟨q, xs, i, m, rfl, rfl, at_get k hk (at_ex hA ((e1.trans e2).trans e3)), hx, c p (ov B H H1) _ ov_base (ov_fresh (at_base hA) np hp) (at_upd k hk (at_ex (at_grow hA e1) (e2.trans e3)))⟩
theorem go_op2 {σ : L2.St} {H : Hp} {r : R2} {ta tb : TE} {Q : VK} (h : ta σ H fun x H1 => tb σ H1 fun y H2 => r x y H2 Q) : tOp r ta tb σ H Q := h
/-- what the three changes of a move leave -/
theorem moved_mem {ns1 : List Nd} {i j : Nat} {n1 o1 p2 : Nd} {z : Str} {v : V} (hn1 : n1 ∈ ns1) (ho1 : o1 ∈ ns1) (hp2 : p2 ∈ ns1.set n1.par { o1 with l := dropK o1.l n1.nm }) {m' : Nd} (h : m' ∈ ((ns1.set n1.par { o1 with l := dropK o1.l n1.nm }).set j { p2 with l := putK p2.l z v }).set i { n1 with par := j, nm := z }) : ∃ m1 ∈ ns1, m'.path = m1.path ∧ m'.pa = m1.pa ∧ m'.ps = m1.ps ∧ m'.l.length ≤ m1.l.length + 1 := by
  have step : ∀ x ∈ ns1.set n1.par { o1 with l := dropK o1.l n1.nm }, ∃ m1 ∈ ns1, x.path = m1.path ∧ x.pa = m1.pa ∧ x.ps = m1.ps ∧ x.l.length ≤ m1.l.length := fun x hx => by
    rcases List.mem_or_eq_of_mem_set hx with hx | rfl
    · exact ⟨x, hx, rfl, rfl, rfl, Nat.le_refl _⟩
    · exact ⟨o1, ho1, rfl, rfl, rfl, dropK_le _ _⟩
  rcases List.mem_or_eq_of_mem_set h with h | rfl
  · rcases List.mem_or_eq_of_mem_set h with h | rfl
    · obtain ⟨m1, a, b, c, d, e⟩ := step m' h
      exact ⟨m1, a, b, c, d, by omega⟩
    · obtain ⟨m1, a, b, c, d, e⟩ := step p2 hp2
      refine ⟨m1, a, b, c, d, ?_⟩
      have := putK_le p2.l z v
      show (putK p2.l z v).length ≤ _
      omega
  · exact ⟨n1, hn1, rfl, rfl, rfl, Nat.le_succ _⟩
def spWMv (K : PySem.W.Frag) (CT CF CD : Addr) : Sp := fun vs H Q _ => ∃ (t nd : Addr) (i j : Nat) (z : Str) (n p : Nd) (ns : List Nd) (k : Nat) (B : Hp) (F : List MP), vs = [.ref t, .ref nd, .int (i : Int), .int (j : Int), .str z] ∧ At B (TrM K CT CF CD t ns :: Pt nd (.lst (roL ns)) :: Each ns RwM :: F) H ∧ InvT k B ns ∧ k < 60 ∧ ns[i]? = some n ∧ ns[j]? = some p ∧ nmS z = true ∧
  ∀ ns' B1 H1, Ex B B1 → ns'.length = ns.length → InvT (k + 1) B1 ns' → At B1 (TrM K CT CF CD t ns' :: Pt nd (.lst (roL ns')) :: Each ns' RwM :: F) H1 → Q (.bl true) H1
theorem ok_lmove {f f1 f2 f3 CT CF CD : Addr} {fd fd1 fd2 fd3 : FuncData} (F : Fun K "_law_move" "_law_move" s__law_move f fd) (D__law_inside : Df K mg "_law_inside" s__law_inside ["path", "top"] f1 fd1) (G__law_inside : FnOk P w K mg base CX0 1 f1 fd1 ["path", "top"] spLIn) (D__law_at : Df K mg "_law_at" s__law_at ["nodes", "path"] f2 fd2) (G__law_at : FnOk P w K mg base CX0 1 f2 fd2 ["nodes", "path"] spLAt)
    (D_Tree_move_node : Dm K CT "move_node" "Tree.move_node" s_Tree_move_node ["self", "number", "parent", "name"] f3 fd3) (G_Tree_move_node : FnOk P w K mg base CX0 3 f3 fd3 ["self", "number", "parent", "name"] (spTrM K CT CF CD)) (L_Tree : Kl K mg "Tree" CT) (T : Glo mg) : FnOk P w K mg base CX0 5 f fd ["tree", "nodes", "number", "at", "name"] (spWMv K CT CF CD) := by
  refine F.ok sc__law_move (fun vs H Q E h => ?_) (fun cdv A outer s H vs Q E hr h => ?_)
  · obtain ⟨t, nd, i, j, z, n, p, ns, k, B, Fr, rfl, _⟩ := h
    rfl
  · obtain ⟨t, nd, i, j, z, n, p, ns, k, B, Fr, rfl, hA, I, hk, hn, hp, hz, q⟩ := h
    refine ⟨_, (pss_cons (ps_set (i := 5) sc__law_move.nd rfl (.inr rfl) (pe_ix ix_list (pe_ix ix_list (pv 1) (pv 2) (fun _ _ => rfl)) pe_int (fun _ _ => rfl)))
  (pss_cons (ps_set (i := 6) sc__law_move.nd rfl (.inl rfl) (pe_op op_cat (pe_ix ix_list (pe_ix ix_list (pv 1) (pv 3) (fun _ _ => rfl)) pe_int (fun _ _ => rfl)) (pe_lst (pa_cons (pv 4) pa_nil))))
  (pss_cons (ps_if (PW.pt (pw_or (pt_cmpR op_eq (pv 2) pe_int (nomark _)) (pw_or (pt_cmpR op_eq (pe_ix ix_list (pe_ix ix_list (pv 1) (pv 3) (fun _ _ => rfl)) pe_int (fun _ _ => rfl)) pe_int (nomark _)) (pw_or (pt_val (pe_call G__law_inside (hr.mono (by decide)) (by rfl) D__law_inside.g D__law_inside.F.kp D__law_inside.b .nil pass0 (pa_cons (pe_ix ix_list (pe_ix ix_list (pv 1) (pv 3) (fun _ _ => rfl)) pe_int (fun _ _ => rfl)) (pa_cons (pv 5) pa_nil)))) (pw_or1 (pt_cmpR op_ge (pe_call G__law_at (hr.mono (by decide)) (by rfl) D__law_at.g D__law_at.F.kp D__law_at.b .nil pass0 (pa_cons (pv 1) (pa_cons (pv 6) pa_nil))) pe_int (nomark _)))))))
  (pss_one (ps_ret pe_bl))
  pss_nil)
  (pss_cons (ps_setLc (i := 7) (own := [("node", 8)]) (g := gName 8) rfl sc__law_move.nd rfl rfl (sw_true rfl rfl rfl (by decide +kernel)) (pi_list (pv 1)) (blkOk_by (N := N__law_move) (sc := defScope s__law_move) (by decide +kernel)) (fun _ _ _ _ _ => (pg_name (i := 8) sc__law_move.nd rfl (.inl rfl))) (fun _ _ _ _ _ => (pts_one (pt_val (pe_call G__law_inside (hr.mono (by decide)) (by rfl) D__law_inside.g D__law_inside.F.kp D__law_inside.b .nil pass0 (pa_cons (pe_ix (show IxR _ (rIxL K) from ix_list) (pv 8) pe_int (fun _ _ => rfl)) (pa_cons (pv 5) pa_nil)))))) (fun _ _ _ _ _ => (pe_ix (show IxR _ (rIxL K) from ix_list) (pv 8) pe_int (fun _ _ => rfl))))
  (pss_cons (ps_if (pt_cmpR op_gt (pe_op op_add (pe_op op_sub (pe_callB (cr_max rfl) (by rfl) T.max (by decide +kernel) (pa_cons (pe_lc (own := [("row", 9)]) (g := gName 9) rfl sc__law_move.nd (pi_list (pv 7)) (blkOk_by (N := N__law_move) (sc := defScope s__law_move) (by decide +kernel)) (fun _ _ _ _ _ => (pg_name (i := 9) sc__law_move.nd rfl (.inl rfl))) (fun _ _ _ _ _ => pts_nil) (fun _ _ _ _ _ => (pe_callB (show CallR _ (Value.builtin "len") (fun xs H Q => ∃ p ys, xs = [V.ref p] ∧ (SqL K H p ys ∨ SqT K H p ys) ∧ Q (V.int ys.length) H) from call_len_seq) (by rfl) T.len PySem.boot_len (pa_cons (pv 9) pa_nil)))) pa_nil)) (pe_callB call_len_seq (by rfl) T.len PySem.boot_len (pa_cons (pv 5) pa_nil))) (pe_callB call_len_seq (by rfl) T.len PySem.boot_len (pa_cons (pv 6) pa_nil))) pe_int (nomark _))
  (pss_one (ps_ret pe_bl))
  pss_nil)
  (pss_cons (ps_for PassesOwn.never rfl (pi_range1 (by rfl) T.range (pa_cons (pe_callB call_len_seq (by rfl) T.len PySem.boot_len (pa_cons (pv 1) pa_nil)) pa_nil)) (pg_name (i := 10) sc__law_move.nd rfl (.inl rfl))
  (pss_one (ps_if (pt_val (pe_call G__law_inside (hr.mono (by decide)) (by rfl) D__law_inside.g D__law_inside.F.kp D__law_inside.b .nil pass0 (pa_cons (pe_ix ix_list (pe_ix ix_list (pv 1) (pv 10) (fun _ _ => rfl)) pe_int (fun _ _ => rfl)) (pa_cons (pv 5) pa_nil))))
  (pss_one (ps_asg (pe_op op_cat (pv 6) (pe_slice sl_list (pe_ix ix_list (pe_ix ix_list (pv 1) (pv 10) (fun _ _ => rfl)) pe_int (fun _ _ => rfl)) (po_some (pe_callB call_len_seq (by rfl) T.len PySem.boot_len (pa_cons (pv 5) pa_nil))) po_none)) (pg_sub (pe_ix ix_list (pv 1) (pv 10) (fun _ _ => rfl)) pe_int set_list)))
  pss_nil)))
  (pss_one (ps_ret (pe_cmpR op_isN (pe_meth (pv 0) L_Tree.cl D_Tree_move_node.m G_Tree_move_node (hr.mono (by decide)) D_Tree_move_node.b .nil pass0 (pa_cons (pv 2) (pa_cons (pv 3) (pa_cons (pv 4) pa_nil)))) pe_non (nomark _)))))))))), ?_⟩
    have hpm := List.mem_of_getElem? hp
    have hnm := List.mem_of_getElem? hn
    have hR := I.rws (by omega) 1 2 rfl rfl hA
    have hp6 := I.deep p hpm
    refine qe_asg (x := .ref n.pa) hA (hR.row hnm (v := .ref n.pa) rfl (hR.at_ hn (ev_var rfl) (ev_var rfl))) fun H0 hA => ?_
    have hR := I.rws (by omega) 1 2 rfl rfl hA
    refine q_asgL (el_catV (hR.row hpm (v := .ref p.pa) rfl (hR.at_ hp (ev_var rfl) (ev_var rfl))) (hR.p p hpm) (el_lst (ea_cons (ev_var rfl) ea_nil) (by show 1 ≤ 100000; decide)) (by rw [List.length_map]; show p.path.length + 1 ≤ 100000; omega)) fun pp H1 np e1 hpp => ?_
    have hxs : p.path.map V.str ++ [V.str z] = (p.path ++ [z]).map V.str := by rw [List.map_append]; rfl
    rw [hxs] at hpp
    have hB1 : ov B H0 H1 pp = some (.lst ((p.path ++ [z]).map V.str)) := ov_fresh (at_base hA) np hpp
    have hA := at_grow hA e1
    have I1 := I.mono (Nat.le_refl k) (ov_base (H := B) (H1 := H0) (H2 := H1))
    have b1 : Ex B (ov B H0 H1) := ov_base
    generalize ov B H0 H1 = B1 at hB1 hA I1 b1
    clear hR
    have hR := I1.rws (by omega) 1 2 rfl rfl hA
    have hxn : ∀ y ∈ p.path ++ [z], nmS y = true := fun y hy => by
      rcases List.mem_append.mp hy with hy | hy
      · exact I.nm p hpm y hy
      · rw [List.mem_singleton.mp hy]; exact hz
    obtain ⟨li, hli⟩ := lat_ex ns (p.path ++ [z])
    refine q_when (b := decide ((i : Int) = 0) || (decide (kdN p = 1) || (inB n.path p.path || decide (li ≥ 0)))) (et_or (et_test (ev_op (ev_var rfl) ev_c rv_eqI)) fun _ => et_or (et_test (ev_op (hR.row hpm (v := .int (kdN p)) rfl (hR.at_ hp (ev_var rfl) (ev_var rfl))) ev_c rv_eqI)) fun _ => et_or (et_B (ev_call (ea_cons (hR.row hpm (v := .ref p.pa) rfl (hR.at_ hp (ev_var rfl) (ev_var rfl))) (ea_cons (ev_var rfl) ea_nil)) (spLIn_v (hR.p p hpm) (I1.nm p hpm) (hR.p n hnm) (I1.nm n hnm)))) fun _ => et_test (ev_op (ev_call (ea_cons (ev_var rfl) (ea_cons (ev_var rfl) ea_nil)) (spLAt_v I1.wf hR hpp hxn hli)) ev_c rv_I0)) (fun hb H2 e2 => ?_) (fun hb H2 e2 => ?_)
    · exact s_ret ev_c fun H3 e3 => q ns B1 H3 b1 rfl (I1.mono (Nat.le_succ k) (Ex.refl _)) (at_ex hA (e2.trans e3))
    · obtain ⟨hb0, hb⟩ := Bool.or_eq_false_iff.mp hb
      obtain ⟨hb1, hb⟩ := Bool.or_eq_false_iff.mp hb
      obtain ⟨hin, hb3⟩ := Bool.or_eq_false_iff.mp hb
      have hi0 : i ≠ 0 := by have := of_decide_eq_false hb0; omega
      have hb1 := of_decide_eq_false hb1
      have hb3 := of_decide_eq_false hb3
      have hf : p.file = false := by
        cases h : p.file with
        | false => rfl
        | true => exact absurd (by unfold kdN; rw [if_pos h]) hb1
      have hx := lat_no hli (by omega)
      have hA := at_ex hA e2
      have hR := hR.ex e2
      have hpp := e2 _ _ hpp
      -- what goes along
      refine q_asgL (lc_rows (α := Unit) hR (fun m => inB n.path m.path) (fun m => .ref m.pa) (ev_var rfl) (fun _ => rfl) (fun m hm H3 e3 => et_B (ev_call (ea_cons ((hR.ex e3).row hm (v := .ref m.pa) rfl (ev_var rfl)) (ea_cons (ev_var rfl) ea_nil)) (spLIn_v ((hR.ex e3).p m hm) (I1.nm m hm) ((hR.ex e3).p n hnm) (I1.nm n hnm)))) (fun m hm H3 e3 _ => (hR.ex e3).row hm (v := .ref m.pa) rfl (ev_var rfl))) fun iw H3 nw e3 hiw => ?_
      have hA := at_ex hA e3
      have hR := hR.ex e3
      have hpp := e3 _ _ hpp
      obtain ⟨M, hM, hMy⟩ := max_ex ((ns.filter fun m => inB n.path m.path).map fun m => (m.path.length : Int)) (by
        have : n ∈ ns.filter fun m => inB n.path m.path := List.mem_filter.mpr ⟨hnm, inB_self _⟩
        intro e
        rw [List.map_eq_nil_iff] at e
        rw [e] at this
        cases this)
      have hfl : (ns.filter fun m => inB n.path m.path).length ≤ 1000 := Nat.le_trans (List.length_filter_le _ _) (by have := I.len; omega)
      refine q_when (b := decide (M - ((n.path.map V.str).length : Int) + (((p.path ++ [z]).map V.str).length : Int) > 6)) (et_test (ev_op (ev_op (ev_op (ev_cbL (el_lcA (K := K) (ys := ns.filter fun m => inB n.path m.path) (fun m => .ref m.pa) (fun m => .int (m.path.length : Int)) (ev_var rfl) hiw (by omega) (fun _ => rfl) (fun m hm H4 e4 => ev_is (ev_cb (ea_cons (ev_var rfl) ea_nil) (rc_len (sq_of ((hR.ex e4).p m (List.mem_filter.mp hm).1)))) (by rw [List.length_map]))) (fun a H4 e4 h4 => rc_maxM (ns := (ns.filter fun m => inB n.path m.path).map fun m => (m.path.length : Int)) (by rw [List.map_map]; exact h4) hM hMy)) (ev_cb (ea_cons (ev_var rfl) ea_nil) (rc_len (sq_of (hR.p n hnm)))) rv_I0) (ev_cb (ea_cons (ev_var rfl) ea_nil) (rc_len (sq_of hpp))) rv_I0) ev_c rv_I0)) (fun hb H4 e4 => ?_) (fun hb H4 e4 => ?_)
      · exact s_ret ev_c fun H5 e5 => q ns B1 H5 b1 rfl (I1.mono (Nat.le_succ k) (Ex.refl _)) (at_ex hA (e4.trans e5))
      · have hM6 := of_decide_eq_false hb
        rw [List.length_map, List.length_map] at hM6
        have hA := at_ex hA e4
        have hR := hR.ex e4
        have hnl : ns.length ≤ 61 := by have := I.len; omega
        have hrl : ∀ ns1 : List Nd, (roL ns1).length = ns1.length := fun ns1 => List.length_map _
        have nmR : ∀ (ns1 : List Nd) (k : Nat), RenK n.path (p.path ++ [z]) k ns ns1 → ∀ m1 ∈ ns1, ∀ y ∈ m1.path, nmS y = true := fun ns1 k R m1 hm1 => by
          obtain ⟨x, hx⟩ := List.getElem?_of_mem hm1
          obtain ⟨m, qq, hm, rfl⟩ := R.back hx
          show ∀ y ∈ (if x < k then renP n.path (p.path ++ [z]) m.path else m.path), nmS y = true
          split
          · exact renP_names hxn (I.nm m (List.mem_of_getElem? hm))
          · exact I.nm m (List.mem_of_getElem? hm)
        refine q_forR1 (n := (ns.length : Int)) (ea_cons (ev_is (ev_cb (ea_cons (ev_var rfl) ea_nil) (rc_len (sq_of hR.l))) (by rw [hrl])) ea_nil) (by omega) (fun x σ' H' => ∃ (ns1 : List Nd) (B' : Hp) (y10 : Option V), σ' = [some (.ref t), some (.ref nd), some (.int (i : Int)), some (.int (j : Int)), some (.str z), some (.ref n.pa), some (.ref pp), some (.ref iw), none, none, y10] ∧ Ex B1 B' ∧ RenK n.path (p.path ++ [z]) x ns ns1 ∧ (∀ m1 ∈ ns1, B' m1.pa = some (.lst (m1.path.map V.str))) ∧ At B' (TrM K CT CF CD t ns1 :: Pt nd (.lst (roL ns1)) :: Each ns1 RwM :: Fr) H') (fun H5 e5 => ⟨ns, B1, none, rfl, Ex.refl _, RenK.start _ _ _, I1.pa, at_ex hA e5⟩) (fun x σ' H' hx' pr => ?_) (fun σ' H' pr => ?_)
        · obtain ⟨ns1, B', y10, rfl, b2, R, hpa, hA⟩ := pr
          have hxl : x < ns.length := by omega
          have hm : ns[x]? = some ns[x] := List.getElem?_eq_getElem hxl
          generalize ns[x] = m at hm
          obtain ⟨m1, qq, hm1, hmq⟩ := R.fwd hm
          rw [if_neg (Nat.lt_irrefl x)] at hmq
          have hmp : m1.path = m.path := by rw [hmq]
          have hR := rws_at 1 2 rfl rfl hA hpa (nmR ns1 x R) (by rw [R.len]; omega)
          have hm1m := List.mem_of_getElem? hm1
          have hol : H' n.pa = some (.lst (n.path.map V.str)) := at_base hA _ _ (b2 _ _ (I1.pa n hnm))
          have hppH : H' pp = some (.lst ((p.path ++ [z]).map V.str)) := at_base hA _ _ (b2 _ _ hB1)
          refine s_when (b := inB n.path m.path) (et_is (et_B (ev_call (ea_cons (hR.row hm1m (v := .ref m1.pa) rfl (hR.at_ hm1 (ev_var rfl) (ev_var rfl))) (ea_cons (ev_var rfl) ea_nil)) (spLIn_v (hR.p m1 hm1m) (hR.m m1 hm1m) hol (I1.nm n hnm)))) (by rw [hmp])) (fun hb H5 e5 => ?_) (fun hb H5 e5 => ?_)
          · have hA := at_ex hA e5
            have hR := hR.ex e5
            obtain ⟨r, hr⟩ := inB_iff.mp hb
            have hren : renP n.path (p.path ++ [z]) m.path = (p.path ++ [z]) ++ m.path.drop n.path.length := by
              unfold renP
              rw [if_pos hb]
            have hA := each_at (at_ix 3 [2, 0, 1] hA) hm1
            refine s_setN (q := m1.ro) (xs := rowV m1) 0 rfl hA (el_catV (ev_var rfl) (e5 _ _ hppH) (el_sl (hR.row hm1m (v := .ref m1.pa) rfl (hR.at_ hm1 (ev_var rfl) (ev_var rfl))) (eo_some (ev_cb (ea_cons (ev_var rfl) ea_nil) (rc_len (sq_of (e5 _ _ hol))))) eo_none (sq_of (hR.p m1 hm1m))) (by
              rw [cutV_fromN, List.length_drop, List.length_map, List.length_map, List.length_map, List.length_append, hmp]
              have := I.deep m (List.mem_of_getElem? hm)
              have e : ([z] : List Str).length = 1 := rfl
              omega)) (fun H6 e6 => (hR.ex e6).at_ hm1 (ev_var rfl) (ev_var rfl)) (fun H6 => ev_c) (m := 1) rfl fun qa B2 H6 b3 hqa hA => ?_
            have hA := each_set (x' := { m1 with path := renP n.path (p.path ++ [z]) m.path, pa := qa }) (f := RwM) (List.getElem?_eq_some_iff.mp hm1).1 hA
            refine ⟨ns1.set x { m1 with path := renP n.path (p.path ++ [z]) m.path, pa := qa }, B2, _, rfl, b2.trans b3, R.go hm hm1, fun m' hm' => ?_, ?_⟩
            · rcases List.mem_or_eq_of_mem_set hm' with hm' | rfl
              · exact b3 _ _ (hpa m' hm')
              · rw [show ({ m1 with path := renP n.path (p.path ++ [z]) m.path, pa := qa } : Nd).pa = qa from rfl, hqa, show ({ m1 with path := renP n.path (p.path ++ [z]) m.path, pa := qa } : Nd).path = renP n.path (p.path ++ [z]) m.path from rfl, hren, cutV_fromN, List.length_map, hmp]
                simp only [List.map_append, List.map_drop]
            · have er : roL (ns1.set x { m1 with path := renP n.path (p.path ++ [z]) m.path, pa := qa }) = roL ns1 := map_same (g := fun n : Nd => V.ref n.ro) hm1 rfl
              rw [er]
              have hA := tr_same (SameT.set (n' := { m1 with path := renP n.path (p.path ++ [z]) m.path, pa := qa }) hm1 rfl rfl rfl rfl rfl rfl) (at_swap hA)
              exact at_ix 3 [0, 2, 1] hA
          · exact ⟨ns1, B', _, rfl, b2, R.stay hm hb, hpa, at_ex hA e5⟩
        · obtain ⟨ns1, B', y10, rfl, b2, R, hpa, hA⟩ := pr
          have hRl : ns.length = ns.length := rfl
          obtain ⟨o, ho, hof, hpo, hvo⟩ := I.wf.par i n hi0 hn
          obtain ⟨n1, qn, hn1, hnq⟩ := R.fwd hn
          obtain ⟨o1, qo, ho1, hoq⟩ := R.fwd ho
          have ep : n1.par = n.par := by rw [hnq]
          have en : n1.nm = n.nm := by rw [hnq]
          rw [← ep] at ho1
          have hij : i ≠ j := by
            rintro rfl
            rw [hn] at hp
            cases hp
            rw [inB_self] at hin
            cases hin
          have hio : i ≠ n1.par := by
            intro e
            rw [ep] at e
            rw [← e, hn] at ho
            cases ho
            have := congrArg List.length hpo
            rw [List.length_append] at this
            have e1 : ([n.nm] : List Str).length = 1 := rfl
            omega
          have ho1m := List.mem_of_getElem? ho1
          have hof1 : o1.file = false := by rw [hoq]; exact hof
          have hv1 : valV o1.l n1.nm = some (.int (i : Int)) := by rw [hoq, en]; exact hvo
          have hjl : j < (ns1.set n1.par { o1 with l := dropK o1.l n1.nm }).length := by
            rw [List.length_set, R.len]
            exact (List.getElem?_eq_some_iff.mp hp).1
          have hp2 : (ns1.set n1.par { o1 with l := dropK o1.l n1.nm })[j]? = some (ns1.set n1.par { o1 with l := dropK o1.l n1.nm })[j] := List.getElem?_eq_getElem hjl
          generalize (ns1.set n1.par { o1 with l := dropK o1.l n1.nm })[j] = p2 at hp2
          have few1 : ∀ m1 ∈ ns1, m1.l.length ≤ k := fun m1 hm1 => by
            obtain ⟨x, hx⟩ := List.getElem?_of_mem hm1
            obtain ⟨m, qq, hm, rfl⟩ := R.back hx
            exact I.few m (List.mem_of_getElem? hm)
          have hp2f : p2.file = false ∧ p2.l.length ≤ k := by
            by_cases e : n1.par = j
            · rw [e, List.getElem?_set_self (by rw [R.len]; exact (List.getElem?_eq_some_iff.mp hp).1)] at hp2
              cases hp2
              exact ⟨hof1, Nat.le_trans (dropK_le _ _) (few1 o1 ho1m)⟩
            · rw [List.getElem?_set_ne e] at hp2
              obtain ⟨m, qq, hm, rfl⟩ := R.back hp2
              rw [hp] at hm
              cases hm
              exact ⟨hf, I.few p hpm⟩
          obtain ⟨tx, nl, pl, ht⟩ := tr_ins hA
          refine r_do (go_op2 (go_meth (ev_var rfl) ht rfl fun H5 e5 => go_cons (ev_var rfl) fun H6 e6 => go_cons (ev_var rfl) fun H7 e7 => go_cons (ev_var rfl) fun H8 e8 => go_nil ⟨t, ns1, i, j, z, n1, o1, p2, .int (i : Int), B', _, rfl, at_ex hA (e5.trans (e6.trans (e7.trans e8))), hi0, hij, hio, hn1, ho1, hof1, hv1, hp2, hp2f.1, by omega, by rw [R.len]; omega, fun B3 H9 b3 hA => ⟨rfl, ?_⟩⟩))
          have MV := R.moved hn hn1 ho1 hij hio hp2
          have er : roL (((ns1.set n1.par { o1 with l := dropK o1.l n1.nm }).set j { p2 with l := putK p2.l z (.int (i : Int)) }).set i { n1 with par := j, nm := z }) = roL ns1 := by
            unfold roL
            rw [map_same (g := fun n : Nd => V.ref n.ro) (r := n1) (r' := { n1 with par := j, nm := z }) (by rw [List.getElem?_set_ne hij.symm, List.getElem?_set_ne hio.symm, hn1]) rfl, map_same (g := fun n : Nd => V.ref n.ro) (r' := { p2 with l := putK p2.l z (.int (i : Int)) }) hp2 rfl, map_same (g := fun n : Nd => V.ref n.ro) (r' := { o1 with l := dropK o1.l n1.nm }) ho1 rfl]
          have ew : Each (((ns1.set n1.par { o1 with l := dropK o1.l n1.nm }).set j { p2 with l := putK p2.l z (.int (i : Int)) }).set i { n1 with par := j, nm := z }) RwM = Each ns1 RwM := by
            rw [each_same (f := RwM) (r := n1) (r' := { n1 with par := j, nm := z }) (by rw [List.getElem?_set_ne hij.symm, List.getElem?_set_ne hio.symm, hn1]) rfl, each_same (f := RwM) (r' := { p2 with l := putK p2.l z (.int (i : Int)) }) hp2 rfl, each_same (f := RwM) (r' := { o1 with l := dropK o1.l n1.nm }) ho1 rfl]
          refine q _ B3 H9 (b1.trans (b2.trans b3)) MV.len ⟨I.wf.move hi0 hn hp hf hin hx MV, fun m' hm' => ?_, fun m' hm' => ?_, by rw [MV.len]; have := I.len; omega, fun m' hm' => ?_, fun m' hm' => ?_, fun m' hm' => ?_⟩ (by rw [er, ew]; exact hA)
          all_goals obtain ⟨m1, hm1, a1, a2, a3, a4⟩ := moved_mem (List.mem_of_getElem? hn1) ho1m (List.mem_of_getElem? hp2) hm'
          · have := few1 m1 hm1
            omega
          · rw [a1]
            obtain ⟨x, hx1⟩ := List.getElem?_of_mem hm1
            obtain ⟨m, qq, hm, rfl⟩ := R.back hx1
            have hmm := List.mem_of_getElem? hm
            show (if x < ns.length then renP n.path (p.path ++ [z]) m.path else m.path).length ≤ 6
            split
            · cases hc : inB n.path m.path with
              | false => rw [renP_out hc]; exact I.deep m hmm
              | true =>
                obtain ⟨r, hr⟩ := inB_iff.mp hc
                have h1 := hMy (m.path.length : Int) (List.mem_map.mpr ⟨m, List.mem_filter.mpr ⟨hmm, hc⟩, rfl⟩)
                rw [hr, renP_in, List.length_append]
                rw [hr, List.length_append] at h1
                omega
            · exact I.deep m hmm
          · rw [a1, a2]
            exact b3 _ _ (hpa m1 hm1)
          · rw [a1]
            exact nmR ns1 ns.length R m1 hm1
          · rw [a3]
            obtain ⟨x, hx1⟩ := List.getElem?_of_mem hm1
            obtain ⟨m, qq, hm, rfl⟩ := R.back hx1
            exact I.ps m (List.mem_of_getElem? hm)
theorem Wf.look {ns : List Nd} (W : Wf ns) : ∀ (k i : Nat) (n : Nd), n.path.length = k → ns[i]? = some n → ∀ r, luV ns 0 (n.path ++ r) = luV ns i r
  | 0, i, n, hk, hn, r => by
    have e := List.eq_nil_of_length_eq_zero hk
    obtain ⟨r0, h0, _, hp⟩ := W.root
    have := W.uniq i 0 n r0 hn h0 (by rw [e, hp])
    subst this
    rw [e]
    rfl
  | k + 1, i, n, hk, hn, r => by
    have h0 : i ≠ 0 := by
      rintro rfl
      rw [W.pth.zero hn] at hk
      cases hk
    obtain ⟨o, ho, hof, hpo, hvo⟩ := W.par i n h0 hn
    rw [hpo, List.append_assoc, W.look k n.par o (by rw [hpo, List.length_append] at hk; exact Nat.succ.inj hk) ho]
    show luV ns n.par (n.nm :: r) = _
    conv => lhs; unfold luV
    rw [ho]
    dsimp only
    rw [if_neg (by rw [hof]; decide), hvo]
    rfl
theorem Wf.lookKind {ns : List Nd} (W : Wf ns) {i : Nat} {n : Nd} (hn : ns[i]? = some n) (hf : n.file = true) (z : Str) (r : List Str) : luV ns 0 (n.path ++ z :: r) = .str "kind" := by
  rw [W.look _ i n rfl hn]
  unfold luV
  rw [hn]
  dsimp only
  rw [if_pos hf]
theorem Wf.lookMiss {ns : List Nd} (W : Wf ns) {i : Nat} {n : Nd} (hn : ns[i]? = some n) (hf : n.file = false) {z : Str} (hx : ∀ m ∈ ns, m.path ≠ n.path ++ [z]) (r : List Str) : luV ns 0 (n.path ++ z :: r) = .str "missing" := by
  rw [W.look _ i n rfl hn]
  unfold luV
  rw [hn]
  dsimp only
  rw [if_neg (by rw [hf]; decide), W.fresh hn hf hx]
theorem Wf.abv {ns : List Nd} (W : Wf ns) {pth : List Str} {js : List Nat} (h : AbvOk ns pth js) {ab : Nat → Int} (ha : ∀ k, LAt ns (pth.take (pth.length - 1 - k)) (ab k)) : js.map (fun j : Nat => V.int (j : Int)) = (List.range pth.length).map fun k => V.int (ab k) := by
  obtain ⟨h1, h2⟩ := h
  refine List.ext_getElem? fun k => ?_
  rw [List.getElem?_map, List.getElem?_map]
  rcases Nat.lt_or_ge k pth.length with hk | hk
  · rw [List.getElem?_range hk, List.getElem?_eq_getElem (by rw [h1]; exact hk)]
    obtain ⟨m, hm, hp⟩ := h2 k js[k] (List.getElem?_eq_getElem (by rw [h1]; exact hk))
    have := lat_uniq W (ha k) (.inl ⟨js[k], m, rfl, hm, hp⟩)
    show some (V.int _) = some (V.int _)
    rw [this]
  · rw [List.getElem?_eq_none (by rw [h1]; exact hk), List.getElem?_eq_none (by rw [List.length_range]; exact hk)]
    rfl
theorem sum_filter {α : Type} (f : α → Bool) (g : α → Int) : ∀ xs : List α, ((xs.filter f).map g).sum = (xs.map fun x => if f x = true then g x else 0).sum
  | [] => rfl
  | x :: r => by
    rw [List.filter_cons, List.map_cons, List.sum_cons, ← sum_filter f g r]
    split
    · rw [List.map_cons, List.sum_cons]
    · rw [Int.zero_add]
theorem hgt_max {ns : List Nd} {p : List Str} {M : Int} (hM : M ∈ (ns.filter fun m => inB p m.path).map fun m => (m.path.length : Int)) (hy : ∀ y ∈ (ns.filter fun m => inB p m.path).map fun m => (m.path.length : Int), y ≤ M) : Hgt ns p (M - (p.length : Int)) := by
  refine ⟨?_, fun m hm h => ?_⟩
  · obtain ⟨m, hm, e⟩ := List.mem_map.mp hM
    exact ⟨m, (List.mem_filter.mp hm).1, (List.mem_filter.mp hm).2, by omega⟩
  · have := hy _ (List.mem_map.mpr ⟨m, List.mem_filter.mpr ⟨hm, h⟩, rfl⟩)
    omega
theorem spSm_int {i : Int} {H : Hp} {n : Nat} : SpV (spSm K n) [.int i, .int i] H (.bl true) := fun H1 e1 Q q E => ⟨_, _, .int i, rfl, .int i, .int i, .int i, q⟩
theorem ev_callL {σ : L2.St} {H : Hp} {sp : Sp} {E : XK} {ta te : TE} {x z : V} {xs : List V} (h : Ev ta σ H x) (hl : EvL te σ H xs) (hs : ∀ p H1, Ex H H1 → H1 p = some (.lst xs) → SpV sp [x, .ref p] H1 z) : Ev (tCall sp [] E (tCons ta (tCons te tNil))) σ H z := fun H1 e Q q => h H1 e _ fun H2 e2 => hl H2 (e.trans e2) _ fun p H3 np e3 hp => hs p H3 (e.trans (e2.trans e3)) hp H3 (Ex.refl H3) Q (fun H4 e4 => q H4 (e2.trans (e3.trans e4))) E
theorem ev_neP {σ : L2.St} {H : Hp} {t1 t2 : TE} {a b : Addr} {r o : List Str} (ht : Ev t1 σ H (.ref a)) (hS : H a = some (.lst (r.map V.str))) (hn : ∀ z ∈ r, nmS z = true) (hu : Ev t2 σ H (.ref b)) (hb : H b = some (.lst (o.map V.str))) (on : ∀ z ∈ o, nmS z = true) : Ev (tOp (rNeD K) t1 t2) σ H (.bl (!decide (r = o))) :=
  ev_is (ev_neD (K := K) (n := 2) (m := 2) (d := .list (r.map PyData.str)) (e := .list (o.map PyData.str)) (ed_of ht (.lst (sq_of hS) (dp_strs _))) (ed_of hu (.lst (sq_of hb) (dp_strs _))) (sd_list (sds_nm hn)) (sd_list (sds_nm on)) (by decide) (by decide)) (congrArg (fun b => V.bl (!b)) (eqv_strs _ _))
theorem rc_sumM {H : Hp} {a : Addr} {ns : List Int} (h : H a = some (.lst (ns.map V.int))) : RC (rSum K) [.ref a] H (.int ns.sum) := fun H1 e1 Q q => ⟨a, ns, rfl, sq_of (e1 _ _ h), q H1 (Ex.refl H1)⟩
/-- looking up a list that has just been made -/
theorem ev_lookL {σ : L2.St} {B H : Hp} {F : List MP} {CT CF CD t : Addr} {ns : List Nd} {ta te : TE} {E : XK} {xs : List Str} (W : Wf ns) (hA : At B (TrM K CT CF CD t ns :: F) H) (h : Ev ta σ H (.ref t)) (hl : EvL te σ H (xs.map V.str)) : Ev (tMeth CT "look_up" (spTrU K CT CF CD) [] E ta (tCons te tNil)) σ H (luV ns 0 xs) := fun H1 e Q q => by
  obtain ⟨dx, nl, pl, ht⟩ := tr_ins hA
  exact go_meth (Ev.mono e h) (e _ _ ht) rfl fun H2 e2 => go_cons' (hl H2 (e.trans e2) _ fun p H3 np e3 hp => go_nil ⟨t, p, ns, xs, B, F, rfl, at_ex hA (e.trans (e2.trans e3)), W.entOk, W.pos, hp, fun H4 e4 => q H4 (e2.trans (e3.trans e4))⟩)
theorem ev_lookV {σ : L2.St} {B H : Hp} {F : List MP} {CT CF CD t p : Addr} {ns : List Nd} {ta te : TE} {E : XK} {xs : List Str} (W : Wf ns) (hA : At B (TrM K CT CF CD t ns :: F) H) (h : Ev ta σ H (.ref t)) (hl : Ev te σ H (.ref p)) (hp : H p = some (.lst (xs.map V.str))) : Ev (tMeth CT "look_up" (spTrU K CT CF CD) [] E ta (tCons te tNil)) σ H (luV ns 0 xs) := fun H1 e Q q => by
  obtain ⟨dx, nl, pl, ht⟩ := tr_ins hA
  exact go_meth (Ev.mono e h) (e _ _ ht) rfl fun H2 e2 => go_cons (Ev.mono (e.trans e2) hl) fun H3 e3 => go_nil ⟨t, p, ns, xs, B, F, rfl, at_ex hA (e.trans (e2.trans e3)), W.entOk, W.pos, (e.trans (e2.trans e3)) _ _ hp, fun H4 e4 => q H4 (e2.trans (e3.trans e4))⟩
theorem ev_node {σ : L2.St} {B H : Hp} {F : List MP} {CT CF CD CU t : Addr} {ns : List Nd} {i : Nat} {n : Nd} {ta te : TE} {E : XK} (hA : At B (TrM K CT CF CD t ns :: F) H) (hn : ns[i]? = some n) (h : Ev ta σ H (.ref t)) (hi : Ev te σ H (.int (i : Int))) : Ev (tMeth CT "node" (spTrN K CT CF CD CU) [] E ta (tCons te tNil)) σ H (.ref n.ad) := fun H1 e Q q => by
  obtain ⟨dx, nl, pl, ht⟩ := tr_ins hA
  refine go_meth (Ev.mono e h) (e _ _ ht) rfl fun H2 e2 => go_cons (Ev.mono (e.trans e2) hi) fun H3 e3 => go_nil ⟨t, i, ns, B, F, rfl, at_ex hA (e.trans (e2.trans e3)), fun k n' hk hn' H4 e4 => ?_, fun hh => ?_⟩
  · have : k = i := by omega
    subst this
    rw [hn] at hn'
    cases hn'
    exact q H4 (e2.trans (e3.trans e4))
  · have := (List.getElem?_eq_some_iff.mp hn).1
    rcases hh with hh | hh <;> omega
theorem spLNu_v {a b : Addr} {xs : List V} {H : Hp} (ha : H a = some (.lst xs)) (hb : H b = some (.lst xs)) (hl : xs.length ≤ 1000) (hx : ∀ v ∈ xs, (∃ i, v = V.int i) ∨ ∃ z, v = V.str z) : SpV spLNu [.ref a, .ref b] H (.bl true) := fun H1 e1 Q q E => ⟨a, b, xs, rfl, e1 _ _ ha, e1 _ _ hb, hl, hx, q⟩
theorem el_listOf {σ : L2.St} {H : Hp} {te : TE} {p : Addr} {ys : List V} (h : Ev te σ H (.ref p)) (hp : H p = some (.lst ys)) : EvL (tCB (fun xs H Q => ∃ p ys, xs = [.ref p] ∧ (SqL K H p ys ∨ SqT K H p ys) ∧ ∀ l, H l = none → Q (.ref l) (upd H l (.lst ys))) (tCons te tNil)) σ H ys := fun H1 e Q q => h H1 e _ fun H2 e2 => ⟨p, ys, rfl, .inl (sq_of ((e.trans e2) _ _ hp)), fun l nl => q l _ (fresh_back e2 nl) (e2.trans (Ex.new nl)) upd_same⟩
theorem ev_size {σ : L2.St} {B H : Hp} {F : List MP} {CT CF CD t : Addr} {ns : List Nd} {i : Nat} {n : Nd} {ta te : TE} {E : XK} (hA : At B (TrM K CT CF CD t ns :: F) H) (O : TrOk ns) (hn : ns[i]? = some n) (h : Ev ta σ H (.ref t)) (hi : Ev te σ H (.int (i : Int))) : Ev (tMeth CT "size_of" (spTrS K CT CF CD 6) [] E ta (tCons te tNil)) σ H (.int (szT ns n.path)) := fun H1 e Q q => by
  obtain ⟨dx, nl, pl, ht⟩ := tr_ins hA
  exact go_meth (Ev.mono e h) (e _ _ ht) rfl fun H2 e2 => go_cons (Ev.mono (e.trans e2) hi) fun H3 e3 => go_nil ⟨t, i, ns, n, B, F, rfl, at_ex hA (e.trans (e2.trans e3)), O, hn, by omega, fun H4 e4 => q H4 (e2.trans (e3.trans e4))⟩
theorem ev_height {σ : L2.St} {B H : Hp} {F : List MP} {CT CF CD t : Addr} {ns : List Nd} {i : Nat} {n : Nd} {g : Int} {ta te : TE} {E : XK} (hA : At B (TrM K CT CF CD t ns :: F) H) (O : TrOk ns) (hn : ns[i]? = some n) (hg : Hgt ns n.path g) (h : Ev ta σ H (.ref t)) (hi : Ev te σ H (.int (i : Int))) : Ev (tMeth CT "height_of" (spTrH K CT CF CD 6) [] E ta (tCons te tNil)) σ H (.int g) := fun H1 e Q q => by
  obtain ⟨dx, nl, pl, ht⟩ := tr_ins hA
  exact go_meth (Ev.mono e h) (e _ _ ht) rfl fun H2 e2 => go_cons (Ev.mono (e.trans e2) hi) fun H3 e3 => go_nil ⟨t, i, ns, n, B, F, rfl, at_ex hA (e.trans (e2.trans e3)), O, hn, by omega, fun h H4 hh e4 => by
    rw [hgt_uniq hh hg]
    exact q H4 (e2.trans (e3.trans e4))⟩
def spWIs (K : PySem.W.Frag) (CT CF CD : Addr) : Sp := fun vs H Q _ => ∃ (t nd : Addr) (i : Nat) (z : Str) (n : Nd) (ns : List Nd) (k : Nat) (B : Hp) (F : List MP), vs = [.ref t, .ref nd, .int (i : Int), .str z] ∧ At B (TrM K CT CF CD t ns :: Pt nd (.lst (roL ns)) :: Each ns RwM :: F) H ∧ InvT k B ns ∧ k < 63 ∧ ns[i]? = some n ∧ nmS z = true ∧
  ∀ B1 H1, Ex B B1 → At B1 (TrM K CT CF CD t ns :: Pt nd (.lst (roL ns)) :: Each ns RwM :: F) H1 → Q (.bl true) H1
theorem ok_lnodeis {f f1 f2 f3 f4 f5 f6 f7 f8 f9 f0 CT CF CD CU : Addr} {fd fd1 fd2 fd3 fd4 fd5 fd6 fd7 fd8 fd9 fd0 : FuncData} (F : Fun K "_law_node_is" "_law_node_is" s__law_node_is f fd) (D__law_same : Df K mg "_law_same" s__law_same ["actual", "due"] f1 fd1) (G__law_same : FnOk P w K mg base CX0 4 f1 fd1 ["actual", "due"] (spSm K 3)) (D__law_at : Df K mg "_law_at" s__law_at ["nodes", "path"] f2 fd2) (G__law_at : FnOk P w K mg base CX0 1 f2 fd2 ["nodes", "path"] spLAt)
    (D__law_inside : Df K mg "_law_inside" s__law_inside ["path", "top"] f3 fd3) (G__law_inside : FnOk P w K mg base CX0 1 f3 fd3 ["path", "top"] spLIn) (D__law_numbers : Df K mg "_law_numbers" s__law_numbers ["actual", "due"] f4 fd4) (G__law_numbers : FnOk P w K mg base CX0 5 f4 fd4 ["actual", "due"] spLNu) (D_Tree_look_up : Dm K CT "look_up" "Tree.look_up" s_Tree_look_up ["self", "names"] f5 fd5) (G_Tree_look_up : FnOk P w K mg base CX0 2 f5 fd5 ["self", "names"] (spTrU K CT CF CD))
    (D_Tree_names_of : Dm K CT "names_of" "Tree.names_of" s_Tree_names_of ["self", "number"] f6 fd6) (G_Tree_names_of : FnOk P w K mg base CX0 1 f6 fd6 ["self", "number"] (spTrP K CT CF CD)) (D_Tree_above : Dm K CT "above" "Tree.above" s_Tree_above ["self", "number"] f7 fd7) (G_Tree_above : FnOk P w K mg base CX0 1 f7 fd7 ["self", "number"] (spTrV K CT CF CD)) (D_Tree_size_of : Dm K CT "size_of" "Tree.size_of" s_Tree_size_of ["self", "number"] f8 fd8) (G_Tree_size_of : FnOk P w K mg base CX0 9 f8 fd8 ["self", "number"] (spTrS K CT CF CD 6))
    (D_Tree_height_of : Dm K CT "height_of" "Tree.height_of" s_Tree_height_of ["self", "number"] f9 fd9) (G_Tree_height_of : FnOk P w K mg base CX0 9 f9 fd9 ["self", "number"] (spTrH K CT CF CD 6)) (D_Tree_node : Dm K CT "node" "Tree.node" s_Tree_node ["self", "number"] f0 fd0) (G_Tree_node : FnOk P w K mg base (L2.CX P w) 1 f0 fd0 ["self", "number"] (spTrN K CT CF CD CU)) (L_Tree : Kl K mg "Tree" CT) (L_Directory : Kl K mg "Directory" CD) (L_File : Kl K mg "File" CF) (DF : DF27 K mg) (T : Glo mg) : FnOk P w K mg base CX0 10 f fd ["tree", "nodes", "number", "name"] (spWIs K CT CF CD) := by
  have N := DF.c L_Directory L_File
  have g_File := L_File.g
  have g_Directory := L_Directory.g
  refine F.ok sc__law_node_is (fun vs H Q E h => ?_) (fun cdv A outer s H vs Q E hr h => ?_)
  · obtain ⟨t, nd, i, z, n, ns, k, B, Fr, rfl, _⟩ := h
    rfl
  · obtain ⟨t, nd, i, z, n, ns, k, B, Fr, rfl, hA, I, hk, hn, hz, q⟩ := h
    let C_File := CF
    let C_Directory := CD
    refine ⟨_, (pss_cons (ps_set (i := 4) sc__law_node_is.nd rfl (.inl rfl) (pe_ix ix_list (pe_ix ix_list (pv 1) (pv 2) (fun _ _ => rfl)) pe_int (fun _ _ => rfl)))
  (pss_cons (ps_set (i := 5) sc__law_node_is.nd rfl (.inr rfl) (pe_ix ix_list (pe_ix ix_list (pv 1) (pv 2) (fun _ _ => rfl)) pe_int (fun _ _ => rfl)))
  (pss_cons (ps_set (i := 6) sc__law_node_is.nd rfl (.inl rfl) (pe_callTy call_list_of (by rfl) T.list (by decide +kernel) (pa_cons (pv 5) pa_nil)))
  (pss_cons (ps_if (PW.pt (pw_or (pt_not (pt_val (pe_call G__law_same (hr.mono (by decide)) (by rfl) D__law_same.g D__law_same.F.kp D__law_same.b .nil pass0 (pa_cons (pe_meth (pv 0) L_Tree.cl D_Tree_look_up.m G_Tree_look_up (hr.mono (by decide)) D_Tree_look_up.b .nil pass0 (pa_cons (pv 6) pa_nil)) (pa_cons (pv 2) pa_nil))))) (pw_or1 (pt_cmpR (op_neD hr.units) (pv 6) (pv 5) (nomark _)))))
  (pss_one (ps_ret pe_bl))
  pss_nil)
  (pss_cons (ps_setLc (i := 7) (own := [("k", 8)]) (g := gName 8) rfl sc__law_node_is.nd rfl rfl (sw_true rfl rfl rfl (by decide +kernel)) (pi_range1 (by rfl) T.range (pa_cons (pe_callB (show CallR _ (Value.builtin "len") (fun xs H Q => ∃ p ys, xs = [V.ref p] ∧ (SqL K H p ys ∨ SqT K H p ys) ∧ Q (V.int ys.length) H) from call_len_seq) (by rfl) T.len PySem.boot_len (pa_cons (pv 5) pa_nil)) pa_nil)) (blkOk_by (N := N__law_node_is) (sc := defScope s__law_node_is) (by decide +kernel)) (fun _ _ _ _ _ => (pg_name (i := 8) sc__law_node_is.nd rfl (.inl rfl))) (fun _ _ _ _ _ => pts_nil) (fun _ _ _ _ _ => (pe_call G__law_at (hr.mono (by decide)) (by rfl) D__law_at.g D__law_at.F.kp D__law_at.b .nil pass0 (pa_cons (pv 1) (pa_cons (pe_slice (show SlR _ (rSlL K) from sl_list) (pv 5) po_none (po_some (pe_op op_sub (pe_op op_sub (pe_callB (show CallR _ (Value.builtin "len") (fun xs H Q => ∃ p ys, xs = [V.ref p] ∧ (SqL K H p ys ∨ SqT K H p ys) ∧ Q (V.int ys.length) H) from call_len_seq) (by rfl) T.len PySem.boot_len (pa_cons (pv 5) pa_nil)) pe_int) (pv 8)))) pa_nil)))))
  (pss_cons (ps_for PassesOwn.never rfl (pi_range1 (by rfl) T.range (pa_cons pe_int pa_nil)) (pg_name (i := 9) sc__law_node_is.nd rfl (.inl rfl))
  (pss_cons (ps_set (i := 10) sc__law_node_is.nd rfl (.inl rfl) (pe_meth (pv 0) L_Tree.cl D_Tree_names_of.m G_Tree_names_of (hr.mono (by decide)) D_Tree_names_of.b .nil pass0 (pa_cons (pv 2) pa_nil)))
  (pss_cons (ps_set (i := 11) sc__law_node_is.nd rfl (.inl rfl) (pe_meth (pv 0) L_Tree.cl D_Tree_above.m G_Tree_above (hr.mono (by decide)) D_Tree_above.b .nil pass0 (pa_cons (pv 2) pa_nil)))
  (pss_cons (ps_if (PW.pt (pw_or (pt_not (pt_val (pe_call G__law_numbers (hr.mono (by decide)) (by rfl) D__law_numbers.g D__law_numbers.F.kp D__law_numbers.b .nil pass0 (pa_cons (pv 10) (pa_cons (pv 5) pa_nil))))) (pw_or1 (pt_not (pt_val (pe_call G__law_numbers (hr.mono (by decide)) (by rfl) D__law_numbers.g D__law_numbers.F.kp D__law_numbers.b .nil pass0 (pa_cons (pv 11) (pa_cons (pv 7) pa_nil))))))))
  (pss_one (ps_ret pe_bl))
  pss_nil)
  (pss_cons (ps_expr (pe_bm PySem.F.plainAttrs_list PySem.F.slot_list_append PySem.F.type_list_append mt_append (pv 10) (pa_cons pe_str pa_nil)))
  (pss_one (ps_expr (pe_bm PySem.F.plainAttrs_list PySem.F.slot_list_append PySem.F.type_list_append mt_append (pv 11) (pa_cons pe_int pa_nil)))))))))
  (pss_cons (ps_setLc (i := 12) (own := [("node", 13)]) (g := gName 13) rfl sc__law_node_is.nd rfl rfl (sw_true rfl rfl rfl (by decide +kernel)) (pi_list (pv 1)) (blkOk_by (N := N__law_node_is) (sc := defScope s__law_node_is) (by decide +kernel)) (fun _ _ _ _ _ => (pg_name (i := 13) sc__law_node_is.nd rfl (.inl rfl))) (fun _ _ _ _ _ => (pts_one (pt_val (pe_call G__law_inside (hr.mono (by decide)) (by rfl) D__law_inside.g D__law_inside.F.kp D__law_inside.b .nil pass0 (pa_cons (pe_ix (show IxR _ (rIxL K) from ix_list) (pv 13) pe_int (fun _ _ => rfl)) (pa_cons (pv 5) pa_nil)))))) (fun _ _ _ _ _ => (pv 13)))
  (pss_cons (ps_set (i := 14) sc__law_node_is.nd rfl (.inl rfl) (pe_callB (cr_sum rfl) (by rfl) T.sum (by decide +kernel) (pa_cons (pe_lc (own := [("node", 13)]) (g := gName 13) rfl sc__law_node_is.nd (pi_list (pv 12)) (blkOk_by (N := N__law_node_is) (sc := defScope s__law_node_is) (by decide +kernel)) (fun _ _ _ _ _ => (pg_name (i := 13) sc__law_node_is.nd rfl (.inl rfl))) (fun _ _ _ _ _ => pts_nil) (fun _ _ _ _ _ => (pe_ix (show IxR _ (rIxL K) from ix_list) (pv 13) pe_int (fun _ _ => rfl)))) pa_nil)))
  (pss_cons (ps_set (i := 15) sc__law_node_is.nd rfl (.inl rfl) (pe_op op_sub (pe_callB (cr_max rfl) (by rfl) T.max (by decide +kernel) (pa_cons (pe_lc (own := [("node", 13)]) (g := gName 13) rfl sc__law_node_is.nd (pi_list (pv 12)) (blkOk_by (N := N__law_node_is) (sc := defScope s__law_node_is) (by decide +kernel)) (fun _ _ _ _ _ => (pg_name (i := 13) sc__law_node_is.nd rfl (.inl rfl))) (fun _ _ _ _ _ => pts_nil) (fun _ _ _ _ _ => (pe_callB (show CallR _ (Value.builtin "len") (fun xs H Q => ∃ p ys, xs = [V.ref p] ∧ (SqL K H p ys ∨ SqT K H p ys) ∧ Q (V.int ys.length) H) from call_len_seq) (by rfl) T.len PySem.boot_len (pa_cons (pe_ix (show IxR _ (rIxL K) from ix_list) (pv 13) pe_int (fun _ _ => rfl)) pa_nil)))) pa_nil)) (pe_callB (show CallR _ (Value.builtin "len") (fun xs H Q => ∃ p ys, xs = [V.ref p] ∧ (SqL K H p ys ∨ SqT K H p ys) ∧ Q (V.int ys.length) H) from call_len_seq) (by rfl) T.len PySem.boot_len (pa_cons (pv 5) pa_nil))))
  (pss_cons (ps_if (PW.pt (pw_or (pt_not (pt_val (pe_call G__law_same (hr.mono (by decide)) (by rfl) D__law_same.g D__law_same.F.kp D__law_same.b .nil pass0 (pa_cons (pe_meth (pv 0) L_Tree.cl D_Tree_size_of.m G_Tree_size_of (hr.mono (by decide)) D_Tree_size_of.b .nil pass0 (pa_cons (pv 2) pa_nil)) (pa_cons (pv 14) pa_nil))))) (pw_or1 (pt_not (pt_val (pe_call G__law_same (hr.mono (by decide)) (by rfl) D__law_same.g D__law_same.F.kp D__law_same.b .nil pass0 (pa_cons (pe_meth (pv 0) L_Tree.cl D_Tree_height_of.m G_Tree_height_of (hr.mono (by decide)) D_Tree_height_of.b .nil pass0 (pa_cons (pv 2) pa_nil)) (pa_cons (pv 15) pa_nil))))))))
  (pss_one (ps_ret pe_bl))
  pss_nil)
  (pss_cons (ps_if (PW.pt (pw_or (pt_cmpR op_ne (pe_callB call_isi (by rfl) T.isinstance (by decide +kernel) (pa_cons (pe_meth (pv 0) L_Tree.cl D_Tree_node.m G_Tree_node (hr.mono (by decide)) D_Tree_node.b .nil passL (pa_cons (pv 2) pa_nil)) (pa_cons (pe_glob (v := .ref C_File) (by rfl) L_File.g rfl) pa_nil))) (pe_cmpR op_eq (pv 4) pe_int (nomark _)) (nomark _)) (pw_or1 (pt_cmpR op_ne (pe_callB call_isi (by rfl) T.isinstance (by decide +kernel) (pa_cons (pe_meth (pv 0) L_Tree.cl D_Tree_node.m G_Tree_node (hr.mono (by decide)) D_Tree_node.b .nil passL (pa_cons (pv 2) pa_nil)) (pa_cons (pe_glob (v := .ref C_Directory) (by rfl) L_Directory.g rfl) pa_nil))) (pe_cmpR op_eq (pv 4) pe_int (nomark _)) (nomark _)))))
  (pss_one (ps_ret pe_bl))
  pss_nil)
  (pss_cons (ps_set (i := 16) sc__law_node_is.nd rfl (.inl rfl) (pe_call G__law_at (hr.mono (by decide)) (by rfl) D__law_at.g D__law_at.F.kp D__law_at.b .nil pass0 (pa_cons (pv 1) (pa_cons (pe_op op_cat (pv 5) (pe_lst (pa_cons (pv 3) pa_nil))) pa_nil))))
  (pss_cons (ps_if (pt_cmpR op_eq (pv 4) pe_int (nomark _))
  (pss_one (ps_ret (pe_and (pe_cmpR op_eq (pe_meth (pv 0) L_Tree.cl D_Tree_look_up.m G_Tree_look_up (hr.mono (by decide)) D_Tree_look_up.b .nil pass0 (pa_cons (pe_op op_cat (pv 5) (pe_lst (pa_cons (pv 3) pa_nil))) pa_nil)) pe_str (nomark _)) (pe_one (pe_cmpR op_eq (pe_meth (pv 0) L_Tree.cl D_Tree_look_up.m G_Tree_look_up (hr.mono (by decide)) D_Tree_look_up.b .nil pass0 (pa_cons (pe_op op_cat (pv 5) (pe_lst (pa_cons (pv 3) (pa_cons (pv 3) pa_nil)))) pa_nil)) pe_str (nomark _))))))
  pss_nil)
  (pss_cons (ps_if (pt_cmpR op_lt (pv 16) pe_int (nomark _))
  (pss_one (ps_ret (pe_and (pe_cmpR op_eq (pe_meth (pv 0) L_Tree.cl D_Tree_look_up.m G_Tree_look_up (hr.mono (by decide)) D_Tree_look_up.b .nil pass0 (pa_cons (pe_op op_cat (pv 5) (pe_lst (pa_cons (pv 3) pa_nil))) pa_nil)) pe_str (nomark _)) (pe_one (pe_cmpR op_eq (pe_meth (pv 0) L_Tree.cl D_Tree_look_up.m G_Tree_look_up (hr.mono (by decide)) D_Tree_look_up.b .nil pass0 (pa_cons (pe_op op_cat (pv 5) (pe_lst (pa_cons (pv 3) (pa_cons (pv 3) pa_nil)))) pa_nil)) pe_str (nomark _))))))
  pss_nil)
  (pss_one (ps_ret (pe_call G__law_same (hr.mono (by decide)) (by rfl) D__law_same.g D__law_same.F.kp D__law_same.b .nil pass0 (pa_cons (pe_meth (pv 0) L_Tree.cl D_Tree_look_up.m G_Tree_look_up (hr.mono (by decide)) D_Tree_look_up.b .nil pass0 (pa_cons (pe_op op_cat (pv 5) (pe_lst (pa_cons (pv 3) pa_nil))) pa_nil)) (pa_cons (pv 16) pa_nil))))))))))))))))))), ?_⟩
    have hnm := List.mem_of_getElem? hn
    have hn6 := I.deep n hnm
    have W := I.wf
    have hR := I.rws (by omega) 1 2 rfl rfl hA
    refine qe_asg (x := .int (kdN n)) hA (hR.row hnm rfl (hR.at_ hn (ev_var rfl) (ev_var rfl))) fun H1 hA => ?_
    have hR := I.rws (by omega) 1 2 rfl rfl hA
    refine qe_asg (x := .ref n.pa) hA (hR.row hnm (v := .ref n.pa) rfl (hR.at_ hn (ev_var rfl) (ev_var rfl))) fun H2 hA => ?_
    have hpaH : ∀ {B' H' : Hp} {l : List MP}, Ex B B' → At B' l H' → H' n.pa = some (.lst (n.path.map V.str)) := fun b hA => at_base hA _ _ (b _ _ (I.pa n hnm))
    refine q_asgL (el_listOf (ev_var rfl) (hpaH (Ex.refl B) hA)) fun ha H3 n3 e3 hha => ?_
    have hA := at_ex hA e3
    have hnn := I.nm n hnm
    have hself : luV ns 0 n.path = .int (i : Int) := by
      have := W.look _ i n rfl hn []
      rw [List.append_nil] at this
      exact this
    refine q_when (b := false) (et_is (et_or (a := false) (b := false) (et_is (et_not (et_B (ev_call (ea_cons (ev_is (ev_lookV W hA (ev_var rfl) (ev_var rfl) hha) hself) (ea_cons (ev_var rfl) ea_nil)) spSm_int))) rfl) (fun _ => et_is (et_test (ev_neP (ev_var rfl) hha hnn (ev_var rfl) (hpaH (Ex.refl B) hA) hnn)) (by rw [decide_eq_true rfl]; rfl))) rfl) (fun hb => nomatch hb) (fun _ H4 e4 => ?_)
    have hA := at_ex hA e4
    have hR := I.rws (by omega) 1 2 rfl rfl hA
    -- the nodes above
    obtain ⟨ab, hab⟩ := Classical.axiomOfChoice (fun x : Nat => lat_ex ns (n.path.take (n.path.length - 1 - x)))
    refine q_asgL (xs := (List.range n.path.length).map fun x => .int (ab x)) (by
      have h := el_lcR1 (σ := [some (.ref t), some (.ref nd), some (.int (i : Int)), some (.str z), some (.int (kdN n)), some (.ref n.pa), some (.ref ha), none, none, none, none, none, none, none, none, none, none]) (H := H4) (j := 8) (vs := [8]) (n := (n.path.length : Int)) (t := tYes) (ta := tCons (tCB (fun xs H Q => ∃ p ys, xs = [V.ref p] ∧ (SqL K H p ys ∨ SqT K H p ys) ∧ Q (V.int ys.length) H) (tCons (tVar 5) tNil)) tNil) (te := tCall spLAt [] E0 (tCons (tVar 1) (tCons (tSl (rSlL K) (tVar 5) tNoPart (tPart (tOp (rI0 fun i j => .int (i - j)) (tOp (rI0 fun i j => .int (i - j)) (tCB (fun xs H Q => ∃ p ys, xs = [V.ref p] ∧ (SqL K H p ys ∨ SqT K H p ys) ∧ Q (V.int ys.length) H) (tCons (tVar 5) tNil)) (tC (.int 1))) (tVar 8)))) tNil))) (fun _ => true) (fun x => .int (ab x)) (ea_cons (ev_is (ev_cb (ea_cons (ev_var rfl) ea_nil) (rc_len (sq_of (hpaH (Ex.refl B) hA)))) (by rw [List.length_map])) ea_nil) (by omega) (fun _ => rfl) (fun _ _ _ _ => et_nil) (fun x H5 e5 hx _ => ?_)
      · rw [Int.toNat_natCast, given_mapV] at h
        exact h
      · have hpx := e5 _ _ (hpaH (Ex.refl B) hA)
        refine ev_callL (ev_var rfl) (el_sl (lo := none) (hi := some ((n.path.length - 1 - x : Nat) : Int)) (ev_var rfl) eo_none (eo_some (ev_is (ev_op (ev_op (ev_cb (ea_cons (ev_var rfl) ea_nil) (rc_len (sq_of hpx))) ev_c rv_I0) (ev_var rfl) rv_I0) (by rw [List.length_map]; exact congrArg V.int (by omega)))) (sq_of hpx)) fun p H6 e6 h6 => ?_
        rw [cutV_toN, ← List.map_take] at h6
        exact spLAt_v W (hR.ex (e5.trans e6)) h6 (fun y hy => hnn y (List.mem_of_mem_take hy)) (hab x)) fun al H5 n5 e5 hal => ?_
    have hB5 : ov B H4 H5 al = some (.lst ((List.range n.path.length).map fun x => V.int (ab x))) := ov_fresh (at_base hA) n5 hal
    have hA := at_grow hA e5
    have b5 : Ex B (ov B H4 H5) := ov_base
    generalize ov B H4 H5 = B5 at hB5 hA b5
    refine q_forR1 (n := 2) (ea_cons ev_c ea_nil) (by decide) (fun x σ' H' => ∃ (B' : Hp) (y9 y10 y11 : Option V), σ' = [some (.ref t), some (.ref nd), some (.int (i : Int)), some (.str z), some (.int (kdN n)), some (.ref n.pa), some (.ref ha), some (.ref al), none, y9, y10, y11, none, none, none, none, none] ∧ Ex B5 B' ∧ At B' (TrM K CT CF CD t ns :: Pt nd (.lst (roL ns)) :: Each ns RwM :: Fr) H') (fun H6 e6 => ⟨B5, _, _, _, rfl, Ex.refl _, at_ex hA e6⟩) (fun x σ' H' _ pr => ?_) (fun σ' H' pr => ?_)
    · obtain ⟨B', y9, y10, y11, rfl, b6, hA⟩ := pr
      obtain ⟨tx, nl, pl, ht⟩ := tr_ins hA
      refine q_do (go_meth (ev_var rfl) ht rfl fun H7 e7 => go_cons (ev_var rfl) fun H8 e8 => go_nil ⟨t, i, ns, n, B', _, rfl, at_ex hA (e7.trans e8), W.pth, hn, by omega, fun p1 B7 H9 b7 hA => ?_⟩)
      have hA := at_swap hA
      obtain ⟨tx, nl, pl, ht⟩ := tr_ins hA
      refine q_do (go_meth (ev_var rfl) ht rfl fun H10 e10 => go_cons (ev_var rfl) fun H11 e11 => go_nil ⟨t, i, ns, n, B7, _, rfl, at_ex hA (e10.trans e11), W.pth, hn, by omega, fun p2 js B8 H12 b8 hjs hA => ?_⟩)
      have hA := at_ix 3 [0, 2, 1] hA
      rw [W.abv hjs hab] at hA
      have b58 := b6.trans (b7.trans b8)
      have hpx := hpaH (b5.trans b58) hA
      have hax : H12 al = some (.lst ((List.range n.path.length).map fun x => V.int (ab x))) := at_base hA _ _ (b58 _ _ hB5)
      refine q_when (b := false) (et_is (et_or (a := false) (b := false) (et_is (et_not (et_B (ev_call (ea_cons (ev_var rfl) (ea_cons (ev_var rfl) ea_nil)) (spLNu_v (at_get (a := p1) 1 rfl hA) hpx (by rw [List.length_map]; omega) (fun v hv => by
        obtain ⟨y, _, rfl⟩ := List.mem_map.mp hv
        exact .inr ⟨y, rfl⟩))))) rfl) (fun _ => et_is (et_not (et_B (ev_call (ea_cons (ev_var rfl) (ea_cons (ev_var rfl) ea_nil)) (spLNu_v (at_get (a := p2) 0 rfl hA) hax (by rw [List.length_map, List.length_range]; omega) (fun v hv => by
        obtain ⟨y, _, rfl⟩ := List.mem_map.mp hv
        exact .inl ⟨_, rfl⟩))))) rfl)) rfl) (fun hb => nomatch hb) (fun _ H13 e13 => ?_)
      refine qe_app (v := .str "x") 1 rfl (at_ex hA e13) (ev_var rfl) ev_c (by rw [List.length_map]; omega) fun H14 hA => ?_
      refine se_app (v := .int 0) 0 rfl hA (ev_var rfl) ev_c (by rw [List.length_map, List.length_range]; omega) fun H15 hA => ?_
      exact ⟨B8, _, _, _, rfl, b58, at_drop (at_drop hA)⟩
    · obtain ⟨B', y9, y10, y11, rfl, b6, hA⟩ := pr
      have b06 := b5.trans b6
      have I6 := I.mono (Nat.le_refl k) b06
      have hR := I6.rws (by omega) 1 2 rfl rfl hA
      have hpx := hpaH b06 hA
      -- what stands inside
      refine q_asgL (lc_rows (α := Unit) hR (fun m => inB n.path m.path) (fun m => .ref m.ro) (ev_var rfl) (fun _ => rfl) (fun m hm H3 e3 => et_B (ev_call (ea_cons ((hR.ex e3).row hm (v := .ref m.pa) rfl (ev_var rfl)) (ea_cons (ev_var rfl) ea_nil)) (spLIn_v ((hR.ex e3).p m hm) (I.nm m hm) (e3 _ _ hpx) hnn))) (fun m hm H3 e3 _ => ev_var rfl)) fun iw H7 nw e7 hiw => ?_
      have hA := at_ex hA e7
      have hR := hR.ex e7
      have hpx := e7 _ _ hpx
      have hfl : (ns.filter fun m => inB n.path m.path).length ≤ 1000 := Nat.le_trans (List.length_filter_le _ _) (by have := I.len; omega)
      obtain ⟨M, hM, hMy⟩ := max_ex ((ns.filter fun m => inB n.path m.path).map fun m => (m.path.length : Int)) (by
        have : n ∈ ns.filter fun m => inB n.path m.path := List.mem_filter.mpr ⟨hnm, inB_self _⟩
        intro e
        rw [List.map_eq_nil_iff] at e
        rw [e] at this
        cases this)
      have hsz : ((ns.filter fun m => inB n.path m.path).map szN).sum = szT ns n.path := sum_filter _ _ ns
      refine q_asg (v := .int (szT ns n.path)) (ev_cbL (el_lcA (K := K) (ys := ns.filter fun m => inB n.path m.path) (fun m => .ref m.ro) (fun m => .int (szN m)) (ev_var rfl) hiw (by omega) (fun _ => rfl) (fun m hm H4 e4 => (hR.ex e4).row (List.mem_filter.mp hm).1 rfl (ev_var rfl))) (fun a H4 e4 h4 => hsz ▸ rc_sumM (ns := (ns.filter fun m => inB n.path m.path).map szN) (by rw [List.map_map]; exact h4))) fun H8 e8 => ?_
      have hA := at_ex hA e8
      have hR := hR.ex e8
      have hpx := e8 _ _ hpx
      have hiw := e8 _ _ hiw
      refine q_asg (v := .int (M - (n.path.length : Int))) (ev_op (ev_cbL (el_lcA (K := K) (ys := ns.filter fun m => inB n.path m.path) (fun m => .ref m.ro) (fun m => .int (m.path.length : Int)) (ev_var rfl) hiw (by omega) (fun _ => rfl) (fun m hm H4 e4 => ev_is (ev_cb (ea_cons ((hR.ex e4).row (List.mem_filter.mp hm).1 (v := .ref m.pa) rfl (ev_var rfl)) ea_nil) (rc_len (sq_of ((hR.ex e4).p m (List.mem_filter.mp hm).1)))) (by rw [List.length_map]))) (fun a H4 e4 h4 => rc_maxM (ns := (ns.filter fun m => inB n.path m.path).map fun m => (m.path.length : Int)) (by rw [List.map_map]; exact h4) hM hMy)) (ev_is (ev_cb (ea_cons (ev_var rfl) ea_nil) (rc_len (sq_of hpx))) (by rw [List.length_map])) rv_I0) fun H9 e9 => ?_
      have hA := at_ex hA e9
      have hR := hR.ex e9
      have hpx := e9 _ _ hpx
      have hH := hgt_max hM hMy
      have O := I.ok (by omega)
      refine q_when (b := false) (et_is (et_or (a := false) (b := false) (et_is (et_not (et_B (ev_call (ea_cons (ev_size hA O hn (ev_var rfl) (ev_var rfl)) (ea_cons (ev_var rfl) ea_nil)) spSm_int))) rfl) (fun _ => et_is (et_not (et_B (ev_call (ea_cons (ev_height hA O hn hH (ev_var rfl) (ev_var rfl)) (ea_cons (ev_var rfl) ea_nil)) spSm_int))) rfl)) rfl) (fun hb => nomatch hb) (fun _ H10 e10 => ?_)
      have hA := at_ex hA e10
      have hR := hR.ex e10
      have hpx := e10 _ _ hpx
      obtain ⟨tx, nl, pl, hN⟩ := tr_take hA hn
      have k1 : decide (kdN n = 1) = n.file := by
        unfold kdN
        cases n.file <;> rfl
      have k0 : decide (kdN n = 0) = !n.file := by
        unfold kdN
        cases n.file <;> rfl
      refine q_when (b := false) (et_is (et_or (a := false) (b := false) (et_is (et_test (ev_op (ev_cb (ea_cons (ev_node hA hn (ev_var rfl) (ev_var rfl)) (ea_cons ev_c ea_nil)) (nd_isF N hN)) (ev_op (ev_var rfl) ev_c rv_eqI) (rv_ne rfl))) (by rw [k1, decide_eq_true rfl]; rfl)) (fun _ => et_is (et_test (ev_op (ev_cb (ea_cons (ev_node hA hn (ev_var rfl) (ev_var rfl)) (ea_cons ev_c ea_nil)) (nd_isD N hN)) (ev_op (ev_var rfl) ev_c rv_eqI) (rv_ne rfl))) (by rw [k0, decide_eq_true rfl]; rfl))) rfl) (fun hb => nomatch hb) (fun _ H11 e11 => ?_)
      have hA := at_ex hA e11
      have hR := hR.ex e11
      have hpx := e11 _ _ hpx
      have ez1 : n.path.map V.str ++ [V.str z] = (n.path ++ [z]).map V.str := by rw [List.map_append]; rfl
      have ez2 : n.path.map V.str ++ [V.str z, V.str z] = (n.path ++ z :: [z]).map V.str := by rw [List.map_append]; rfl
      have el1 : ∀ {σ : L2.St} {H' : Hp}, Ex H11 H' → σ[5]? = some (some (.ref n.pa)) → σ[3]? = some (some (.str z)) → EvL (tOp rCat (tVar 5) (tLst (tCons (tVar 3) tNil))) σ H' ((n.path ++ [z]).map V.str) := fun e h5 h3 => ez1 ▸ el_catV (ev_var h5) (e _ _ hpx) (el_lst (ea_cons (ev_var h3) ea_nil) (by show 1 ≤ 100000; decide)) (by rw [List.length_map]; show n.path.length + 1 ≤ 100000; omega)
      have el2 : ∀ {σ : L2.St} {H' : Hp}, Ex H11 H' → σ[5]? = some (some (.ref n.pa)) → σ[3]? = some (some (.str z)) → EvL (tOp rCat (tVar 5) (tLst (tCons (tVar 3) (tCons (tVar 3) tNil)))) σ H' ((n.path ++ z :: [z]).map V.str) := fun e h5 h3 => ez2 ▸ el_catV (ev_var h5) (e _ _ hpx) (el_lst (ea_cons (ev_var h3) (ea_cons (ev_var h3) ea_nil)) (by show 2 ≤ 100000; decide)) (by rw [List.length_map]; show n.path.length + 2 ≤ 100000; omega)
      have hxn : ∀ y ∈ n.path ++ [z], nmS y = true := fun y hy => by
        rcases List.mem_append.mp hy with hy | hy
        · exact hnn y hy
        · rw [List.mem_singleton.mp hy]; exact hz
      obtain ⟨du, hdu⟩ := lat_ex ns (n.path ++ [z])
      refine q_asg (v := .int du) (ev_callL (ev_var rfl) (el1 (Ex.refl _) rfl rfl) fun p H12 e12 h12 => spLAt_v W (hR.ex e12) h12 hxn hdu) fun H12 e12 => ?_
      have hA := at_ex hA e12
      have b6q : ∀ H', Ex H12 H' → Q (.bl true) H' := fun H' e => q B' H' b06 (at_ex hA e)
      refine q_when (b := decide (kdN n = 1)) (et_test (ev_op (ev_var rfl) ev_c rv_eqI)) (fun hb H13 e13 => ?_) (fun hb H13 e13 => ?_)
      · have hf : n.file = true := by rw [← k1]; exact hb
        have hA := at_ex hA e13
        exact s_ret (ev_andT (ev_is (ev_op (ev_is (ev_lookL W hA (ev_var rfl) (el1 (e12.trans e13) rfl rfl)) (W.lookKind hn hf z [])) ev_c (rv_eq rfl)) (congrArg V.bl (decide_eq_true rfl))) (ev_is (ev_op (ev_is (ev_lookL W hA (ev_var rfl) (el2 (e12.trans e13) rfl rfl)) (W.lookKind hn hf z [z])) ev_c (rv_eq rfl)) (congrArg V.bl (decide_eq_true rfl)))) fun H14 e14 => b6q H14 (e13.trans e14)
      · have hf : n.file = false := by rw [← k1]; exact hb
        have hA := at_ex hA e13
        refine q_when (b := decide (du < 0)) (et_test (ev_op (ev_var rfl) ev_c rv_I0)) (fun hb H14 e14 => ?_) (fun hb H14 e14 => ?_)
        · have hx := lat_no hdu (of_decide_eq_true hb)
          have hA := at_ex hA e14
          exact s_ret (ev_andT (ev_is (ev_op (ev_is (ev_lookL W hA (ev_var rfl) (el1 (e12.trans (e13.trans e14)) rfl rfl)) (W.lookMiss hn hf hx [])) ev_c (rv_eq rfl)) (congrArg V.bl (decide_eq_true rfl))) (ev_is (ev_op (ev_is (ev_lookL W hA (ev_var rfl) (el2 (e12.trans (e13.trans e14)) rfl rfl)) (W.lookMiss hn hf hx [z])) ev_c (rv_eq rfl)) (congrArg V.bl (decide_eq_true rfl)))) fun H15 e15 => b6q H15 (e13.trans (e14.trans e15))
        · have hd0 := of_decide_eq_false hb
          rcases hdu with ⟨x, m, rfl, hm, hmp⟩ | ⟨rfl, _⟩
          · have hA := at_ex hA e14
            have hlk : luV ns 0 (n.path ++ [z]) = .int (x : Int) := by
              have := W.look _ x m rfl hm []
              rw [List.append_nil, hmp] at this
              exact this
            exact s_ret (ev_call (ea_cons (ev_is (ev_lookL W hA (ev_var rfl) (el1 (e12.trans (e13.trans e14)) rfl rfl)) hlk) (ea_cons (ev_var rfl) ea_nil)) spSm_int) fun H15 e15 => b6q H15 (e13.trans (e14.trans e15))
          · omega
theorem go_nt {σ : L2.St} {H : Hp} {t : TT} {Q : Bool → Hp → Prop} (h : t σ H fun b H1 => Q (!b) H1) : tNot t σ H Q := h
theorem go_tB {σ : L2.St} {H : Hp} {te : TE} {Q : Bool → Hp → Prop} (h : te σ H fun v H1 => ∃ b, v = .bl b ∧ Q b H1) : tB te σ H Q := h
theorem go_and {σ : L2.St} {H : Hp} {t u : TT} {b : Bool} {Q : Bool → Hp → Prop} (h : EvT t σ H b) (k2 : b = false → ∀ H1, Ex H H1 → Q false H1) (k1 : b = true → ∀ H1, Ex H H1 → u σ H1 Q) : tAnd t u σ H Q := h H (Ex.refl H) _ fun H1 e1 => by
  cases b with
  | true => exact k1 rfl H1 e1
  | false => exact k2 rfl H1 e1
theorem q_whenF {σ : L2.St} {H : Hp} {D : Ends} {tz tu : TS} {t : TT} {C : Hp → Prop} (h : ∀ Q : Bool → Hp → Prop, (∀ H1, C H1 → Q false H1) → t σ H Q) (k : ∀ H1, C H1 → tz D σ H1) : tSeq (tIfS t tu tNext) tz D σ H := h _ fun H1 hc => k H1 hc
theorem s_whenF {σ : L2.St} {H : Hp} {D : Ends} {tu : TS} {t : TT} {C : Hp → Prop} (h : ∀ Q : Bool → Hp → Prop, (∀ H1, C H1 → Q false H1) → t σ H Q) (k : ∀ H1, C H1 → D.nx σ H1) : tIfS t tu tNext D σ H := h _ fun H1 hc => k H1 hc
theorem q_whenS {σ : L2.St} {H : Hp} {D : Ends} {t : TT} {tu tz : TS} {b : Bool} (M : L2.St → Hp → Prop) (h : EvT t σ H b) (h2 : b = false → ∀ H1, Ex H H1 → M σ H1) (h1 : b = true → ∀ H1, Ex H H1 → ∀ Dn : Ends, (∀ σ' H', M σ' H' → Dn.nx σ' H') → tu Dn σ H1) (k : ∀ σ' H', M σ' H' → tz D σ' H') : tSeq (tIfS t tu tNext) tz D σ H := q_when h (fun hb H1 e1 => h1 hb H1 e1 { D with nx := tz D } k) (fun hb H1 e1 => k σ H1 (h2 hb H1 e1))
theorem q_forRB {σ : L2.St} {H : Hp} {D : Ends} {tz tu : TS} {ta : L2.TA} {j : Nat} {n : Int} (h : EvA ta σ H [.int n]) (hn : 0 ≤ n ∧ n ≤ 100000) (Pv : Nat → L2.St → Hp → Prop) (Pe : L2.St → Hp → Prop) (h0 : ∀ H1, Ex H H1 → Pv 0 σ H1)
    (hs : ∀ bk : L2.St → Hp → Prop, (∀ σ' H', Pe σ' H' → bk σ' H') → ∀ (i : Nat) σ' H', (i : Int) < n → Pv i σ' H' → tu { D with nx := Pv (i + 1), ct := Pv (i + 1), bk := bk } (σ'.set j (some (.int (i : Int)))) H') (hd : ∀ σ' H', Pv n.toNat σ' H' → Pe σ' H') (hz : ∀ σ' H', Pe σ' H' → tz D σ' H') : tSeq (tFor (iRng1 ta) (gName j) tu) tz D σ H :=
  q_forR1 h hn Pv h0 (hs (tz D) hz) (fun σ' H' p => hz σ' H' (hd σ' H' p))
theorem ev_lenTr {σ : L2.St} {B H : Hp} {F : List MP} {CT CF CD t : Addr} {ns : List Nd} {E : XK} {ta : TE} (hA : At B (TrM K CT CF CD t ns :: F) H) (h : Ev ta σ H (.ref t)) (hz : ns.length ≤ 5000) : Ev (tCB (rLenO CT (spTrL K CT CF CD) E) (tCons ta tNil)) σ H (.int (ns.length : Int)) := fun H1 e Q q =>
  go_cbk (h H1 e _ fun H2 e2 => by
    obtain ⟨dx, nl, pl, ht⟩ := tr_ins (at_ex hA (e.trans e2))
    exact ⟨t, dx, _, rfl, ht, t, ns, B, F, rfl, at_ex hA (e.trans e2), fun H3 e3 => ⟨(ns.length : Int), rfl, by omega, by omega, q H3 (e2.trans e3)⟩⟩)
theorem given_mem {x : V} : ∀ (n : Nat) (f : Nat → Bool) (v : Nat → V), x ∈ Evl.given n f v → ∃ i, i < n ∧ f i = true ∧ x = v i
  | 0, f, v, h => nomatch h
  | n + 1, f, v, h => by
    rw [given_next] at h
    rcases List.mem_append.mp h with h | h
    · by_cases hf : f 0 = true
      · rw [if_pos hf] at h
        exact ⟨0, by omega, hf, List.mem_singleton.mp h⟩
      · rw [if_neg hf] at h
        cases h
    · obtain ⟨i, hi, hf, hx⟩ := given_mem n _ _ h
      exact ⟨i + 1, by omega, hf, hx⟩
theorem given_le : ∀ (n : Nat) (f : Nat → Bool) (v : Nat → V), (Evl.given n f v).length ≤ n
  | 0, f, v => Nat.le_refl 0
  | n + 1, f, v => by
    have := given_le n (fun i => f (i + 1)) (fun i => v (i + 1))
    rw [given_next, List.length_append]
    by_cases hf : f 0 = true
    · rw [if_pos hf]
      show 1 + _ ≤ _
      omega
    · rw [if_neg hf]
      show 0 + _ ≤ _
      omega
theorem given_pos {n : Nat} {f : Nat → Bool} {v : Nat → V} (hn : 0 < n) (h : f 0 = true) : 0 < (Evl.given n f v).length := by
  obtain ⟨m, rfl⟩ : ∃ m, n = m + 1 := ⟨n - 1, by omega⟩
  rw [given_next, if_pos h, List.length_append]
  show 0 < 1 + _
  omega
theorem modN {y : Int} {n : Nat} (h : 0 < n) : ∃ k : Nat, y % (n : Int) = (k : Int) ∧ k < n := by
  have h0 : 0 ≤ y % (n : Int) := Int.emod_nonneg _ (by omega)
  have h1 : y % (n : Int) < n := Int.emod_lt_of_pos _ (by omega)
  exact ⟨(y % (n : Int)).toNat, by omega, by omega⟩
theorem pickN {nms : List Str} (hn : nms.length = 6) (hm : ∀ z ∈ nms, nmS z = true) (y : Int) : ∃ z, atI (nms.map V.str) (y % 6) = some (.str z) ∧ nmS z = true := by
  obtain ⟨k, hk, hlt⟩ := modN (y := y) (n := 6) (by decide)
  have hk' : y % 6 = (k : Int) := hk
  rw [hk']
  exact ⟨nms[k]'(by omega), atI_nat (by rw [List.getElem?_map, List.getElem?_eq_getElem (show k < nms.length by omega)]; rfl), hm _ (List.getElem_mem _)⟩
theorem nmN (k : Nat) (h : k < 40) : nmS (("n" : Str) ++ Str.ofString (toString (k : Int))) = true := by
  have : ∀ k : Fin 40, nmS (("n" : Str) ++ Str.ofString (toString ((k.val : Nat) : Int))) = true := by decide +kernel
  exact this ⟨k, h⟩
theorem InvT.root {B : Hp} {d r0 q0 : Addr} (h : B q0 = some (.lst [])) : InvT 0 B [⟨false, d, 0, "", [], [], [], .non, r0, q0⟩] where
  wf := {
    root := ⟨_, rfl, rfl, rfl⟩
    par := fun i n hi hn => by
      cases i with
      | zero => exact absurd rfl hi
      | succ i => cases hn
    ent := fun j o z v ho _ hv => by
      cases j with
      | zero =>
        cases ho
        cases hv
      | succ j => cases ho
    uniq := fun i j n m hi hj _ => by
      cases i with
      | succ i => cases hi
      | zero => cases j with
        | succ j => cases hj
        | zero => rfl
    keys := fun n hn => by
      rw [List.mem_singleton.mp hn]
      exact List.nodup_nil }
  few := fun n hn => by
    rw [List.mem_singleton.mp hn]
    exact Nat.le_refl 0
  deep := fun n hn => by
    rw [List.mem_singleton.mp hn]
    exact Nat.zero_le 6
  len := Nat.le_refl 1
  pa := fun n hn => by
    rw [List.mem_singleton.mp hn]
    exact h
  nm := fun n hn => by
    rw [List.mem_singleton.mp hn]
    exact fun z hz => nomatch hz
  ps := fun n hn => by
    rw [List.mem_singleton.mp hn]
    exact Nat.zero_le 3
theorem InvT.pos {k : Nat} {B : Hp} {ns : List Nd} (I : InvT k B ns) : ∃ r, ns[0]? = some r ∧ r.file = false ∧ 0 < ns.length := by
  obtain ⟨r, hr, hf, _⟩ := I.wf.root
  exact ⟨r, hr, hf, (List.getElem?_eq_some_iff.mp hr).1⟩
def TrW (K : PySem.W.Frag) (CT CF CD t nd : Addr) (ns : List Nd) : List MP := [TrM K CT CF CD t ns, Pt nd (.lst (roL ns)), Each ns RwM]
theorem ok_lawG {f f1 f2 f3 f4 f5 f6 f7 f8 m1 m2 CT CF CD : Addr} {fd fd1 fd2 fd3 fd4 fd5 fd6 fd7 fd8 md1 md2 : FuncData} (F : Fun K "law" "law" s_law f fd)
    (D__law_stream : Df K mg "_law_stream" s__law_stream ["script", "many"] f1 fd1) (G__law_stream : FnOk P w K mg base CX0 1 f1 fd1 ["script", "many"] (spStreamW K)) (D__law_draw : Df K mg "_law_draw" s__law_draw ["draws", "k"] f2 fd2) (G__law_draw : FnOk P w K mg base CX0 1 f2 fd2 ["draws", "k"] (spDraw K))
    (D__law_names : Df K mg "_law_names" s__law_names ["draws", "at"] f3 fd3) (G__law_names : FnOk P w K mg base CX0 3 f3 fd3 ["draws", "at"] (spNames K)) (D__law_same : Df K mg "_law_same" s__law_same ["actual", "due"] f4 fd4) (G__law_same : FnOk P w K mg base CX0 4 f4 fd4 ["actual", "due"] (spSm K 3))
    (D__law_attach : Df K mg "_law_attach" s__law_attach ["tree", "nodes", "at", "name", "draw"] f5 fd5) (G__law_attach : FnOk P w K mg base CX0 5 f5 fd5 ["tree", "nodes", "at", "name", "draw"] (spWAt K CT CF CD)) (D__law_move : Df K mg "_law_move" s__law_move ["tree", "nodes", "number", "at", "name"] f6 fd6) (G__law_move : FnOk P w K mg base CX0 5 f6 fd6 ["tree", "nodes", "number", "at", "name"] (spWMv K CT CF CD))
    (D__law_node_is : Df K mg "_law_node_is" s__law_node_is ["tree", "nodes", "number", "name"] f7 fd7) (G__law_node_is : FnOk P w K mg base CX0 10 f7 fd7 ["tree", "nodes", "number", "name"] (spWIs K CT CF CD)) (D__law_unknown : Df K mg "_law_unknown" s__law_unknown ["tree", "number"] f8 fd8) (G__law_unknown : FnOk P w K mg base CX0 3 f8 fd8 ["tree", "number"] (spLUn K CT CF CD))
    (D_Tree___init__ : Dm K CT "__init__" "Tree.__init__" s_Tree___init__ ["self"] m1 md1) (G_Tree___init__ : FnOk P w K mg base CX0 3 m1 md1 ["self"] (spTrI K CT CF CD)) (D_Tree___len__ : Dm K CT "__len__" "Tree.__len__" s_Tree___len__ ["self"] m2 md2) (G_Tree___len__ : FnOk P w K mg base CX0 1 m2 md2 ["self"] (spTrL K CT CF CD))
    (L_Tree : Kl K mg "Tree" CT) (T : Glo mg) : FnOk P w K mg base CX0 20 f fd ["script"] (spLaw K) := by
  refine F.ok sc_law (fun vs H Q E h => ?_) (fun cdv A outer s H vs Q E hr h => ?_)
  · obtain ⟨a, ns, rfl, _⟩ := h
    rfl
  · obtain ⟨a, ns, rfl, hS, hn, q⟩ := h
    refine ⟨_, (pss_cons (ps_set (i := 1) sc_law.nd rfl (.inl rfl) (pe_call G__law_stream (hr.mono (by decide)) (by rfl) D__law_stream.g D__law_stream.F.kp D__law_stream.b .nil pass0 (pa_cons (pv 0) (pa_cons pe_int pa_nil))))
  (pss_cons (ps_set (i := 2) sc_law.nd rfl (.inl rfl) (pe_call G__law_names (hr.mono (by decide)) (by rfl) D__law_names.g D__law_names.F.kp D__law_names.b .nil pass0 (pa_cons (pv 1) (pa_cons pe_int pa_nil))))
  (pss_cons (ps_set (i := 3) sc_law.nd rfl (.inl rfl) (pe_make0 (L_Tree.make D_Tree___init__) G_Tree___init__ (hr.mono (by decide)) (by rfl) L_Tree.g D_Tree___init__.b .nil pass0))
  (pss_cons (ps_set (i := 4) sc_law.nd rfl (.inr rfl) (pe_lst (pa_cons (pe_lst (pa_cons pe_int (pa_cons (pe_lst pa_nil) (pa_cons pe_int pa_nil)))) pa_nil)))
  (pss_cons (ps_for PassesOwn.never rfl (pi_range1 (by rfl) T.range (pa_cons pe_int pa_nil)) (pg_name (i := 5) sc_law.nd rfl (.inl rfl))
  (pss_cons (ps_if (pt_cmpR op_ge (pe_op op_add pe_int (pe_op op_mul pe_int (pv 5))) (pe_callB call_len_seq (by rfl) T.len PySem.boot_len (pa_cons (pv 1) pa_nil)) (nomark _))
  (pss_one ps_break)
  pss_nil)
  (pss_cons (ps_set (i := 6) sc_law.nd rfl (.inl rfl) (pe_call G__law_draw (hr.mono (by decide)) (by rfl) D__law_draw.g D__law_draw.F.kp D__law_draw.b .nil pass0 (pa_cons (pv 1) (pa_cons (pe_op op_add pe_int (pe_op op_mul pe_int (pv 5))) pa_nil))))
  (pss_cons (ps_set (i := 7) sc_law.nd rfl (.inl rfl) (pe_call G__law_draw (hr.mono (by decide)) (by rfl) D__law_draw.g D__law_draw.F.kp D__law_draw.b .nil pass0 (pa_cons (pv 1) (pa_cons (pe_op op_add pe_int (pe_op op_mul pe_int (pv 5))) pa_nil))))
  (pss_cons (ps_setLc (i := 8) (own := [("j", 9)]) (g := gName 9) rfl sc_law.nd rfl rfl (sw_true rfl rfl rfl (by decide +kernel)) (pi_range1 (by rfl) T.range (pa_cons (pe_callB call_len_seq (by rfl) T.len PySem.boot_len (pa_cons (pv 4) pa_nil)) pa_nil)) (blkOk_by (N := N_law) (sc := defScope s_law) (by decide +kernel)) (fun _ _ _ _ _ => (pg_name (i := 9) sc_law.nd rfl (.inl rfl))) (fun _ _ _ _ _ => (pts_one (pt_cmpR op_eq (pe_ix (show IxR _ (rIxL K) from ix_list) (pe_ix (show IxR _ (rIxL K) from ix_list) (pv 4) (pv 9) (fun _ _ => rfl)) pe_int (fun _ _ => rfl)) pe_int (nomark _)))) (fun _ _ _ _ _ => (pv 9)))
  (pss_cons (ps_set (i := 10) sc_law.nd rfl (.inl rfl) (pe_ix ix_list (pv 8) (pe_op op_mod (pe_callTy call_int1 (by rfl) T.int (by decide +kernel) (pa_cons (pe_op op_fdiv (pv 6) pe_int) pa_nil)) (pe_callB call_len_seq (by rfl) T.len PySem.boot_len (pa_cons (pv 8) pa_nil))) (fun _ _ => rfl)))
  (pss_cons (ps_set (i := 11) sc_law.nd rfl (.inl rfl) (pe_ix ix_list (pv 2) (pe_op op_mod (pe_callTy call_int1 (by rfl) T.int (by decide +kernel) (pa_cons (pe_op op_fdiv (pv 6) pe_int) pa_nil)) pe_int) (fun _ _ => rfl)))
  (pss_cons (ps_if (pt_cmpR op_eq (pe_op op_mod (pe_callTy call_int1 (by rfl) T.int (by decide +kernel) (pa_cons (pe_op op_fdiv (pv 6) pe_int) pa_nil)) pe_int) pe_int (nomark _))
  (pss_one (ps_set (i := 11) sc_law.nd rfl (.inl rfl) (pe_op op_add_str pe_str (pe_callTy call_strB (by rfl) T.str (by decide +kernel) (pa_cons (pv 5) pa_nil)))))
  pss_nil)
  (pss_cons (ps_if (PW.pt (pw_and (pt_cmpR op_lt (pe_op op_mod (pe_callTy call_int1 (by rfl) T.int (by decide +kernel) (pa_cons (pv 6) pa_nil)) pe_int) pe_int (nomark _)) (pw_and1 (pt_not (pt_val (pe_call G__law_attach (hr.mono (by decide)) (by rfl) D__law_attach.g D__law_attach.F.kp D__law_attach.b .nil pass0 (pa_cons (pv 3) (pa_cons (pv 4) (pa_cons (pv 10) (pa_cons (pv 11) (pa_cons (pv 7) pa_nil)))))))))))
  (pss_one (ps_ret pe_bl))
  pss_nil)
  (pss_cons (ps_set (i := 12) sc_law.nd rfl (.inl rfl) (pe_op op_mod (pe_callTy call_int1 (by rfl) T.int (by decide +kernel) (pa_cons (pv 7) pa_nil)) (pe_callB call_len_seq (by rfl) T.len PySem.boot_len (pa_cons (pv 4) pa_nil))))
  (pss_cons (ps_if (PW.pt (pw_and (pt_cmpR op_eq (pe_op op_mod (pe_callTy call_int1 (by rfl) T.int (by decide +kernel) (pa_cons (pv 6) pa_nil)) pe_int) pe_int (nomark _)) (pw_and1 (pt_not (pt_val (pe_call G__law_move (hr.mono (by decide)) (by rfl) D__law_move.g D__law_move.F.kp D__law_move.b .nil pass0 (pa_cons (pv 3) (pa_cons (pv 4) (pa_cons (pv 12) (pa_cons (pv 10) (pa_cons (pv 11) pa_nil)))))))))))
  (pss_one (ps_ret pe_bl))
  pss_nil)
  (pss_one (ps_if (pt_not (pt_val (pe_call G__law_node_is (hr.mono (by decide)) (by rfl) D__law_node_is.g D__law_node_is.F.kp D__law_node_is.b .nil pass0 (pa_cons (pv 3) (pa_cons (pv 4) (pa_cons (pv 12) (pa_cons (pe_ix ix_list (pv 2) (pe_op op_mod (pe_callTy call_int1 (by rfl) T.int (by decide +kernel) (pa_cons (pe_op op_fdiv (pv 7) pe_int) pa_nil)) pe_int) (fun _ _ => rfl)) pa_nil)))))))
  (pss_one (ps_ret pe_bl))
  pss_nil)))))))))))))
  (pss_cons (ps_for PassesOwn.never rfl (pi_range1 (by rfl) T.range (pa_cons (pe_callB call_len_seq (by rfl) T.len PySem.boot_len (pa_cons (pv 4) pa_nil)) pa_nil)) (pg_name (i := 12) sc_law.nd rfl (.inl rfl))
  (pss_one (ps_if (pt_not (pt_val (pe_call G__law_node_is (hr.mono (by decide)) (by rfl) D__law_node_is.g D__law_node_is.F.kp D__law_node_is.b .nil pass0 (pa_cons (pv 3) (pa_cons (pv 4) (pa_cons (pv 12) (pa_cons (pe_ix ix_list (pv 2) pe_int (fun _ _ => rfl)) pa_nil)))))))
  (pss_one (ps_ret pe_bl))
  pss_nil)))
  (pss_cons (ps_set (i := 13) sc_law.nd rfl (.inl rfl) (pe_op op_add (pe_callB call_len_seq (by rfl) T.len PySem.boot_len (pa_cons (pv 4) pa_nil)) (pe_op op_mod (pe_callTy call_int1 (by rfl) T.int (by decide +kernel) (pa_cons (pe_call G__law_draw (hr.mono (by decide)) (by rfl) D__law_draw.g D__law_draw.F.kp D__law_draw.b .nil pass0 (pa_cons (pv 1) (pa_cons pe_int pa_nil))) pa_nil)) (pe_op op_pow pe_int pe_int))))
  (pss_cons (ps_for PassesOwn.never rfl (pi_list (pe_lst (pa_cons (pe_un un_neg pe_int) (pa_cons (pe_callB call_len_seq (by rfl) T.len PySem.boot_len (pa_cons (pv 4) pa_nil)) (pa_cons (pv 13) (pa_cons (pe_un un_neg (pv 13)) pa_nil)))))) (pg_name (i := 12) sc_law.nd rfl (.inl rfl))
  (pss_one (ps_if (pt_not (pt_val (pe_call G__law_unknown (hr.mono (by decide)) (by rfl) D__law_unknown.g D__law_unknown.F.kp D__law_unknown.b .nil pass0 (pa_cons (pv 3) (pa_cons (pv 12) pa_nil)))))
  (pss_one (ps_ret pe_bl))
  pss_nil)))
  (pss_one (ps_ret (pe_call G__law_same (hr.mono (by decide)) (by rfl) D__law_same.g D__law_same.F.kp D__law_same.b .nil pass0 (pa_cons (pe_callB (call_lenO D_Tree___len__.m G_Tree___len__ (hr.mono (by decide)) D_Tree___len__.b pass0) (by rfl) T.len PySem.boot_len (pa_cons (pv 3) pa_nil)) (pa_cons (pe_callB call_len_seq (by rfl) T.len PySem.boot_len (pa_cons (pv 4) pa_nil)) pa_nil))))))))))))), ?_⟩
    refine q_call (ea_cons (ev_var rfl) (ea_cons ev_c ea_nil)) fun H1 e1 => ⟨a, ns, 88, rfl, ex_l e1 hS, hn, by decide, fun ds hD hl b H2 nb e2 hb => ?_⟩
    obtain ⟨n6, nn⟩ := namesS_ok ds 1
    refine q_call (ea_cons (ev_var rfl) (ea_cons ev_c ea_nil)) fun H3 e3 => ⟨b, ds, 1, rfl, sq_of (e3 _ _ hb), fun nl H4 nn4 e4 hnl => ?_⟩
    have hb4 := (e3.trans e4) _ _ hb
    generalize namesS ds 1 = nms at *
    have hA := at_start (H := H4)
    refine q_do (make_at hA ea_nil fun t x0 H5 hA => ⟨t, x0, _, _, rfl, hA, fun d H6 hA => ⟨rfl, ?_⟩⟩)
    refine q_do (go_lst (go_cons' (go_lst (go_cons ev_c fun H9 e9 => go_cons' (go_lst (go_nil ⟨by show 0 ≤ sizeLine; decide, fun q0 hq0 => go_cons ev_c fun H10 e10 => go_nil ⟨by show 3 ≤ sizeLine; decide, fun r0 hr0 => go_nil ⟨by show 1 ≤ sizeLine; decide, fun pn hpn => ?_⟩⟩⟩))))))
    have hA := at_ex hA e9
    have e90 : Ex H9 H10 := (Ex.new hq0).trans e10
    have hB1 : ov H4 H9 H10 q0 = some (.lst []) := ov_fresh (at_base hA) hq0 (e10 _ _ upd_same)
    have hA := at_grow hA e90
    have b1 : Ex H4 (ov H4 H9 H10) := ov_base
    generalize ov H4 H9 H10 = B1 at hB1 hA b1
    have hA := at_new (o := .lst [.int 0, .ref q0, .int 0]) hA hr0 (Ex.new hr0) upd_same
    have hA := at_new (o := .lst [.ref r0]) hA hpn (Ex.new hpn) upd_same
    have hA := each_nil (f := RwM) (at_ix 3 [2, 0, 1] hA)
    have hA := each_app (x := (⟨false, d, 0, "", [], [], [], .non, r0, q0⟩ : Nd)) (f := RwM) (at_ix 4 [3, 0, 1, 2] hA)
    have hA : At B1 (TrW K CT CF CD t pn [⟨false, d, 0, "", [], [], [], .non, r0, q0⟩]) _ := tr_same (SameT.set (ns := [rootN d]) (k := 0) rfl rfl rfl rfl rfl rfl rfl) (at_ix 3 [1, 2, 0] hA)
    have I0 : InvT 0 B1 [⟨false, d, 0, "", [], [], [], .non, r0, q0⟩] := InvT.root hB1
    generalize ([⟨false, d, 0, "", [], [], [], .non, r0, q0⟩] : List Nd) = ns0 at hA I0
    refine q_forRB (n := 40) (ea_cons ev_c ea_nil) (by omega) (fun i σ' H' => ∃ (ns : List Nd) (B' : Hp) (y5 y6 y7 y8 y10 y11 y12 y13 : Option V), σ' = [some (.ref a), some (.ref b), some (.ref nl), some (.ref t), some (.ref pn), y5, y6, y7, y8, none, y10, y11, y12, y13] ∧ Ex H4 B' ∧ At B' (TrW K CT CF CD t pn ns) H' ∧ InvT i B' ns)
      (fun σ' H' => ∃ (ns : List Nd) (B' : Hp) (y5 y6 y7 y8 y10 y11 y12 y13 : Option V), σ' = [some (.ref a), some (.ref b), some (.ref nl), some (.ref t), some (.ref pn), y5, y6, y7, y8, none, y10, y11, y12, y13] ∧ Ex H4 B' ∧ At B' (TrW K CT CF CD t pn ns) H' ∧ InvT 40 B' ns)
      (fun H18 e18 => ⟨ns0, B1, _, _, _, _, _, _, _, _, rfl, b1, at_ex hA e18, I0⟩) (fun bk hbk i σ' H' hi pp => ?_) (fun σ' H' pp => pp) (fun σ' H' pp => ?_)
    · obtain ⟨ns, B2, y5, y6, y7, y8, y10, y11, y12, y13, rfl, b2, hA, I⟩ := pp
      have hbB : ∀ {B' H' : Hp} {l : List MP}, Ex H4 B' → At B' l H' → H' b = some (.lst (ds.map V.int)) := fun b1 hA => at_base hA _ _ (b1 _ _ hb4)
      have hnB : ∀ {B' H' : Hp} {l : List MP}, Ex H4 B' → At B' l H' → H' nl = some (.lst (nms.map V.str)) := fun b1 hA => at_base hA _ _ (b1 _ _ hnl)
      refine qe_when (b := decide ((8 : Int) + 2 * (i : Int) ≥ (ds.length : Int))) hA (et_test (ev_op (ev_op ev_c (ev_op ev_c (ev_var rfl) (rv_I (show CMul 2 (i : Int) from .inl (by decide)))) rv_I0) (ev_is (ev_cb (ea_cons (ev_var rfl) ea_nil) (rc_len (sq_of (hbB b2 hA)))) (by rw [List.length_map])) rv_I0)) (fun _ H18 hA => hbk _ _ ⟨ns, B2, _, _, _, _, _, _, _, _, rfl, b2, hA, I.mono (by omega) (Ex.refl _)⟩) (fun _ H18 hA => ?_)
      refine qe_asg (x := .int (drw ds (8 + 2 * i))) hA (ev_call (ea_cons (ev_var rfl) (ea_cons (ev_op ev_c (ev_op ev_c (ev_var rfl) (rv_I (show CMul 2 (i : Int) from .inl (by decide)))) rv_I0) ea_nil)) (spDraw_v (sq_of (hbB b2 hA)) (by show (8 : Int) + 2 * (i : Int) = ((8 + 2 * i : Nat) : Int); omega))) fun H19 hA => ?_
      refine qe_asg (x := .int (drw ds (9 + 2 * i))) hA (ev_call (ea_cons (ev_var rfl) (ea_cons (ev_op ev_c (ev_op ev_c (ev_var rfl) (rv_I (show CMul 2 (i : Int) from .inl (by decide)))) rv_I0) ea_nil)) (spDraw_v (sq_of (hbB b2 hA)) (by show (9 : Int) + 2 * (i : Int) = ((9 + 2 * i : Nat) : Int); omega))) fun H20 hA => ?_
      generalize drw ds (8 + 2 * i) = x
      generalize drw ds (9 + 2 * i) = y
      obtain ⟨r0', hr0', hrf, hpos⟩ := I.pos
      have hlen := I.len
      have hR := I.rws (by omega) 1 2 rfl rfl hA
      have hrl : (roL ns).length = ns.length := List.length_map _
      -- the folders
      refine q_asgL (el_lcR1 (n := (ns.length : Int)) (fun k => decide ((ns[k]?.map kdN) = some 0)) (fun k => .int (k : Int)) (ea_cons (ev_is (ev_cb (ea_cons (ev_var rfl) ea_nil) (rc_len (sq_of (at_get (a := pn) 1 rfl hA)))) (by rw [hrl])) ea_nil) (by omega) (fun _ => rfl) (fun k H3 e3 hk => ?_) (fun k H3 e3 hk _ => ev_var rfl)) fun fp H21 nfp e21 hfp => ?_
      · obtain ⟨n, hn⟩ : ∃ n, ns[k]? = some n := ⟨_, List.getElem?_eq_getElem (by omega)⟩
        exact et_is (et_test (ev_op ((hR.ex e3).row (List.mem_of_getElem? hn) (v := .int (kdN n)) rfl ((hR.ex e3).at_ hn (ev_var rfl) (ev_var rfl))) ev_c rv_eqI)) (by rw [hn]; exact decide_eq_decide.mpr ⟨fun h => congrArg some h, fun h => Option.some.inj h⟩)
      rw [Int.toNat_natCast] at hfp
      have hfl : 0 < (Evl.given ns.length (fun k => decide ((ns[k]?.map kdN) = some 0)) (fun k => V.int (k : Int))).length := given_pos hpos (by rw [hr0']; exact decide_eq_true (by show some (kdN r0') = some 0; unfold kdN; rw [if_neg (by rw [hrf]; decide)]))
      have hfl2 : (Evl.given ns.length (fun k => decide ((ns[k]?.map kdN) = some 0)) (fun k => V.int (k : Int))).length ≤ ns.length := given_le _ _ _
      have hfm : ∀ v ∈ Evl.given ns.length (fun k => decide ((ns[k]?.map kdN) = some 0)) (fun k => V.int (k : Int)), ∃ j : Nat, j < ns.length ∧ v = V.int (j : Int) := fun v hv => by
        obtain ⟨j, hj, _, e⟩ := given_mem _ _ _ hv
        exact ⟨j, hj, e⟩
      generalize Evl.given ns.length (fun k => decide ((ns[k]?.map kdN) = some 0)) (fun k => V.int (k : Int)) = fl at hfp hfl hfl2 hfm
      obtain ⟨fm, hfm1, hfm2⟩ := modN (y := x / 3) hfl
      obtain ⟨j, hj, hjv⟩ := hfm _ (List.getElem_mem hfm2)
      obtain ⟨pj, hpj⟩ : ∃ n, ns[j]? = some n := ⟨_, List.getElem?_eq_getElem hj⟩
      have hA := at_ex hA e21
      refine qe_asg (x := .int (j : Int)) hA (ev_op (ev_var rfl) (ev_op (ev_cb (ea_cons (ev_op (ev_var rfl) ev_c (rv_I ⟨by decide, by decide⟩)) ea_nil) rc_int) (ev_cb (ea_cons (ev_var rfl) ea_nil) (rc_len (sq_of hfp))) (rv_I (by omega))) (rv_ixL (sq_of hfp) (by rw [hfm1]; exact atI_nat (by rw [List.getElem?_eq_getElem hfm2, hjv])))) fun H22 hA => ?_
      obtain ⟨z0, hz0, hzn0⟩ := pickN n6 nn (x / 120)
      refine qe_asg (x := .str z0) hA (ev_op (ev_var rfl) (ev_op (ev_cb (ea_cons (ev_op (ev_var rfl) ev_c (rv_I ⟨by decide, by decide⟩)) ea_nil) rc_int) ev_c (rv_I (by decide))) (rv_ixL (sq_of (hnB b2 hA)) hz0)) fun H23 hA => ?_
      refine q_whenS (b := decide (x / 720 % 3 = 0)) (fun σ' H' => ∃ z, nmS z = true ∧ σ' = [some (.ref a), some (.ref b), some (.ref nl), some (.ref t), some (.ref pn), some (.int (i : Int)), some (.int x), some (.int y), some (.ref fp), none, some (.int (j : Int)), some (.str z), y12, y13] ∧ At B2 (TrW K CT CF CD t pn ns) H') (et_test (ev_op (ev_op (ev_cb (ea_cons (ev_op (ev_var rfl) ev_c (rv_I ⟨by decide, by decide⟩)) ea_nil) rc_int) ev_c (rv_I (by decide))) ev_c rv_eqI)) (fun _ H24 e24 => ⟨z0, hzn0, rfl, at_ex hA e24⟩) (fun _ H24 e24 Dn hDn => ?_) (fun σ' H' ⟨z, hz, hσ, hA⟩ => ?_)
      · refine s_asg (v := .str (("n" : Str) ++ Str.ofString (toString (i : Int)))) (ev_op ev_c (ev_cb (ea_cons (ev_var rfl) ea_nil) (fun H1 e1 Q q => .inl ⟨(i : Int), rfl, ?_, q H1 (Ex.refl H1)⟩)) (fun H1 e1 Q q => ⟨_, _, rfl, rfl, ?_, q H1 (Ex.refl H1)⟩)) fun H25 e25 => hDn _ _ ⟨_, nmN i (by omega), rfl, at_ex hA (e24.trans e25)⟩
        · have : ∀ k : Fin 40, ((k.val : Nat) : Int).natAbs.log2 < 1920 := by decide +kernel
          exact this ⟨i, by omega⟩
        · have := nmS_len (nmN i (by omega))
          rw [Str.length_append] at this
          unfold sizeLine
          omega
      subst hσ
      refine q_whenF (C := fun H1 => ∃ (ns' : List Nd) (B3 : Hp) (m : Nat), (m = i ∧ ns'[j]? = some pj ∨ m = i + 1 ∧ x % 3 ≠ 2) ∧ Ex B2 B3 ∧ At B3 (TrW K CT CF CD t pn ns') H1 ∧ InvT m B3 ns') (fun Q' hQ => go_and (b := decide (x % 3 < 2)) (et_test (ev_op (ev_op (ev_cb (ea_cons (ev_var rfl) ea_nil) rc_int) ev_c (rv_I (by decide))) ev_c rv_I0)) (fun _ H25 e25 => hQ _ ⟨ns, B2, i, .inl ⟨rfl, hpj⟩, Ex.refl _, at_ex hA e25, I⟩) (fun hb H25 e25 => ?_)) (fun H26 ⟨ns', B3, m, hm, b3, hA, I'⟩ => ?_)
      · have hlt := of_decide_eq_true hb
        exact go_nt (go_tB (go_call (go_cons (ev_var rfl) fun H26 e26 => go_cons (ev_var rfl) fun H27 e27 => go_cons (ev_var rfl) fun H28 e28 => go_cons (ev_var rfl) fun H29 e29 => go_cons (ev_var rfl) fun H30 e30 => go_nil ⟨t, pn, j, z, y, pj, ns, i, B2, [], rfl, at_ex hA (e25.trans (e26.trans (e27.trans (e28.trans (e29.trans e30))))), I, by omega, hpj, hz, fun ns' B3 H31 b3 I' hA => ⟨true, rfl, hQ _ ⟨ns', B3, i + 1, .inr ⟨rfl, by omega⟩, b3, hA, I'⟩⟩⟩)))
      · obtain ⟨r1, hr1, _, hpos'⟩ := I'.pos
        have hlen' := I'.len
        have hmi : m ≤ i + 1 := by rcases hm with ⟨h, _⟩ | ⟨h, _⟩ <;> omega
        have hrl' : (roL ns').length = ns'.length := List.length_map _
        obtain ⟨nu, hnu1, hnu2⟩ := modN (y := y) hpos'
        obtain ⟨nn1, hnn1⟩ : ∃ n, ns'[nu]? = some n := ⟨_, List.getElem?_eq_getElem hnu2⟩
        refine qe_asg (x := .int (nu : Int)) hA (ev_is (ev_op (ev_cb (ea_cons (ev_var rfl) ea_nil) rc_int) (ev_is (ev_cb (ea_cons (ev_var rfl) ea_nil) (rc_len (sq_of (at_get (a := pn) 1 rfl hA)))) (by rw [hrl'])) (rv_I (by omega))) (by rw [hnu1])) fun H27 hA => ?_
        refine q_whenF (C := fun H1 => ∃ (ns2 : List Nd) (B4 : Hp), nu < ns2.length ∧ Ex B3 B4 ∧ At B4 (TrW K CT CF CD t pn ns2) H1 ∧ InvT (i + 1) B4 ns2) (fun Q' hQ => go_and (b := decide (x % 3 = 2)) (et_test (ev_op (ev_op (ev_cb (ea_cons (ev_var rfl) ea_nil) rc_int) ev_c (rv_I (by decide))) ev_c rv_eqI)) (fun _ H28 e28 => hQ _ ⟨ns', B3, hnu2, Ex.refl _, at_ex hA e28, I'.mono hmi (Ex.refl _)⟩) (fun hb H28 e28 => ?_)) (fun H29 ⟨ns2, B4, hnu3, b4, hA, I2⟩ => ?_)
        · have heq := of_decide_eq_true hb
          rcases hm with ⟨rfl, hpj'⟩ | ⟨_, hne⟩
          · exact go_nt (go_tB (go_call (go_cons (ev_var rfl) fun H29 e29 => go_cons (ev_var rfl) fun H30 e30 => go_cons (ev_var rfl) fun H31 e31 => go_cons (ev_var rfl) fun H32 e32 => go_cons (ev_var rfl) fun H33 e33 => go_nil ⟨t, pn, nu, j, z, nn1, pj, ns', m, B3, [], rfl, at_ex hA (e28.trans (e29.trans (e30.trans (e31.trans (e32.trans e33))))), I', by omega, hnn1, hpj', hz, fun ns2 B4 H34 b4 hl2 I2 hA => ⟨true, rfl, hQ _ ⟨ns2, B4, by omega, b4, hA, I2⟩⟩⟩)))
          · exact absurd heq hne
        · obtain ⟨n2, hn2⟩ : ∃ n, ns2[nu]? = some n := ⟨_, List.getElem?_eq_getElem hnu3⟩
          obtain ⟨z2, hz2, hzn2⟩ := pickN n6 nn (y / 64)
          refine s_whenF (C := fun H1 => ∃ B5, Ex B4 B5 ∧ At B5 (TrW K CT CF CD t pn ns2) H1) (fun Q' hQ => ?_) (fun H30 ⟨B5, b5, hA⟩ => ⟨ns2, B5, _, _, _, _, _, _, _, _, rfl, b2.trans (b3.trans (b4.trans b5)), hA, I2.mono (Nat.le_refl _) b5⟩)
          have hn4 : ∀ {H'}, Ex H29 H' → SqL K H' nl (nms.map V.str) := fun e => sq_of (e _ _ (hnB (b2.trans (b3.trans b4)) hA))
          exact go_nt (go_tB (go_call (go_cons (ev_var rfl) fun H30 e30 => go_cons (ev_var rfl) fun H31 e31 => go_cons (ev_var rfl) fun H32 e32 => go_cons (ev_op (ev_var rfl) (ev_op (ev_cb (ea_cons (ev_op (ev_var rfl) ev_c (rv_I ⟨by decide, by decide⟩)) ea_nil) rc_int) ev_c (rv_I (by decide))) (rv_ixL (hn4 (e30.trans (e31.trans e32))) hz2)) fun H33 e33 => go_nil ⟨t, pn, nu, z2, n2, ns2, i + 1, B4, [], rfl, at_ex hA (e30.trans (e31.trans (e32.trans e33))), I2, by omega, hn2, hzn2, fun B5 H34 b5 hA => ⟨true, rfl, hQ _ ⟨B5, b5, hA⟩⟩⟩)))
    · obtain ⟨ns, B2, y5, y6, y7, y8, y10, y11, y12, y13, rfl, b2, hA, I⟩ := pp
      have hlen := I.len
      have hrl : (roL ns).length = ns.length := List.length_map _
      have hlenE : ∀ {σ : L2.St} {B' H' : Hp}, σ[4]? = some (some (.ref pn)) → At B' (TrW K CT CF CD t pn ns) H' → Ev (tCB (fun xs H Q => ∃ p ys, xs = [V.ref p] ∧ (SqL K H p ys ∨ SqT K H p ys) ∧ Q (V.int ys.length) H) (tCons (tVar 4) tNil)) σ H' (.int (ns.length : Int)) := fun h4 hA => ev_is (ev_cb (ea_cons (ev_var h4) ea_nil) (rc_len (sq_of (at_get (a := pn) 1 rfl hA)))) (by rw [hrl])
      have hz : ∃ z, nms[0]? = some z ∧ nmS z = true := ⟨nms[0]'(by omega), List.getElem?_eq_getElem (by omega), nn _ (List.getElem_mem _)⟩
      obtain ⟨z, hz0, hzn⟩ := hz
      refine q_forR1 (n := (ns.length : Int)) (ea_cons (hlenE rfl hA) ea_nil) (by omega) (fun i σ' H' => ∃ (B' : Hp) (y12 : Option V), σ' = [some (.ref a), some (.ref b), some (.ref nl), some (.ref t), some (.ref pn), y5, y6, y7, y8, none, y10, y11, y12, y13] ∧ Ex B2 B' ∧ At B' (TrW K CT CF CD t pn ns) H') (fun H18 e18 => ⟨B2, _, rfl, Ex.refl _, at_ex hA e18⟩) (fun i σ' H' hi pp => ?_) (fun σ' H' pp => ?_)
      · obtain ⟨B3, y12, rfl, b3, hA⟩ := pp
        obtain ⟨n2, hn2⟩ : ∃ n, ns[i]? = some n := ⟨_, List.getElem?_eq_getElem (by omega)⟩
        refine s_whenF (C := fun H1 => ∃ B4, Ex B3 B4 ∧ At B4 (TrW K CT CF CD t pn ns) H1) (fun Q' hQ => ?_) (fun H30 ⟨B4, b4, hA⟩ => ⟨B4, _, rfl, b3.trans b4, hA⟩)
        have hn4 : ∀ {H''}, Ex H' H'' → SqL K H'' nl (nms.map V.str) := fun e => sq_of (e _ _ (at_base hA _ _ ((b2.trans b3) _ _ hnl)))
        exact go_nt (go_tB (go_call (go_cons (ev_var rfl) fun H30 e30 => go_cons (ev_var rfl) fun H31 e31 => go_cons (ev_var rfl) fun H32 e32 => go_cons (ev_op (ev_var rfl) ev_c (rv_ixL (hn4 (e30.trans (e31.trans e32))) (atI_nat (j := 0) (by rw [List.getElem?_map, hz0]; rfl)))) fun H33 e33 => go_nil ⟨t, pn, i, z, n2, ns, 40, B3, [], rfl, at_ex hA (e30.trans (e31.trans (e32.trans e33))), I.mono (Nat.le_refl _) b3, by omega, hn2, hzn, fun B4 H34 b4 hA => ⟨true, rfl, hQ _ ⟨B4, b4, hA⟩⟩⟩)))
      · obtain ⟨B3, y12, rfl, b3, hA⟩ := pp
        have hdr : H' b = some (.lst (ds.map V.int)) := at_base hA _ _ ((b2.trans b3) _ _ hb4)
        have p18 : ∀ {σ : L2.St} {H : Hp}, Ev (tOp (rI CPow fun i j => .int (i ^ j.toNat)) (tC (.int 10)) (tC (.int 18))) σ H (.int 1000000000000000000) := by
          intro σ H
          refine' ev_is ?c ?d
          case c => walk_at "ev"
          case d => rfl
        obtain ⟨r0', _, _, hpos⟩ := I.pos
        refine qe_asg (x := .int ((ns.length : Int) + drw ds 7 % 1000000000000000000)) hA (ev_op (hlenE rfl hA) (ev_op (ev_cb (ea_cons (ev_call (ea_cons (ev_var rfl) (ea_cons ev_c ea_nil)) (spDraw_v (sq_of hdr) rfl)) ea_nil) rc_int) p18 (rv_I (by decide))) rv_I0) fun H19 hA => ?_
        have hod0 : 0 ≤ drw ds 7 % 1000000000000000000 := Int.emod_nonneg _ (by decide)
        generalize drw ds 7 % 1000000000000000000 = od at *
        refine q_forNLn (xs := [.int (-1), .int (ns.length : Int), .int ((ns.length : Int) + od), .int (-((ns.length : Int) + od))]) (el_lst (ea_cons (ev_un ev_c ru_neg) (ea_cons (hlenE rfl hA) (ea_cons (ev_var rfl) (ea_cons (ev_un (ev_var rfl) ru_neg) ea_nil)))) (by show 4 ≤ 100000; decide)) (fun p i σ' H' => ∃ y12 : Option V, σ' = [some (.ref a), some (.ref b), some (.ref nl), some (.ref t), some (.ref pn), y5, y6, y7, y8, none, y10, y11, y12, some (.int ((ns.length : Int) + od))] ∧ At B3 (TrW K CT CF CD t pn ns) H' ∧ H' p = some (.lst [.int (-1), .int (ns.length : Int), .int ((ns.length : Int) + od), .int (-((ns.length : Int) + od))])) (fun p H20 _ e20 hp => ⟨_, rfl, at_ex hA e20, hp⟩) (fun p i σ' H' _ hp => sq_of hp.choose_spec.2.2) (fun p i v σ' H' hv pp => ?_) (fun p σ' H' pp => ?_)
        · obtain ⟨y12, rfl, hA, hp⟩ := pp
          obtain ⟨u, hu, hr⟩ : ∃ u : Int, v = .int u ∧ (u < 0 ∨ (ns.length : Int) ≤ u) := by
            match i, hv with
            | 0, hv => cases hv; exact ⟨_, rfl, by omega⟩
            | 1, hv => cases hv; exact ⟨_, rfl, by omega⟩
            | 2, hv => cases hv; exact ⟨_, rfl, by omega⟩
            | 3, hv => cases hv; exact ⟨_, rfl, by omega⟩
            | n + 4, hv => cases hv
          subst hu
          refine s_when (b := false) (et_is (et_not (et_B (ev_call (ea_cons (ev_var rfl) (ea_cons (ev_var rfl) ea_nil)) (show SpV (spLUn K CT CF CD) [.ref t, .int u] _ (.bl true) from fun H1 e Q q _ => ⟨t, u, ns, B3, _, rfl, at_ex hA e, hr, q⟩)))) rfl) (fun hb => nomatch hb) (fun _ H21 e21 => ⟨_, rfl, at_ex hA e21, e21 _ _ hp⟩)
        · obtain ⟨y12, rfl, hA, hp⟩ := pp
          exact s_ret (ev_call (ea_cons (ev_lenTr (K := K) hA (ev_var rfl) (by omega)) (ea_cons (hlenE rfl hA) ea_nil)) spSm_int) (fun H22 e22 => q H22)
theorem df27_mk {h : Heap} {CF CD : Addr} (X : K.In h) (LF : Kl K mg "File" CF) (LD : Kl K mg "Directory" CD) (f1 : PySem.W.hasDictIn K CF = true) (f2 : PySem.W.typeIn K (.ref CF) = some (.type "type")) (f3 : PySem.W.subIn K (.ref CF) (.ref CF) = some true) (f4 : PySem.W.subIn K (.ref CD) (.ref CF) = some false)
    (d1 : PySem.W.hasDictIn K CD = true) (d2 : PySem.W.typeIn K (.ref CD) = some (.type "type")) (d3 : PySem.W.subIn K (.ref CD) (.ref CD) = some true) (d4 : PySem.W.subIn K (.ref CF) (.ref CD) = some false) (n1 : false = false → ((Value.ref CD) == Value.ref CF) = false) (n2 : false = false → ((Value.ref CF) == Value.ref CD) = false)
    (a1 : PySem.W.findIn K (.ref CF) "__class__" = some (some (.builtin "object.__class__"))) (a2 : PySem.W.findIn K (.ref CD) "__class__" = some (some (.builtin "object.__class__"))) (hn : PySem.W.specialIn K (.builtin "object.__class__") "__get__" = some (some (.builtin "getset_descriptor.__get__"))) (htk : PySem.W.takesIn K (.builtin "object.__class__") = some true)
    (m1 : PySem.W.mroIn K CF (.type "object") = some true) (m2 : PySem.W.mroIn K CD (.type "object") = some true) : DF27 K mg :=
  ⟨CD, CF, LD.g, LF.g, ⟨LF.cl, a1, hn, htk, m1, kit_ownB f1 f2 f3 (fun h => nomatch h)⟩, ⟨LD.cl, a2, hn, htk, m2, kit_ownB d1 d2 d3 (fun h => nomatch h)⟩, kit_ownB f1 f2 f4 n1, kit_ownB d1 d2 d4 n2⟩
theorem kit_ownBX {K : PySem.W.Frag} {h : Heap} {t : Value} {B : Addr} {b : Bool} (X : K.In h) (hd : PySem.W.hasDictIn K B = true) (ht : PySem.W.typeIn K (.ref B) = some (.type "type")) (hs : PySem.W.subIn K t (.ref B) = some b) (hne : b = false → (t == Value.ref B) = false) : PySem.W.kitOne K t (.ref B) = some b := kit_ownB hd ht hs hne
theorem exm_ownX {K : PySem.W.Frag} {h : Heap} {cls : Value} {C : Addr} {b : Bool} (X : K.In h) (h1 : PySem.W.subIn K (.ref C) (.type "BaseException") = some true) (hd : PySem.W.hasDictIn K C = true) (ht : PySem.W.typeIn K (.ref C) = some (.type "type")) (h4 : PySem.W.subIn K cls (.ref C) = some b) : PySem.W.exmOne K cls (.ref C) = some b := PySem.W.exm_ref h1 hd ht h4
theorem ok_law {CF CD CT f f__children f__law_stream f__law_draw f__law_good f__law_name f__law_near f__law_names f__law_text f__law_same f__law_at f__law_inside f__law_attach f__law_move f__law_numbers f__law_node_is f__law_unknown f_File___init__ f_File_pieces f_File_length f_File_add_piece f_Directory___init__ f_Directory_limit f_Directory_set_limit f_Directory_child f_Directory_put f_Directory_names f_Directory_take f_Tree___init__ f_Tree___len__ f_Tree_node f_Tree__enter f_Tree_attach f_Tree_move_node f_Tree_look_up f_Tree_names_of f_Tree_above f_Tree_size_of f_Tree_height_of C_BadPath B_BadPath C_Unknown B_Unknown : Addr} {fd fd_File___init__ fd_File_pieces fd_File_length fd_File_add_piece fd_Directory___init__ fd_Directory_limit fd_Directory_set_limit fd_Directory_child fd_Directory_put fd_Directory_names fd_Directory_take fd__children fd_Tree___init__ fd_Tree___len__ fd_Tree_node fd_Tree__enter fd_Tree_attach fd_Tree_move_node fd_Tree_look_up fd_Tree_names_of fd_Tree_above fd_Tree_size_of fd_Tree_height_of fd__law_stream fd__law_draw fd__law_good fd__law_name fd__law_near fd__law_names fd__law_text fd__law_same fd__law_at fd__law_inside fd__law_attach fd__law_move fd__law_numbers fd__law_node_is fd__law_unknown : FuncData} {t__ROOT : Tok} (F : Fun K "law" "law" s_law f fd)
    (D__children : Df K mg "_children" s__children ["directory"] f__children fd__children)
    (D__law_stream : Df K mg "_law_stream" s__law_stream ["script", "many"] f__law_stream fd__law_stream)
    (D__law_draw : Df K mg "_law_draw" s__law_draw ["draws", "k"] f__law_draw fd__law_draw)
    (D__law_good : Df K mg "_law_good" s__law_good ["name"] f__law_good fd__law_good)
    (D__law_name : Df K mg "_law_name" s__law_name ["draw"] f__law_name fd__law_name)
    (D__law_near : Df K mg "_law_near" s__law_near ["name", "draw"] f__law_near fd__law_near)
    (D__law_names : Df K mg "_law_names" s__law_names ["draws", "at"] f__law_names fd__law_names)
    (D__law_text : Df K mg "_law_text" s__law_text ["draw"] f__law_text fd__law_text)
    (D__law_same : Df K mg "_law_same" s__law_same ["actual", "due"] f__law_same fd__law_same)
    (D__law_at : Df K mg "_law_at" s__law_at ["nodes", "path"] f__law_at fd__law_at)
    (D__law_inside : Df K mg "_law_inside" s__law_inside ["path", "top"] f__law_inside fd__law_inside)
    (D__law_attach : Df K mg "_law_attach" s__law_attach ["tree", "nodes", "at", "name", "draw"] f__law_attach fd__law_attach)
    (D__law_move : Df K mg "_law_move" s__law_move ["tree", "nodes", "number", "at", "name"] f__law_move fd__law_move)
    (D__law_numbers : Df K mg "_law_numbers" s__law_numbers ["actual", "due"] f__law_numbers fd__law_numbers)
    (D__law_node_is : Df K mg "_law_node_is" s__law_node_is ["tree", "nodes", "number", "name"] f__law_node_is fd__law_node_is)
    (D__law_unknown : Df K mg "_law_unknown" s__law_unknown ["tree", "number"] f__law_unknown fd__law_unknown)
    (D_File___init__ : Dm K CF "__init__" "File.__init__" s_File___init__ ["self"] f_File___init__ fd_File___init__)
    (D_File_pieces : Pr K CF "pieces" "File.pieces" s_File_pieces f_File_pieces fd_File_pieces)
    (D_File_length : Pr K CF "length" "File.length" s_File_length f_File_length fd_File_length)
    (D_File_add_piece : Dm K CF "add_piece" "File.add_piece" s_File_add_piece ["self", "piece"] f_File_add_piece fd_File_add_piece)
    (D_Directory___init__ : Dm K CD "__init__" "Directory.__init__" s_Directory___init__ ["self"] f_Directory___init__ fd_Directory___init__)
    (D_Directory_limit : Pr K CD "limit" "Directory.limit" s_Directory_limit f_Directory_limit fd_Directory_limit)
    (D_Directory_set_limit : Dm K CD "set_limit" "Directory.set_limit" s_Directory_set_limit ["self", "most"] f_Directory_set_limit fd_Directory_set_limit)
    (D_Directory_child : Dm K CD "child" "Directory.child" s_Directory_child ["self", "name"] f_Directory_child fd_Directory_child)
    (D_Directory_put : Dm K CD "put" "Directory.put" s_Directory_put ["self", "name", "number"] f_Directory_put fd_Directory_put)
    (D_Directory_names : Dm K CD "names" "Directory.names" s_Directory_names ["self"] f_Directory_names fd_Directory_names)
    (D_Directory_take : Dm K CD "take" "Directory.take" s_Directory_take ["self", "name"] f_Directory_take fd_Directory_take)
    (D_Tree___init__ : Dm K CT "__init__" "Tree.__init__" s_Tree___init__ ["self"] f_Tree___init__ fd_Tree___init__)
    (D_Tree___len__ : Dm K CT "__len__" "Tree.__len__" s_Tree___len__ ["self"] f_Tree___len__ fd_Tree___len__)
    (D_Tree_node : Dm K CT "node" "Tree.node" s_Tree_node ["self", "number"] f_Tree_node fd_Tree_node)
    (D_Tree__enter : Dm K CT "_enter" "Tree._enter" s_Tree__enter ["self", "number", "parent", "name"] f_Tree__enter fd_Tree__enter)
    (D_Tree_attach : Dm K CT "attach" "Tree.attach" s_Tree_attach ["self", "parent", "name", "node"] f_Tree_attach fd_Tree_attach)
    (D_Tree_move_node : Dm K CT "move_node" "Tree.move_node" s_Tree_move_node ["self", "number", "parent", "name"] f_Tree_move_node fd_Tree_move_node)
    (D_Tree_look_up : Dm K CT "look_up" "Tree.look_up" s_Tree_look_up ["self", "names"] f_Tree_look_up fd_Tree_look_up)
    (D_Tree_names_of : Dm K CT "names_of" "Tree.names_of" s_Tree_names_of ["self", "number"] f_Tree_names_of fd_Tree_names_of)
    (D_Tree_above : Dm K CT "above" "Tree.above" s_Tree_above ["self", "number"] f_Tree_above fd_Tree_above)
    (D_Tree_size_of : Dm K CT "size_of" "Tree.size_of" s_Tree_size_of ["self", "number"] f_Tree_size_of fd_Tree_size_of)
    (D_Tree_height_of : Dm K CT "height_of" "Tree.height_of" s_Tree_height_of ["self", "number"] f_Tree_height_of fd_Tree_height_of)
    (c__ROOT : mg "_ROOT" = some (.int 0 t__ROOT))
    (E_BadPath : Err K mg "BadPath" C_BadPath B_BadPath) (E_Unknown : Err K mg "Unknown" C_Unknown B_Unknown)
    (h_U : mg "HallError" = some (.ref B_Unknown)) (M_U : PySem.W.exmOne K (.ref C_Unknown) (.ref B_Unknown) = some true) (K_U : PySem.W.kitOne K (.ref C_Unknown) (.ref C_Unknown) = some true) (N_U : PySem.W.kitOne K (.ref C_Unknown) (.ref C_BadPath) = some false) (DF : DF27 K mg)
    (L_File : Kl K mg "File" CF) (LC_File : FlC K CF) (L_Directory : Kl K mg "Directory" CD) (LC_Directory : DrC K CD) (L_Tree : Kl K mg "Tree" CT) (LC_Tree : TrC K CT) (T : Glo mg) : FnOk P w K mg base CX0 20 f fd ["script"] (spLaw K) := by
  have G_File___init__ : FnOk P w K mg base CX0 1 f_File___init__ fd_File___init__ _ _ := ok_finit D_File___init__.F LC_File T
  have G_File_pieces : FnOk P w K mg base CX0 1 f_File_pieces fd_File_pieces _ _ := ok_fpieces D_File_pieces.F LC_File T
  have G_File_length : FnOk P w K mg base CX0 1 f_File_length fd_File_length _ _ := ok_flength D_File_length.F LC_File T
  have G_File_add_piece : FnOk P w K mg base CX0 1 f_File_add_piece fd_File_add_piece _ _ := ok_fadd D_File_add_piece.F LC_File T
  have G_Directory___init__ : FnOk P w K mg base CX0 1 f_Directory___init__ fd_Directory___init__ _ _ := ok_drinit D_Directory___init__.F LC_Directory T
  have G_Directory_limit : FnOk P w K mg base CX0 1 f_Directory_limit fd_Directory_limit _ _ := ok_drlimit D_Directory_limit.F LC_Directory T
  have G_Directory_set_limit : FnOk P w K mg base CX0 1 f_Directory_set_limit fd_Directory_set_limit _ _ := ok_drset D_Directory_set_limit.F LC_Directory T
  have G_Directory_child : FnOk P w K mg base CX0 1 f_Directory_child fd_Directory_child _ _ := ok_drchild D_Directory_child.F LC_Directory T
  have G_Directory_put : FnOk P w K mg base CX0 1 f_Directory_put fd_Directory_put _ _ := ok_drput D_Directory_put.F LC_Directory T
  have G_Directory_names : FnOk P w K mg base CX0 1 f_Directory_names fd_Directory_names _ _ := ok_drnamesX D_Directory_names.F LC_Directory T
  have G_Directory_take : FnOk P w K mg base (L2.CX P w) 1 f_Directory_take fd_Directory_take _ _ := ok_drtake D_Directory_take.F LC_Directory E_Unknown T
  have G__children : FnOk P w K mg base CX0 2 f__children fd__children _ _ := ok_children D__children.F D_Directory_names G_Directory_names D_Directory_child G_Directory_child L_Directory T
  have G_Tree___init__ : FnOk P w K mg base CX0 3 f_Tree___init__ fd_Tree___init__ _ _ := ok_trinit (CF := CF) (CD := CD) D_Tree___init__.F D_Directory___init__ G_Directory___init__ L_Directory LC_Tree T
  have G_Tree___len__ : FnOk P w K mg base CX0 1 f_Tree___len__ fd_Tree___len__ _ _ := ok_trlen (CF := CF) (CD := CD) D_Tree___len__.F LC_Tree T
  have G_Tree_node : FnOk P w K mg base (L2.CX P w) 1 f_Tree_node fd_Tree_node _ _ := ok_trnode (CF := CF) (CD := CD) D_Tree_node.F E_Unknown LC_Tree T
  have G_Tree__enter : FnOk P w K mg base CX0 2 f_Tree__enter fd_Tree__enter _ _ := ok_trenter (CF := CF) (CD := CD) D_Tree__enter.F D_Directory_put G_Directory_put L_Directory LC_Tree T
  have G_Tree_attach : FnOk P w K mg base CX0 3 f_Tree_attach fd_Tree_attach _ _ := ok_trattach (CF := CF) (CD := CD) D_Tree_attach.F D_Tree__enter G_Tree__enter L_Tree LC_Tree T
  have G_Tree_move_node : FnOk P w K mg base CX0 3 f_Tree_move_node fd_Tree_move_node _ _ := ok_trmove (CF := CF) (CD := CD) D_Tree_move_node.F D_Tree__enter G_Tree__enter D_Directory_take G_Directory_take L_Tree L_Directory LC_Tree T
  have G_Tree_look_up : FnOk P w K mg base CX0 2 f_Tree_look_up fd_Tree_look_up _ _ := ok_trlook (CF := CF) (CD := CD) D_Tree_look_up.F D_Directory_child G_Directory_child L_Directory L_File DF c__ROOT LC_Tree T
  have G_Tree_names_of : FnOk P w K mg base CX0 1 f_Tree_names_of fd_Tree_names_of _ _ := ok_trnames (CF := CF) (CD := CD) D_Tree_names_of.F c__ROOT LC_Tree T
  have G_Tree_above : FnOk P w K mg base CX0 1 f_Tree_above fd_Tree_above _ _ := ok_trabove (CF := CF) (CD := CD) D_Tree_above.F c__ROOT LC_Tree T
  have G_Tree_size_of : FnOk P w K mg base CX0 9 f_Tree_size_of fd_Tree_size_of _ _ := ok_trsize (CF := CF) (CD := CD) D_Tree_size_of D_File_length G_File_length D__children G__children L_Directory L_File L_Tree DF LC_Tree T 6
  have G_Tree_height_of : FnOk P w K mg base CX0 9 f_Tree_height_of fd_Tree_height_of _ _ := ok_trheight (CF := CF) (CD := CD) D_Tree_height_of D__children G__children L_Directory L_File L_Tree DF LC_Tree T 6
  have G__law_stream : FnOk P w K mg base CX0 1 f__law_stream fd__law_stream _ _ := ok_streamW (k := 0) D__law_stream.F T
  have G__law_draw : FnOk P w K mg base CX0 1 f__law_draw fd__law_draw _ _ := ok_draw (k := 0) D__law_draw.F T
  have G__law_good : FnOk P w K mg base CX0 1 f__law_good fd__law_good _ _ := ok_good (k := 0) D__law_good.F T
  have G__law_name : FnOk P w K mg base CX0 2 f__law_name fd__law_name _ _ := ok_name D__law_name.F D__law_good G__law_good T
  have G__law_near : FnOk P w K mg base CX0 2 f__law_near fd__law_near _ _ := ok_near D__law_near.F D__law_good G__law_good T
  have G__law_names : FnOk P w K mg base CX0 3 f__law_names fd__law_names _ _ := ok_names D__law_names.F D__law_name G__law_name D__law_near G__law_near D__law_draw G__law_draw T
  have G__law_text : FnOk P w K mg base CX0 2 f__law_text fd__law_text _ _ := ok_ltext D__law_text.F T
  have G__law_same : FnOk P w K mg base CX0 4 f__law_same fd__law_same _ _ := ok_same26 D__law_same T 3
  have G__law_at : FnOk P w K mg base CX0 1 f__law_at fd__law_at _ _ := ok_lat D__law_at.F T
  have G__law_inside : FnOk P w K mg base CX0 1 f__law_inside fd__law_inside _ _ := ok_linside D__law_inside.F T
  have G__law_attach : FnOk P w K mg base CX0 5 f__law_attach fd__law_attach _ _ := ok_lattach D__law_attach.F D__law_at G__law_at D_Directory___init__ G_Directory___init__ D__law_same G__law_same D_Tree_attach G_Tree_attach D_Directory_set_limit G_Directory_set_limit D_Tree_node G_Tree_node D_Directory_limit G_Directory_limit D_File___init__ G_File___init__ D__law_text G__law_text D_File_add_piece G_File_add_piece L_Tree L_Directory L_File T
  have G__law_move : FnOk P w K mg base CX0 5 f__law_move fd__law_move _ _ := ok_lmove D__law_move.F D__law_inside G__law_inside D__law_at G__law_at D_Tree_move_node G_Tree_move_node L_Tree T
  have G__law_numbers : FnOk P w K mg base CX0 5 f__law_numbers fd__law_numbers _ _ := ok_lnumbers D__law_numbers.F D__law_same G__law_same T
  have G__law_node_is : FnOk P w K mg base CX0 10 f__law_node_is fd__law_node_is _ _ := ok_lnodeis D__law_node_is.F D__law_same G__law_same D__law_at G__law_at D__law_inside G__law_inside D__law_numbers G__law_numbers D_Tree_look_up G_Tree_look_up D_Tree_names_of G_Tree_names_of D_Tree_above G_Tree_above D_Tree_size_of G_Tree_size_of D_Tree_height_of G_Tree_height_of D_Tree_node G_Tree_node L_Tree L_Directory L_File DF T
  have G__law_unknown : FnOk P w K mg base CX0 3 f__law_unknown fd__law_unknown _ _ := ok_lunknown D__law_unknown.F D_Tree_node G_Tree_node L_Tree E_Unknown h_U E_BadPath.g M_U K_U N_U T
  exact ok_lawG F D__law_stream G__law_stream D__law_draw G__law_draw D__law_names G__law_names D__law_same G__law_same D__law_attach G__law_attach D__law_move G__law_move D__law_node_is G__law_node_is D__law_unknown G__law_unknown D_Tree___init__ G_Tree___init__ D_Tree___len__ G_Tree___len__ L_Tree T
end
end Ap
open PySem PySem.W PyProof.Rows
local macro_rules | `(tactic| k_head) => `(tactic| k_headL)
set_option maxHeartbeats 0 in
open_top Ap.head for PySem.Challenge.rw_appendhall_k27_tree_of_nodes
set_option maxHeartbeats 0 in
theorem PySem.Challenge.cw_appendhall_k27_tree_of_nodes_holds : PySem.Challenge.rw_appendhall_k27_tree_of_nodes.Holds := by
  refine Ap.head ?_
  k_fill
  refine Ap.walk_ofX (l := PySem.Challenge.rw_appendhall_k27_tree_of_nodes) (n := 63) (k := 20) (x := "script") (CX := fun _ => L2.CX0) (sp := fun w => Ap.spLaw _) rfl (by decide) rfl ⟨rfl, by decide, by decide⟩ (fun w h Y => PySem.W.kIn_of Y) ?F (fun _ _ a ns hl _ hS => ⟨a, ns, rfl, hS, hl, fun _ => rfl⟩) (fun _ _ _ _ _ h => h)
  case F =>
    intro w mg fa h KX G XG hmg
    obtain ⟨C_File, L_File, n_File__pieces, n_File__sealed, n_File__length, ⟨f_File_pieces, fd_File_pieces, D_File_pieces⟩, ⟨f_File_length, fd_File_length, D_File_length⟩, ⟨f_File___init__, fd_File___init__, D_File___init__⟩, ⟨f_File_add_piece, fd_File_add_piece, D_File_add_piece⟩⟩ : ∃ C, Ap.Kl _ mg "File" C ∧ L2.NoAttr _ C "_pieces" ∧ L2.NoAttr _ C "_sealed" ∧ L2.NoAttr _ C "_length" ∧ (∃ f fd, Ap.Pr _ C "pieces" "File.pieces" Ap.s_File_pieces f fd) ∧ (∃ f fd, Ap.Pr _ C "length" "File.length" Ap.s_File_length f fd) ∧ (∃ f fd, Ap.Dm _ C "__init__" "File.__init__" Ap.s_File___init__ ["self"] f fd) ∧ (∃ f fd, Ap.Dm _ C "add_piece" "File.add_piece" Ap.s_File_add_piece ["self", "piece"] f fd) := by
      refine' ⟨_, Ap.kl_mk KX G ?aC ?pg ?hd ?po ?sa ?mk ?kp, Ap.na_mk KX ?n__pieces, Ap.na_mk KX ?n__sealed, Ap.na_mk KX ?n__length, Ap.pr_mk KX ?a_pieces ?g_pieces ?t_pieces ?r_pieces ?l_pieces ?c_pieces ?k_pieces ?b_pieces, Ap.pr_mk KX ?a_length ?g_length ?t_length ?r_length ?l_length ?c_length ?k_length ?b_length, Ap.dm_mk KX ?a___init__ ?i___init__ ?l___init__ ?c___init__ ?k___init__ ?b___init__, Ap.dm_mk KX ?a_add_piece ?i_add_piece ?l_add_piece ?c_add_piece ?k_add_piece ?b_add_piece⟩
      (case aC => k_is); (case pg => k_is); (case hd => k_is); (case po => k_is); (case sa => k_is); (case mk => k_is); (case kp => k_is); (case n__pieces => k_is); (case n__sealed => k_is); (case n__length => k_is); (case a_pieces => k_is); (case g_pieces => k_is); (case t_pieces => k_is); (case r_pieces => k_is); (case l_pieces => k_is); (case c_pieces => k_is); (case k_pieces => k_is); (case a_length => k_is); (case g_length => k_is); (case t_length => k_is); (case r_length => k_is); (case l_length => k_is); (case c_length => k_is); (case k_length => k_is); (case a___init__ => k_is); (case i___init__ => k_is); (case l___init__ => k_is); (case c___init__ => k_is); (case k___init__ => k_is); (case a_add_piece => k_is); (case i_add_piece => k_is); (case l_add_piece => k_is); (case c_add_piece => k_is); (case k_add_piece => k_is)
      (case b_pieces => exact fun _ _ _ _ _ _ us hl => match us, hl with | [_], _ => rfl)
      (case b_length => exact fun _ _ _ _ _ _ us hl => match us, hl with | [_], _ => rfl)
      (case b___init__ => exact fun _ _ _ _ _ _ us hl => match us, hl with | [_], _ => rfl)
      (case b_add_piece => exact fun _ _ _ _ _ _ us hl => match us, hl with | [_, _], _ => rfl)
    obtain ⟨C_Directory, L_Directory, n_Directory__entries, n_Directory__limit, ⟨f_Directory_limit, fd_Directory_limit, D_Directory_limit⟩, ⟨f_Directory___init__, fd_Directory___init__, D_Directory___init__⟩, ⟨f_Directory_set_limit, fd_Directory_set_limit, D_Directory_set_limit⟩, ⟨f_Directory_child, fd_Directory_child, D_Directory_child⟩, ⟨f_Directory_put, fd_Directory_put, D_Directory_put⟩, ⟨f_Directory_names, fd_Directory_names, D_Directory_names⟩, ⟨f_Directory_take, fd_Directory_take, D_Directory_take⟩⟩ : ∃ C, Ap.Kl _ mg "Directory" C ∧ L2.NoAttr _ C "_entries" ∧ L2.NoAttr _ C "_limit" ∧ (∃ f fd, Ap.Pr _ C "limit" "Directory.limit" Ap.s_Directory_limit f fd) ∧ (∃ f fd, Ap.Dm _ C "__init__" "Directory.__init__" Ap.s_Directory___init__ ["self"] f fd) ∧ (∃ f fd, Ap.Dm _ C "set_limit" "Directory.set_limit" Ap.s_Directory_set_limit ["self", "most"] f fd) ∧ (∃ f fd, Ap.Dm _ C "child" "Directory.child" Ap.s_Directory_child ["self", "name"] f fd) ∧ (∃ f fd, Ap.Dm _ C "put" "Directory.put" Ap.s_Directory_put ["self", "name", "number"] f fd) ∧ (∃ f fd, Ap.Dm _ C "names" "Directory.names" Ap.s_Directory_names ["self"] f fd) ∧ (∃ f fd, Ap.Dm _ C "take" "Directory.take" Ap.s_Directory_take ["self", "name"] f fd) := by
      refine' ⟨_, Ap.kl_mk KX G ?aC ?pg ?hd ?po ?sa ?mk ?kp, Ap.na_mk KX ?n__entries, Ap.na_mk KX ?n__limit, Ap.pr_mk KX ?a_limit ?g_limit ?t_limit ?r_limit ?l_limit ?c_limit ?k_limit ?b_limit, Ap.dm_mk KX ?a___init__ ?i___init__ ?l___init__ ?c___init__ ?k___init__ ?b___init__, Ap.dm_mk KX ?a_set_limit ?i_set_limit ?l_set_limit ?c_set_limit ?k_set_limit ?b_set_limit, Ap.dm_mk KX ?a_child ?i_child ?l_child ?c_child ?k_child ?b_child, Ap.dm_mk KX ?a_put ?i_put ?l_put ?c_put ?k_put ?b_put, Ap.dm_mk KX ?a_names ?i_names ?l_names ?c_names ?k_names ?b_names, Ap.dm_mk KX ?a_take ?i_take ?l_take ?c_take ?k_take ?b_take⟩
      (case aC => k_is); (case pg => k_is); (case hd => k_is); (case po => k_is); (case sa => k_is); (case mk => k_is); (case kp => k_is); (case n__entries => k_is); (case n__limit => k_is); (case a_limit => k_is); (case g_limit => k_is); (case t_limit => k_is); (case r_limit => k_is); (case l_limit => k_is); (case c_limit => k_is); (case k_limit => k_is); (case a___init__ => k_is); (case i___init__ => k_is); (case l___init__ => k_is); (case c___init__ => k_is); (case k___init__ => k_is); (case a_set_limit => k_is); (case i_set_limit => k_is); (case l_set_limit => k_is); (case c_set_limit => k_is); (case k_set_limit => k_is); (case a_child => k_is); (case i_child => k_is); (case l_child => k_is); (case c_child => k_is); (case k_child => k_is); (case a_put => k_is); (case i_put => k_is); (case l_put => k_is); (case c_put => k_is); (case k_put => k_is); (case a_names => k_is); (case i_names => k_is); (case l_names => k_is); (case c_names => k_is); (case k_names => k_is); (case a_take => k_is); (case i_take => k_is); (case l_take => k_is); (case c_take => k_is); (case k_take => k_is)
      (case b_limit => exact fun _ _ _ _ _ _ us hl => match us, hl with | [_], _ => rfl)
      (case b___init__ => exact fun _ _ _ _ _ _ us hl => match us, hl with | [_], _ => rfl)
      (case b_set_limit => exact fun _ _ _ _ _ _ us hl => match us, hl with | [_, _], _ => rfl)
      (case b_child => exact fun _ _ _ _ _ _ us hl => match us, hl with | [_, _], _ => rfl)
      (case b_put => exact fun _ _ _ _ _ _ us hl => match us, hl with | [_, _, _], _ => rfl)
      (case b_names => exact fun _ _ _ _ _ _ us hl => match us, hl with | [_], _ => rfl)
      (case b_take => exact fun _ _ _ _ _ _ us hl => match us, hl with | [_, _], _ => rfl)
    obtain ⟨C_Tree, L_Tree, n_Tree__nodes, n_Tree__places, ⟨f_Tree___init__, fd_Tree___init__, D_Tree___init__⟩, ⟨f_Tree___len__, fd_Tree___len__, D_Tree___len__⟩, ⟨f_Tree_node, fd_Tree_node, D_Tree_node⟩, ⟨f_Tree__enter, fd_Tree__enter, D_Tree__enter⟩, ⟨f_Tree_attach, fd_Tree_attach, D_Tree_attach⟩, ⟨f_Tree_move_node, fd_Tree_move_node, D_Tree_move_node⟩, ⟨f_Tree_look_up, fd_Tree_look_up, D_Tree_look_up⟩, ⟨f_Tree_names_of, fd_Tree_names_of, D_Tree_names_of⟩, ⟨f_Tree_above, fd_Tree_above, D_Tree_above⟩, ⟨f_Tree_size_of, fd_Tree_size_of, D_Tree_size_of⟩, ⟨f_Tree_height_of, fd_Tree_height_of, D_Tree_height_of⟩⟩ : ∃ C, Ap.Kl _ mg "Tree" C ∧ L2.NoAttr _ C "_nodes" ∧ L2.NoAttr _ C "_places" ∧ (∃ f fd, Ap.Dm _ C "__init__" "Tree.__init__" Ap.s_Tree___init__ ["self"] f fd) ∧ (∃ f fd, Ap.Dm _ C "__len__" "Tree.__len__" Ap.s_Tree___len__ ["self"] f fd) ∧ (∃ f fd, Ap.Dm _ C "node" "Tree.node" Ap.s_Tree_node ["self", "number"] f fd) ∧ (∃ f fd, Ap.Dm _ C "_enter" "Tree._enter" Ap.s_Tree__enter ["self", "number", "parent", "name"] f fd) ∧ (∃ f fd, Ap.Dm _ C "attach" "Tree.attach" Ap.s_Tree_attach ["self", "parent", "name", "node"] f fd) ∧ (∃ f fd, Ap.Dm _ C "move_node" "Tree.move_node" Ap.s_Tree_move_node ["self", "number", "parent", "name"] f fd) ∧ (∃ f fd, Ap.Dm _ C "look_up" "Tree.look_up" Ap.s_Tree_look_up ["self", "names"] f fd) ∧ (∃ f fd, Ap.Dm _ C "names_of" "Tree.names_of" Ap.s_Tree_names_of ["self", "number"] f fd) ∧ (∃ f fd, Ap.Dm _ C "above" "Tree.above" Ap.s_Tree_above ["self", "number"] f fd) ∧ (∃ f fd, Ap.Dm _ C "size_of" "Tree.size_of" Ap.s_Tree_size_of ["self", "number"] f fd) ∧ (∃ f fd, Ap.Dm _ C "height_of" "Tree.height_of" Ap.s_Tree_height_of ["self", "number"] f fd) := by
      refine' ⟨_, Ap.kl_mk KX G ?aC ?pg ?hd ?po ?sa ?mk ?kp, Ap.na_mk KX ?n__nodes, Ap.na_mk KX ?n__places, Ap.dm_mk KX ?a___init__ ?i___init__ ?l___init__ ?c___init__ ?k___init__ ?b___init__, Ap.dm_mk KX ?a___len__ ?i___len__ ?l___len__ ?c___len__ ?k___len__ ?b___len__, Ap.dm_mk KX ?a_node ?i_node ?l_node ?c_node ?k_node ?b_node, Ap.dm_mk KX ?a__enter ?i__enter ?l__enter ?c__enter ?k__enter ?b__enter, Ap.dm_mk KX ?a_attach ?i_attach ?l_attach ?c_attach ?k_attach ?b_attach, Ap.dm_mk KX ?a_move_node ?i_move_node ?l_move_node ?c_move_node ?k_move_node ?b_move_node, Ap.dm_mk KX ?a_look_up ?i_look_up ?l_look_up ?c_look_up ?k_look_up ?b_look_up, Ap.dm_mk KX ?a_names_of ?i_names_of ?l_names_of ?c_names_of ?k_names_of ?b_names_of, Ap.dm_mk KX ?a_above ?i_above ?l_above ?c_above ?k_above ?b_above, Ap.dm_mk KX ?a_size_of ?i_size_of ?l_size_of ?c_size_of ?k_size_of ?b_size_of, Ap.dm_mk KX ?a_height_of ?i_height_of ?l_height_of ?c_height_of ?k_height_of ?b_height_of⟩
      (case aC => k_is); (case pg => k_is); (case hd => k_is); (case po => k_is); (case sa => k_is); (case mk => k_is); (case kp => k_is); (case n__nodes => k_is); (case n__places => k_is); (case a___init__ => k_is); (case i___init__ => k_is); (case l___init__ => k_is); (case c___init__ => k_is); (case k___init__ => k_is); (case a___len__ => k_is); (case i___len__ => k_is); (case l___len__ => k_is); (case c___len__ => k_is); (case k___len__ => k_is); (case a_node => k_is); (case i_node => k_is); (case l_node => k_is); (case c_node => k_is); (case k_node => k_is); (case a__enter => k_is); (case i__enter => k_is); (case l__enter => k_is); (case c__enter => k_is); (case k__enter => k_is); (case a_attach => k_is); (case i_attach => k_is); (case l_attach => k_is); (case c_attach => k_is); (case k_attach => k_is); (case a_move_node => k_is); (case i_move_node => k_is); (case l_move_node => k_is); (case c_move_node => k_is); (case k_move_node => k_is); (case a_look_up => k_is); (case i_look_up => k_is); (case l_look_up => k_is); (case c_look_up => k_is); (case k_look_up => k_is); (case a_names_of => k_is); (case i_names_of => k_is); (case l_names_of => k_is); (case c_names_of => k_is); (case k_names_of => k_is); (case a_above => k_is); (case i_above => k_is); (case l_above => k_is); (case c_above => k_is); (case k_above => k_is); (case a_size_of => k_is); (case i_size_of => k_is); (case l_size_of => k_is); (case c_size_of => k_is); (case k_size_of => k_is); (case a_height_of => k_is); (case i_height_of => k_is); (case l_height_of => k_is); (case c_height_of => k_is); (case k_height_of => k_is)
      (case b___init__ => exact fun _ _ _ _ _ _ us hl => match us, hl with | [_], _ => rfl)
      (case b___len__ => exact fun _ _ _ _ _ _ us hl => match us, hl with | [_], _ => rfl)
      (case b_node => exact fun _ _ _ _ _ _ us hl => match us, hl with | [_, _], _ => rfl)
      (case b__enter => exact fun _ _ _ _ _ _ us hl => match us, hl with | [_, _, _, _], _ => rfl)
      (case b_attach => exact fun _ _ _ _ _ _ us hl => match us, hl with | [_, _, _, _], _ => rfl)
      (case b_move_node => exact fun _ _ _ _ _ _ us hl => match us, hl with | [_, _, _, _], _ => rfl)
      (case b_look_up => exact fun _ _ _ _ _ _ us hl => match us, hl with | [_, _], _ => rfl)
      (case b_names_of => exact fun _ _ _ _ _ _ us hl => match us, hl with | [_, _], _ => rfl)
      (case b_above => exact fun _ _ _ _ _ _ us hl => match us, hl with | [_, _], _ => rfl)
      (case b_size_of => exact fun _ _ _ _ _ _ us hl => match us, hl with | [_, _], _ => rfl)
      (case b_height_of => exact fun _ _ _ _ _ _ us hl => match us, hl with | [_, _], _ => rfl)
    obtain ⟨C_BadPath, B_BadPath, C_Unknown, B_Unknown, E_BadPath, g_BadPath_HallError, E_Unknown, g_Unknown_HallError, N_Unknown_BadPath, K_Unknown, M_Unknown_HallError⟩ : ∃ C_BadPath B_BadPath C_Unknown B_Unknown, Ap.Err _ mg "BadPath" C_BadPath B_BadPath ∧ mg "HallError" = some (.ref B_BadPath) ∧ Ap.Err _ mg "Unknown" C_Unknown B_Unknown ∧ mg "HallError" = some (.ref B_Unknown) ∧ PySem.W.kitOne _ (.ref C_Unknown) (.ref C_BadPath) = some false ∧ PySem.W.kitOne _ (.ref C_Unknown) (.ref C_Unknown) = some true ∧ PySem.W.exmOne _ (.ref C_Unknown) (.ref B_Unknown) = some true := by
      refine' ⟨_, _, _, _, (Ap.err_mk (y := "HallError") KX G ?aC_BadPath ?aB_BadPath ?kp_BadPath ?ex_BadPath ?bs_BadPath ?ty_BadPath ?ss_BadPath ?hg_BadPath ?hk_BadPath ?hd_BadPath ?ha_BadPath ?hn_BadPath ?ht_BadPath ?hm_BadPath ?dB_BadPath ?tB_BadPath ?sb_BadPath ?sv_BadPath).1, (PySem.W.mg_of KX G ?aB2_BadPath), (Ap.err_mk (y := "HallError") KX G ?aC_Unknown ?aB_Unknown ?kp_Unknown ?ex_Unknown ?bs_Unknown ?ty_Unknown ?ss_Unknown ?hg_Unknown ?hk_Unknown ?hd_Unknown ?ha_Unknown ?hn_Unknown ?ht_Unknown ?hm_Unknown ?dB_Unknown ?tB_Unknown ?sb_Unknown ?sv_Unknown).1, (PySem.W.mg_of KX G ?aB2_Unknown), Ap.kit_ownBX KX ?nd_Unknown_BadPath ?nt_Unknown_BadPath ?ns_Unknown_BadPath (fun _ => ?nn_Unknown_BadPath), Ap.kit_ownBX KX ?nd_Unknown ?nt_Unknown ?ns_Unknown (fun h => nomatch h), Ap.exm_ownX KX ?ub_Unknown ?ud_Unknown ?ut_Unknown ?us_Unknown⟩
      (case aC_BadPath => k_is)
      (case aB_BadPath => k_is)
      (case kp_BadPath => k_is)
      (case ex_BadPath => k_exc)
      (case bs_BadPath => k_is)
      (case ty_BadPath => k_is)
      (case ss_BadPath => k_is)
      (case hg_BadPath => k_is)
      (case hk_BadPath => k_is)
      (case hd_BadPath => k_is)
      (case ha_BadPath => k_is)
      (case hn_BadPath => k_is)
      (case ht_BadPath => k_is)
      (case hm_BadPath => k_is)
      (case dB_BadPath => k_is)
      (case tB_BadPath => k_is)
      (case sb_BadPath => k_is)
      (case sv_BadPath => k_is)
      (case aB2_BadPath => k_is)
      (case aC_Unknown => k_is)
      (case aB_Unknown => k_is)
      (case kp_Unknown => k_is)
      (case ex_Unknown => k_exc)
      (case bs_Unknown => k_is)
      (case ty_Unknown => k_is)
      (case ss_Unknown => k_is)
      (case hg_Unknown => k_is)
      (case hk_Unknown => k_is)
      (case hd_Unknown => k_is)
      (case ha_Unknown => k_is)
      (case hn_Unknown => k_is)
      (case ht_Unknown => k_is)
      (case hm_Unknown => k_is)
      (case dB_Unknown => k_is)
      (case tB_Unknown => k_is)
      (case sb_Unknown => k_is)
      (case sv_Unknown => k_is)
      (case aB2_Unknown => k_is)
      (case nd_Unknown_BadPath => k_is)
      (case nt_Unknown_BadPath => k_is)
      (case ns_Unknown_BadPath => k_is)
      (case nn_Unknown_BadPath => rfl)
      (case nd_Unknown => k_is)
      (case nt_Unknown => k_is)
      (case ns_Unknown => k_is)
      (case ub_Unknown => k_is)
      (case ud_Unknown => k_is)
      (case ut_Unknown => k_is)
      (case us_Unknown => k_is)
    obtain ⟨DF, _⟩ : Ap.DF27 _ mg ∧ True := by
      refine' ⟨Ap.df27_mk KX (Ap.kl_mk KX G ?f1 ?f2 ?f3 ?f4 ?f5 ?f6 ?f7) (Ap.kl_mk KX G ?d1 ?d2 ?d3 ?d4 ?d5 ?d6 ?d7) ?x1 ?x2 ?x3 ?x4 ?x5 ?x6 ?x7 ?x8 (fun _ => ?x9) (fun _ => ?xa) ?xb ?xc ?xd ?xe ?xf ?xg, trivial⟩
      (case f1 => k_is); (case f2 => k_is); (case f3 => k_is); (case f4 => k_is); (case f5 => k_is); (case f6 => k_is); (case f7 => k_is)
      (case d1 => k_is); (case d2 => k_is); (case d3 => k_is); (case d4 => k_is); (case d5 => k_is); (case d6 => k_is); (case d7 => k_is)
      (case x1 => k_is); (case x2 => k_is); (case x3 => k_is); (case x4 => k_is); (case x5 => k_is); (case x6 => k_is); (case x7 => k_is); (case x8 => k_is); (case x9 => rfl); (case xa => rfl); (case xb => k_is); (case xc => k_is); (case xd => k_is); (case xe => k_is); (case xf => k_is); (case xg => k_is)
    obtain ⟨t__ROOT, c__ROOT⟩ : ∃ t, mg "_ROOT" = some (.int (0) t) := by
      refine' ⟨_, (PySem.W.mg_of KX G ?c).trans ?e⟩
      (case c => k_is)
      (case e => exact rfl)
    obtain ⟨f__children, fd__children, D__children⟩ : ∃ f fd, Ap.Df _ mg "_children" Ap.s__children ["directory"] f fd := by
      refine' Ap.df_mk KX G ?a ?l ?c ?k ?b
      (case a => k_is); (case l => k_is); (case c => k_is); (case k => k_is); (case b => exact fun _ _ _ _ _ _ us hl => match us, hl with | [_], _ => rfl)
    obtain ⟨f__law_stream, fd__law_stream, D__law_stream⟩ : ∃ f fd, Ap.Df _ mg "_law_stream" Ap.s__law_stream ["script", "many"] f fd := by
      refine' Ap.df_mk KX G ?a ?l ?c ?k ?b
      (case a => k_is); (case l => k_is); (case c => k_is); (case k => k_is); (case b => exact fun _ _ _ _ _ _ us hl => match us, hl with | [_, _], _ => rfl)
    obtain ⟨f__law_draw, fd__law_draw, D__law_draw⟩ : ∃ f fd, Ap.Df _ mg "_law_draw" Ap.s__law_draw ["draws", "k"] f fd := by
      refine' Ap.df_mk KX G ?a ?l ?c ?k ?b
      (case a => k_is); (case l => k_is); (case c => k_is); (case k => k_is); (case b => exact fun _ _ _ _ _ _ us hl => match us, hl with | [_, _], _ => rfl)
    obtain ⟨f__law_good, fd__law_good, D__law_good⟩ : ∃ f fd, Ap.Df _ mg "_law_good" Ap.s__law_good ["name"] f fd := by
      refine' Ap.df_mk KX G ?a ?l ?c ?k ?b
      (case a => k_is); (case l => k_is); (case c => k_is); (case k => k_is); (case b => exact fun _ _ _ _ _ _ us hl => match us, hl with | [_], _ => rfl)
    obtain ⟨f__law_name, fd__law_name, D__law_name⟩ : ∃ f fd, Ap.Df _ mg "_law_name" Ap.s__law_name ["draw"] f fd := by
      refine' Ap.df_mk KX G ?a ?l ?c ?k ?b
      (case a => k_is); (case l => k_is); (case c => k_is); (case k => k_is); (case b => exact fun _ _ _ _ _ _ us hl => match us, hl with | [_], _ => rfl)
    obtain ⟨f__law_near, fd__law_near, D__law_near⟩ : ∃ f fd, Ap.Df _ mg "_law_near" Ap.s__law_near ["name", "draw"] f fd := by
      refine' Ap.df_mk KX G ?a ?l ?c ?k ?b
      (case a => k_is); (case l => k_is); (case c => k_is); (case k => k_is); (case b => exact fun _ _ _ _ _ _ us hl => match us, hl with | [_, _], _ => rfl)
    obtain ⟨f__law_names, fd__law_names, D__law_names⟩ : ∃ f fd, Ap.Df _ mg "_law_names" Ap.s__law_names ["draws", "at"] f fd := by
      refine' Ap.df_mk KX G ?a ?l ?c ?k ?b
      (case a => k_is); (case l => k_is); (case c => k_is); (case k => k_is); (case b => exact fun _ _ _ _ _ _ us hl => match us, hl with | [_, _], _ => rfl)
    obtain ⟨f__law_text, fd__law_text, D__law_text⟩ : ∃ f fd, Ap.Df _ mg "_law_text" Ap.s__law_text ["draw"] f fd := by
      refine' Ap.df_mk KX G ?a ?l ?c ?k ?b
      (case a => k_is); (case l => k_is); (case c => k_is); (case k => k_is); (case b => exact fun _ _ _ _ _ _ us hl => match us, hl with | [_], _ => rfl)
    obtain ⟨f__law_same, fd__law_same, D__law_same⟩ : ∃ f fd, Ap.Df _ mg "_law_same" Ap.s__law_same ["actual", "due"] f fd := by
      refine' Ap.df_mk KX G ?a ?l ?c ?k ?b
      (case a => k_is); (case l => k_is); (case c => k_is); (case k => k_is); (case b => exact fun _ _ _ _ _ _ us hl => match us, hl with | [_, _], _ => rfl)
    obtain ⟨f__law_at, fd__law_at, D__law_at⟩ : ∃ f fd, Ap.Df _ mg "_law_at" Ap.s__law_at ["nodes", "path"] f fd := by
      refine' Ap.df_mk KX G ?a ?l ?c ?k ?b
      (case a => k_is); (case l => k_is); (case c => k_is); (case k => k_is); (case b => exact fun _ _ _ _ _ _ us hl => match us, hl with | [_, _], _ => rfl)
    obtain ⟨f__law_inside, fd__law_inside, D__law_inside⟩ : ∃ f fd, Ap.Df _ mg "_law_inside" Ap.s__law_inside ["path", "top"] f fd := by
      refine' Ap.df_mk KX G ?a ?l ?c ?k ?b
      (case a => k_is); (case l => k_is); (case c => k_is); (case k => k_is); (case b => exact fun _ _ _ _ _ _ us hl => match us, hl with | [_, _], _ => rfl)
    obtain ⟨f__law_attach, fd__law_attach, D__law_attach⟩ : ∃ f fd, Ap.Df _ mg "_law_attach" Ap.s__law_attach ["tree", "nodes", "at", "name", "draw"] f fd := by
      refine' Ap.df_mk KX G ?a ?l ?c ?k ?b
      (case a => k_is); (case l => k_is); (case c => k_is); (case k => k_is); (case b => exact fun _ _ _ _ _ _ us hl => match us, hl with | [_, _, _, _, _], _ => rfl)
    obtain ⟨f__law_move, fd__law_move, D__law_move⟩ : ∃ f fd, Ap.Df _ mg "_law_move" Ap.s__law_move ["tree", "nodes", "number", "at", "name"] f fd := by
      refine' Ap.df_mk KX G ?a ?l ?c ?k ?b
      (case a => k_is); (case l => k_is); (case c => k_is); (case k => k_is); (case b => exact fun _ _ _ _ _ _ us hl => match us, hl with | [_, _, _, _, _], _ => rfl)
    obtain ⟨f__law_numbers, fd__law_numbers, D__law_numbers⟩ : ∃ f fd, Ap.Df _ mg "_law_numbers" Ap.s__law_numbers ["actual", "due"] f fd := by
      refine' Ap.df_mk KX G ?a ?l ?c ?k ?b
      (case a => k_is); (case l => k_is); (case c => k_is); (case k => k_is); (case b => exact fun _ _ _ _ _ _ us hl => match us, hl with | [_, _], _ => rfl)
    obtain ⟨f__law_node_is, fd__law_node_is, D__law_node_is⟩ : ∃ f fd, Ap.Df _ mg "_law_node_is" Ap.s__law_node_is ["tree", "nodes", "number", "name"] f fd := by
      refine' Ap.df_mk KX G ?a ?l ?c ?k ?b
      (case a => k_is); (case l => k_is); (case c => k_is); (case k => k_is); (case b => exact fun _ _ _ _ _ _ us hl => match us, hl with | [_, _, _, _], _ => rfl)
    obtain ⟨f__law_unknown, fd__law_unknown, D__law_unknown⟩ : ∃ f fd, Ap.Df _ mg "_law_unknown" Ap.s__law_unknown ["tree", "number"] f fd := by
      refine' Ap.df_mk KX G ?a ?l ?c ?k ?b
      (case a => k_is); (case l => k_is); (case c => k_is); (case k => k_is); (case b => exact fun _ _ _ _ _ _ us hl => match us, hl with | [_, _], _ => rfl)
    obtain ⟨fd, hb, F⟩ : ∃ fd, (∀ (s : Shared) (v : Value), BindsTo s fd ⟨[v], []⟩ [("script", v)]) ∧ L2.Fun _ "law" "law" Ap.s_law fa fd := by
      refine' Ap.law_mk KX G hmg ?a ?l ?c ?k ?b
      (case a => k_is); (case l => k_is); (case c => k_is); (case k => k_is); (case b => exact fun _ _ _ _ _ _ _ _ => .of_eq rfl)
    refine ⟨fd, hb, fun base _ _ => Ap.ok_law F D__children D__law_stream D__law_draw D__law_good D__law_name D__law_near D__law_names D__law_text D__law_same D__law_at D__law_inside D__law_attach D__law_move D__law_numbers D__law_node_is D__law_unknown D_File___init__ D_File_pieces D_File_length D_File_add_piece D_Directory___init__ D_Directory_limit D_Directory_set_limit D_Directory_child D_Directory_put D_Directory_names D_Directory_take D_Tree___init__ D_Tree___len__ D_Tree_node D_Tree__enter D_Tree_attach D_Tree_move_node D_Tree_look_up D_Tree_names_of D_Tree_above D_Tree_size_of D_Tree_height_of c__ROOT E_BadPath E_Unknown g_Unknown_HallError M_Unknown_HallError K_Unknown N_Unknown_BadPath DF L_File ⟨L_File.cl, n_File__pieces, n_File__sealed, n_File__length⟩ L_Directory ⟨L_Directory.cl, n_Directory__entries, n_Directory__limit⟩ L_Tree ⟨L_Tree.cl, n_Tree__nodes, n_Tree__places⟩ ?T⟩
    refine' ⟨PySem.W.mg_none_of KX G ?z0, PySem.W.mg_none_of KX G ?z1, PySem.W.mg_none_of KX G ?z2, PySem.W.mg_none_of KX G ?z3, PySem.W.mg_none_of KX G ?z4, PySem.W.mg_none_of KX G ?z5, PySem.W.mg_none_of KX G ?z6, PySem.W.mg_none_of KX G ?z7, PySem.W.mg_none_of KX G ?z8, PySem.W.mg_none_of KX G ?z9, PySem.W.mg_none_of KX G ?z10, PySem.W.mg_none_of KX G ?z11, PySem.W.mg_none_of KX G ?z12⟩
    (case z0 => k_is); (case z1 => k_is); (case z2 => k_is); (case z3 => k_is); (case z4 => k_is); (case z5 => k_is); (case z6 => k_is); (case z7 => k_is); (case z8 => k_is); (case z9 => k_is); (case z10 => k_is); (case z11 => k_is); (case z12 => k_is)
#print axioms PySem.Challenge.cw_appendhall_k27_tree_of_nodes_holds
