import PyProof.Rows.All
import Wide.All
import OpenK.AllK
import Wide.FinOn
import HandS.Base
import HandS.Call
import HandS.Ends
import HandS.Words
import HandS.Head0
import HandS.Head1
import HandS.Head2
import HandS.HeadEnd
import HandS.HeadHook1
import HandS.ForMost
import HandS.Evl
import HandS.Walk
import HandS.SortKw
import HandS.DictComp
import HandS.IsInst
import HandS.ForExc
import HandS.TupAny
import HandS.Conv
import HandS.Property
import HandS.ExcIs
import HandS.Deep
import HandS.SetBool
import HandS.SetKeys
import HandS.ClsMeth
import OpenK.KDescr
import HandS.Defaults
import OpenK.KMore
import HandS.Style
import HandS.Lambda
import HandS.TupLe
import HandS.EndTab
import KE.DataMinKey
import PyProof.Walks
import HandS.WordsDict
import KE.DataMinMax
import HandS.Text
import HandS.Wide
import PyProof.StrBlock2
import HandS.HeadWalk
import HandS.More
import PySem.Challenge.RW_appendhall_k23_best_candidate
set_option Elab.async false
set_option linter.all false
set_option maxRecDepth 100000
set_option maxHeartbeats 2000000
namespace Ap
open PySem PySem.Spec PyProof.Rows L2
open He (ga ma eqO eqO_ok ba frG frG_in FnV)
def hf_cdB (K : PySem.W.Frag) (f : Addr) (q : Str) : Bool := match K.lookup f with
  | some ⟨_, _, .func fd, _⟩ => PySem.W.codeIn K fd.code q
  | _ => false
def fnV (K : PySem.W.Frag) (f : Addr) : FnV := match K.lookup f with
  | some ⟨_, _, .func fd, _⟩ => some (fd.name, fd.qualname, fd.params, fd.body, fd.scope, fd.globals, fd.closure, fd.defaults, fd.builtins)
  | _ => none
def fnD (x q : Str) (st : Stmt) : FnV := some (x, q, defArgs st, .stmts (defBody st), defScope st, mainGlobals, [], .none, builtinsNs)
theorem hf_fn_got {K : PySem.W.Frag} {f : Addr} {x q : Str} {st : Stmt} (e : fnV K f = fnD x q st) (c : hf_cdB K f q = true) :
    ∃ oc od osl kV doc pm an cdv ct, K.lookup f = some ⟨oc, od, .func (PySem.W.fnOf x q (defArgs st) (defBody st) (defScope st) .none kV doc pm an cdv ct), osl⟩ ∧ PySem.W.codeIn K cdv q = true := by
  have c2 : (match K.lookup f with
    | some ⟨_, _, .func fd, _⟩ => PySem.W.codeIn K fd.code q
    | _ => false) = true := c
  unfold fnV at e
  cases h : K.lookup f with
  | none =>
    rw [h] at c2
    cases c2
  | some o =>
    obtain ⟨oc, od, dt, osl⟩ := o
    rw [h] at c2 e
    cases dt with
    | func fd =>
      obtain ⟨n1, n2, n3, n4, n5, n6, n7, n8, n9, n10, n11, n12, n13, n14, n15⟩ := fd
      have e2 : (some (n1, n2, n3, n4, n5, n6, n7, n8, n15) : FnV) = some (x, q, defArgs st, .stmts (defBody st), defScope st, mainGlobals, [], .none, builtinsNs) := e
      simp only [Option.some.injEq, Prod.mk.injEq] at e2
      obtain ⟨h1, h2, h3, h4, h5, h6, h7, h8, h9⟩ := e2
      subst h1 h2 h3 h4 h5 h6 h7 h8 h9
      exact ⟨oc, od, osl, n9, n10, n11, n12, n13, n14, rfl, c2⟩
    | _ => cases c2
def bG (K : PySem.W.Frag) (x : Str) : Bool := eqO (PySem.W.nsIn K mainGlobals x) (some (some (.ref (ga K x))))
def bFree (K : PySem.W.Frag) (x : Str) : Bool := eqO (PySem.W.nsIn K mainGlobals x) (some none)
def bDf (K : PySem.W.Frag) (x : Str) : Bool := bG K x && (PySem.W.keepIn K (.ref (ga K x)) && hf_cdB K (ga K x) x)
/-- an own error class x beneath y -/
def bErr (K : PySem.W.Frag) (x y : Str) : Bool := bG K x && (bG K y && (PySem.W.keepIn K (.ref (ga K x)) && (PySem.W.excIn K (ga K x) [.type "ValueError", .type "Exception", .type "BaseException", .type "object"] "ValueError.__new__" &&
  (decide (PySem.W.subIn K (.ref (ga K x)) (.type "BaseException") = some true) && (decide (PySem.W.typeIn K (.ref (ga K x)) = some (.type "type")) && (decide (PySem.W.subIn K (.ref (ga K x)) (.ref (ga K x)) = some true) &&
  (eqO (PySem.W.findIn K (.ref (ga K x)) "__getattribute__") (some (some (.builtin "BaseException.__getattribute__"))) && (eqO (PySem.W.findIn K (.ref (ga K x)) "__getattr__") (some none) && (PySem.W.hasDictIn K (ga K x) &&
  (eqO (PySem.W.findIn K (.ref (ga K x)) "__class__") (some (some (.builtin "object.__class__"))) && (eqO (PySem.W.specialIn K (.builtin "object.__class__") "__get__") (some (some (.builtin "getset_descriptor.__get__"))) &&
  (decide (PySem.W.takesIn K (.builtin "object.__class__") = some true) && (decide (PySem.W.mroIn K (ga K x) (.type "object") = some true) && (PySem.W.hasDictIn K (ga K y) && (decide (PySem.W.typeIn K (.ref (ga K y)) = some (.type "type")) &&
  (decide (PySem.W.subIn K (.ref (ga K x)) (.ref (ga K y)) = some true) && decide (PySem.W.subIn K (.ref (ga K x)) (.type "ValueError") = some true)))))))))))))))))
/-- the Hook: the objects at as, read off the run, say ob -/
def hkF {α : Type} (as : List Addr) (ob : PySem.W.Frag → α) (v : α) : PySem.W.Hook where
  α := α
  obs := fun s => ob (frG s.heap.get? as)
  val := fun _ => v
  says := fun _ h => ∃ K : PySem.W.Frag, K.In h ∧ ob K = v
  of := fun _ _ e => ⟨_, frG_in, e⟩
  keeps := fun _ _ _ ⟨K, hK, c⟩ k => ⟨K, PySem.W.Frag.In.keeps hK k, c⟩
theorem hkF_eq {α : Type} {as : List Addr} {ob : PySem.W.Frag → α} {v : α} (s : PySem.W.SharedT) : ob (frG (HandSHeadRun.getT s) as) = (hkF as ob v).obs s.abs := by
  have e : HandSHeadRun.getT s = s.abs.heap.get? := funext (HandSHeadRun.getT_eq s)
  show ob (frG (HandSHeadRun.getT s) as) = ob (frG s.abs.heap.get? as)
  rw [e]
end Ap
set_option Elab.async false
set_option linter.all false
set_option maxRecDepth 100000
set_option maxHeartbeats 2000000
namespace Ap
open PySem PySem.Spec PyProof.Rows L2
open He (ga)
def dropF (K : PySem.W.Frag) (p : Addr) : PySem.W.Frag := K.filter fun x => x.1 != p
def bTb (K : PySem.W.Frag) (p : Addr) : Bool := match K.lookup p with
  | some ⟨.none, none, .fields us, sl⟩ => us.isEmpty && sl.isEmpty
  | _ => false
def bVals (vs : Array Value) (p : Addr) : Bool := (match (vs[11]? : Option Value) with
  | some (Value.ref a) => a == p
  | _ => false) && ((match vs.getD 18 .none with
  | .str _ _ => true
  | _ => false) && ((match vs.getD 7 .none with
  | .int _ _ => true
  | _ => false) && ((match vs.getD 9 .none with
  | .bool _ => true
  | _ => false) && (match vs.getD 10 .none with
  | .int _ _ => true
  | _ => false))))
def bCo (K : PySem.W.Frag) (c p : Addr) : Bool := match K.lookup c with
  | some ⟨.type T, _, .fields vs, _⟩ => T == "code" && (bVals vs p && c != p)
  | _ => false
def bCd (K : PySem.W.Frag) (x : Str) (p : Addr) : Bool := match K.lookup (ga K x) with
  | some ⟨_, _, .func fd, _⟩ => (match fd.code with
    | .ref c => bCo K c p
    | _ => false)
  | _ => false
end Ap
set_option Elab.async false
set_option linter.all false
set_option maxRecDepth 100000
set_option maxHeartbeats 0
namespace Ap
open PySem PySem.Spec PyProof.Rows L2
open He (ga ma eqO)
def hS (i : Nat) : Stmt := PySem.Challenge.pw_appendhall_k23_best_candidate.main.body.getD i (.Pass ⟨0, 0, 0, 0⟩)
def asL0 : List Addr := [2, 3, 6, 15, 22, 23, 24, 25, 28, 35, 36, 37, 40, 42, 43, 45, 46, 47, 49, 50, 52, 53, 54, 56, 57, 59, 60, 61, 63, 64, 66, 67, 68, 70, 71, 73, 74, 75, 78, 79]
def asL1 : List Addr := [41]
def asL : List Addr := asL0 ++ asL1
def looseN0 : List PySem.Str := [("HallError" : PySem.Str), ("TooFew" : PySem.Str), ("best" : PySem.Str), ("_law_stream" : PySem.Str), ("_law_draw" : PySem.Str), ("_law_best" : PySem.Str), ("_law_surpasses" : PySem.Str)]
def looseN : List PySem.Str := looseN0
abbrev hR : PySem.W.OpenRow := PySem.W.OpenLaw.row PySem.Challenge.rw_appendhall_k23_best_candidate
abbrev hQ : Program := PySem.W.view hR.prog [10]
def factsF0 (K : PySem.W.Frag) : Bool := (bErr K "TooFew" "HallError" && (bDf K "best" && (bDf K "_law_stream" && (bDf K "_law_draw" && (bDf K "_law_best" && (bDf K "_law_surpasses" && (bDf K "law" && (bFree K "len" && (bFree K "int" && (bFree K "range" && (bFree K "max" && (bFree K "isinstance" && (bFree K "bool" && (bFree K "list" && (bFree K "ValueError" && bCd K "best" 41)))))))))))))))
def obG0 (K : PySem.W.Frag) : Bool × List He.FnV := (factsF0 K, [fnV K (ga K "best"), fnV K (ga K "_law_stream"), fnV K (ga K "_law_draw"), fnV K (ga K "_law_best"), fnV K (ga K "_law_surpasses"), fnV K (ga K "law")])
def obF0 (K : PySem.W.Frag) : Bool × List He.FnV := (bTb K 41 && (obG0 (dropF K 41)).1, (obG0 (dropF K 41)).2)
def vaF0 : Bool × List He.FnV := (true, [fnD "best" "best" (hS 4), fnD "_law_stream" "_law_stream" (hS 6), fnD "_law_draw" "_law_draw" (hS 7), fnD "_law_best" "_law_best" (hS 8), fnD "_law_surpasses" "_law_surpasses" (hS 9), fnD "law" "law" (hS 10)])
theorem runF0 (w : World) : HandSHeadRun.RunEq hR hQ (hkF asL obF0 vaF0) (fun s => obF0 (He.frG (HandSHeadRun.getT s) asL)) 60000 looseN w := by
  intro os
  kernel_rfl
end Ap
set_option Elab.async false
set_option linter.all false
set_option maxRecDepth 100000
namespace Ap
open PySem PySem.Spec PyProof.Rows L2 Evl
section
variable {K : PySem.W.Frag} {σ : L2.St} {H H' : Hp} {ta tb tc te : TE} {t u : TT} {x y z v w : V} {r r' : R2}
theorem ev_chain {k m : Bool} (ha : Ev ta σ H x) (hb : Ev tb σ H y) (hr : RV r x y H (.bl k)) (hc : Ev tc σ H z) (hr' : RV r' y z H (.bl m)) : Ev (tChain r r' ta tb tc) σ H (.bl (k && m)) := fun H1 e Q q =>
  ha H1 e _ fun H2 e2 => hb H2 (e.trans e2) _ fun H3 e3 => hr H3 ((e.trans e2).trans e3) _ fun H4 e4 => ⟨k, rfl, by
    cases k with
    | true =>
      show tc σ H4 _
      exact hc H4 (((e.trans e2).trans e3).trans e4) _ fun H5 e5 => hr' H5 ((((e.trans e2).trans e3).trans e4).trans e5) Q fun H6 e6 => q H6 ((((e2.trans e3).trans e4).trans e5).trans e6)
    | false =>
      show Q (.bl false) H4
      exact q H4 ((e2.trans e3).trans e4)⟩
theorem rc_int {i : Int} : RC (fun xs H Q => (∃ i, xs = [.int i] ∧ Q (.int i) H) ∨ ∃ k, xs = [.bl k] ∧ Q (.int (if k then 1 else 0)) H) [.int i] H (.int i) := fun H1 _ _ q => Or.inl ⟨i, rfl, q H1 (Ex.refl H1)⟩
theorem rc_len {p : Addr} {xs : List V} (h : SqL K H p xs) : RC (fun xs H Q => ∃ p ys, xs = [.ref p] ∧ (SqL K H p ys ∨ SqT K H p ys) ∧ Q (.int ys.length) H) [.ref p] H (.int (xs.length : Int)) := fun H1 e _ q => ⟨p, xs, rfl, Or.inl (ex_l e h), q H1 (Ex.refl H1)⟩
end
section
variable {K : PySem.W.Frag} {σ : L2.St} {H H' : Hp} {ta tb tc te td ty tv : TE} {t u : TT} {x y z v w : V} {D : Ends} {tz : TS}
/-- isinstance(x, T) of a plain value -/
theorem rc_isi {x : V} {T X : String} {b : Bool} (ht : ∀ H, TyX K H x (.type X)) (hb : kitB X T = some b) : RC (rIsi K) [x, .ty T] H (.bl b) := fun H1 _ _ q => ⟨x, .ty T, .type X, .type T, b, rfl, .ty T, ht H1, kit_ty hb, q H1 (Ex.refl H1)⟩
theorem q_call {sp : Sp} {dvs vs : List V} {E : XK} {ta : TA} {i : Nat} (h : EvA ta σ H vs) (k : ∀ H1, Ex H H1 → sp (vs ++ dvs) H1 (fun v H2 => tz D (σ.set i (some v)) H2) E) : tSeq (tAsg (tCall sp dvs E ta) (gName i)) tz D σ H := h H (Ex.refl H) _ fun H1 e => k H1 e
end
def Dr (ds : List Int) : Prop := ∀ d ∈ ds, 0 ≤ d ∧ d < 5040
theorem Dr.nil : Dr [] := fun _ h => nomatch h
theorem Dr.app {ds : List Int} {d : Int} (h : Dr ds) (h0 : 0 ≤ d) (h1 : d < 5040) : Dr (ds ++ [d]) := fun e he => by
  rcases List.mem_append.mp he with he | he
  · exact h e he
  · rw [List.mem_singleton.mp he]
    exact ⟨h0, h1⟩
/-- a draw: the k-th one, 0 behind the last -/
def drw (ds : List Int) (k : Nat) : Int := ds.getD k 0
def spStream (K : PySem.W.Frag) : Sp := fun vs H Q _ => ∃ (a : Addr) (ns : List Int) (m : Nat), vs = [.ref a, .int (m : Int)] ∧ SqL K H a (ns.map V.int) ∧ ns.length ≤ 63 ∧ m ≤ 1000 ∧
  ∀ ds : List Int, Dr ds → ds.length ≤ m + 60 → RetL (ds.map V.int) H Q
def spDraw (K : PySem.W.Frag) : Sp := fun vs H Q _ => ∃ (a : Addr) (ds : List Int) (k : Nat), vs = [.ref a, .int (k : Int)] ∧ SqL K H a (ds.map V.int) ∧ RetV (.int (drw ds k)) H Q
theorem spDraw_v {K : PySem.W.Frag} {H : Hp} {a : Addr} {ds : List Int} {j : Int} {k : Nat} (h : SqL K H a (ds.map V.int)) (e : j = (k : Int)) : SpV (spDraw K) [.ref a, .int j] H (.int (drw ds k)) := fun H1 e1 Q q E =>
  ⟨a, ds, k, by rw [e], ex_l e1 h, fun H2 e2 => q H2 e2⟩
def drI (ds : List Int) (j : Int) : Int := drw ds j.toNat
theorem spDrawI {K : PySem.W.Frag} {H : Hp} {a : Addr} {ds : List Int} {j : Int} (h : SqL K H a (ds.map V.int)) (e : 0 ≤ j) : SpV (spDraw K) [.ref a, .int j] H (.int (drI ds j)) := spDraw_v h (by omega)
structure Df (K : PySem.W.Frag) (mg : Str → Option Value) (x : Str) (st : Stmt) (ps : List Str) (f : Addr) (fd : FuncData) : Prop where
  F : Fun K x x st f fd
  b : Binds K fd ps []
  g : mg x = some (.ref f)
theorem df_mk {K : PySem.W.Frag} {mg : Str → Option Value} {h : Heap} (X : K.In h) (G : h.Ns mainGlobals mg) {x : Str} {st : Stmt} {ps : List Str} {f : Addr} {oc : Value} {od an : Option Addr} {sl : Array (Option Value)} {kV dc pm cd ct : Value}
    (a : PySem.W.nsIn K mainGlobals x = some (some (.ref f))) (l : K.lookup f = some ⟨oc, od, .func (PySem.W.fnOf x x (defArgs st) (defBody st) (defScope st) .none kV dc pm an cd ct), sl⟩) (c : PySem.W.codeIn K cd x = true) (k : PySem.W.keepIn K (.ref f) = true)
    (hb : ∀ (kV doc pm : Value) (an : Option Addr) (cdv ct : Value) (us : List Value), us.length = ps.length → bindArgs (PySem.W.fnOf x x (defArgs st) (defBody st) (defScope st) .none kV doc pm an cdv ct) ⟨us, []⟩ = pure (ps.zip us)) :
    ∃ f fd, Df K mg x st ps f fd := ⟨_, _, fun_mk l c k, (fun_mk l c k).binds hb, PySem.W.mg_of X G a⟩
theorem law_mk {K : PySem.W.Frag} {mg : Str → Option Value} {h : Heap} (X : K.In h) (G : h.Ns mainGlobals mg) {st : Stmt} {fa f : Addr} {oc : Value} {od an : Option Addr} {sl : Array (Option Value)} {kV dc pm cd ct : Value} (hfa : mg "law" = some (.ref fa))
    (a : PySem.W.nsIn K mainGlobals "law" = some (some (.ref f))) (l : K.lookup f = some ⟨oc, od, .func (PySem.W.fnOf "law" "law" (defArgs st) (defBody st) (defScope st) .none kV dc pm an cd ct), sl⟩) (c : PySem.W.codeIn K cd "law" = true) (k : PySem.W.keepIn K (.ref f) = true)
    (hb : ∀ (kV doc pm : Value) (an : Option Addr) (cdv ct : Value) (s : Shared) (v : Value), BindsTo s (PySem.W.fnOf "law" "law" (defArgs st) (defBody st) (defScope st) .none kV doc pm an cdv ct) ⟨[v], []⟩ [("script", v)]) :
    ∃ fd, (∀ (s : Shared) (v : Value), BindsTo s fd ⟨[v], []⟩ [("script", v)]) ∧ Fun K "law" "law" st fa fd := by
  have e := hfa.symm.trans (PySem.W.mg_of X G a)
  cases e
  exact ⟨_, fun s v => hb kV dc pm an cd ct s v, fun_mk l c k⟩
end Ap
set_option Elab.async false
set_option linter.all false
set_option maxRecDepth 100000
namespace Ap
open PySem PySem.Spec PyProof.Rows L2 Evl
section
variable {K : PySem.W.Frag} {H H' : Hp}
mutual
theorem dp_mono (e : Ex H H') : ∀ (d : PyData) (v : V), Dp K H v d → Dp K H' v d
  | .none, _, h => by cases h; exact .non
  | .bool b, _, h => by cases h; exact .bl b
  | .int i, _, h => by cases h; exact .int i
  | .str x, _, h => by cases h; exact .str x
  | .list ds, _, h => by
    cases h with
    | lst hs ha => exact .lst (ex_l e hs) (dpa_mono e ds _ ha)
  | .tuple ds, _, h => by
    cases h with
    | tup hs ha => exact .tup (ex_t e hs) (dpa_mono e ds _ ha)
  | .dict _, _, h => by cases h
theorem dpa_mono (e : Ex H H') : ∀ (ds : List PyData) (vs : List V), DpAll K H vs ds → DpAll K H' vs ds
  | [], _, h => by cases h; exact .nil
  | d :: ds, _, h => by
    cases h with
    | cons h1 h2 => exact .cons (dp_mono e d _ h1) (dpa_mono e ds _ h2)
end
theorem dpa_len : ∀ {vs : List V} {ds : List PyData}, DpAll K H vs ds → vs.length = ds.length
  | _, _, .nil => rfl
  | _, _, .cons _ h => by rw [List.length_cons, List.length_cons, dpa_len h]
end
mutual
theorem eqv_self : ∀ d : PyData, d.canLay0 = true → PyData.eqv d d = true
  | .none, _ => by simp [PyData.eqv]
  | .bool b, _ => by simp [PyData.eqv]
  | .int i, _ => by simp [PyData.eqv]
  | .str x, _ => by simp [PyData.eqv]
  | .list ds, h => by
    show PyData.eqvAll ds ds = true
    exact eqvAll_self ds (by simpa [PyData.canLay0] using h)
  | .tuple ds, h => by
    show PyData.eqvAll ds ds = true
    exact eqvAll_self ds (by simpa [PyData.canLay0] using h)
  | .dict _, h => by simp [PyData.canLay0] at h
theorem eqvAll_self : ∀ ds : List PyData, PyData.canLayAll0 ds = true → PyData.eqvAll ds ds = true
  | [], _ => by simp [PyData.eqvAll]
  | d :: ds, h => by
    have h' : d.canLay0 = true ∧ PyData.canLayAll0 ds = true := by simpa [PyData.canLayAll0] using h
    simp [PyData.eqvAll, eqv_self d h'.1, eqvAll_self ds h'.2]
end
/-- no dict within, no text out of range, at most n deep -/
def Sd (n : Nat) (d : PyData) : Prop := d.canLay0 = true ∧ d.depth ≤ n
def Sds (n : Nat) (ds : List PyData) : Prop := ∀ d ∈ ds, Sd n d
theorem sds_lay : ∀ {n : Nat} {ds : List PyData}, Sds n ds → PyData.canLayAll0 ds = true ∧ PyData.depthAll ds ≤ n
  | _, [], _ => ⟨by simp [PyData.canLayAll0], by simp [PyData.depthAll]⟩
  | n, d :: ds, h => by
    have h1 := h d List.mem_cons_self
    have h2 := sds_lay (fun e he => h e (List.mem_cons_of_mem _ he))
    exact ⟨by simp [PyData.canLayAll0, h1.1, h2.1], by have := h1.2; have := h2.2; simp only [PyData.depthAll]; omega⟩
theorem sd_tuple {n : Nat} {ds : List PyData} (h : Sds n ds) : Sd (n + 1) (.tuple ds) := ⟨by simp [PyData.canLay0, (sds_lay h).1], by have := (sds_lay h).2; simp only [PyData.depth]; omega⟩
theorem sd_list {n : Nat} {ds : List PyData} (h : Sds n ds) : Sd (n + 1) (.list ds) := ⟨by simp [PyData.canLay0, (sds_lay h).1], by have := (sds_lay h).2; simp only [PyData.depth]; omega⟩
theorem sd_int {n : Nat} {i : Int} : Sd n (.int i) := ⟨by simp [PyData.canLay0], by simp [PyData.depth]⟩
theorem sd_bool {n : Nat} {b : Bool} : Sd n (.bool b) := ⟨by simp [PyData.canLay0], by simp [PyData.depth]⟩
theorem sd_str {n : Nat} {x : Str} (h : PyData.strOk x = true) : Sd n (.str x) := ⟨by simp [PyData.canLay0, h], by simp [PyData.depth]⟩
theorem Sds.drop {n : Nat} {ds : List PyData} (h : Sds n ds) (k : Nat) : Sds n (ds.drop k) := fun e he => h e (List.mem_of_mem_drop he)
theorem Sds.take {n : Nat} {ds : List PyData} (h : Sds n ds) (k : Nat) : Sds n (ds.take k) := fun e he => h e (List.mem_of_mem_take he)
theorem Sd.shaped {d : PyData} {n : Nat} (h : Sd n d) (l : n ≤ 64) : SeqAt.shaped d = true := by
  unfold SeqAt.shaped
  rw [h.1, decide_eq_true (Nat.le_trans h.2 l)]
  rfl
theorem Sd.self {d : PyData} {n : Nat} (h : Sd n d) : PyData.eqv d d = true := eqv_self d h.1
def ov (H H1 H2 : Hp) : Hp := fun a => match H a with
  | some o => some o
  | none => match H1 a with
    | some _ => none
    | none => H2 a
theorem ov_ex {H H1 H2 : Hp} (e : Ex H H1) (e2 : Ex H1 H2) : Ex (ov H H1 H2) H2 := fun a o h => by
  unfold ov at h
  cases h0 : H a with
  | some o' =>
    rw [h0] at h
    rw [← h]
    exact e2 a o' (e a o' h0)
  | none =>
    rw [h0] at h
    cases h1 : H1 a with
    | some o' => rw [h1] at h; cases h
    | none => rw [h1] at h; exact h
theorem ov_base {H H1 H2 : Hp} : Ex H (ov H H1 H2) := fun a o h => by
  unfold ov
  rw [h]
theorem ov_grow {H H1 H2 H3 : Hp} (e2 : Ex H2 H3) : Ex (ov H H1 H2) (ov H H1 H3) := fun a o h => by
  unfold ov at h ⊢
  cases h0 : H a with
  | some o' => rw [h0] at h; exact h
  | none =>
    rw [h0] at h
    cases h1 : H1 a with
    | some o' => rw [h1] at h; cases h
    | none =>
      rw [h1] at h
      exact e2 a o h
theorem ov_later {H H1 H2 H3 : Hp} (e1 : Ex H1 H2) : Ex (ov H H2 H3) (ov H H1 H3) := fun a o h => by
  unfold ov at h ⊢
  cases h0 : H a with
  | some o' => rw [h0] at h; exact h
  | none =>
    rw [h0] at h
    cases h2 : H2 a with
    | some o' => rw [h2] at h; cases h
    | none =>
      rw [h2] at h
      have h1 : H1 a = none := fresh_back e1 h2
      rw [h1]
      exact h
theorem ov_new {H H1 H2 : Hp} {p : Addr} (e : Ex H H1) (e2 : Ex H1 H2) (hp : H2 p = none) {u : HO} : ov H H1 (upd H2 p u) p = some u := by
  have h1 : H1 p = none := fresh_back e2 hp
  have h0 : H p = none := fresh_back e h1
  unfold ov
  rw [h0, h1]
  exact upd_same
def EvD (K : PySem.W.Frag) (te : TE) (σ : L2.St) (H : Hp) (d : PyData) : Prop := ∀ H1, Ex H H1 → ∀ Q : VK, (∀ v H2, Ex H1 H2 → Dp K (ov H H1 H2) v d → Q v H2) → te σ H1 Q
def EvDs (K : PySem.W.Frag) (ta : TA) (σ : L2.St) (H : Hp) (ds : List PyData) : Prop := ∀ H1, Ex H H1 → ∀ Q : List V → Hp → Prop, (∀ vs H2, Ex H1 H2 → DpAll K (ov H H1 H2) vs ds → Q vs H2) → ta σ H1 Q
section
variable {K : PySem.W.Frag} {σ : L2.St} {H H' : Hp} {ta tb tc te : TE} {t u : TT} {x y z v w : V} {d e : PyData} {ds es : List PyData} {r : R2}
theorem ed_of (h : Ev te σ H v) (hd : Dp K H v d) : EvD K te σ H d := fun H1 e Q q => h H1 e Q fun H2 e2 => q v H2 e2 (dp_mono ov_base d v hd)
theorem ed_str {s : Str} : EvD K (tC (.str s)) σ H (.str s) := ed_of ev_c (.str s)
theorem ed_bool {b : Bool} (h : Ev te σ H (.bl b)) : EvD K te σ H (.bool b) := ed_of h (.bl b)
theorem EvD.mono (e : Ex H H') (h : EvD K te σ H d) : EvD K te σ H' d := fun H1 a Q q => h H1 (e.trans a) Q fun v H2 e2 hd => q v H2 e2 (dp_mono (fun b o hb => by
  unfold ov at hb ⊢
  cases h0 : H b with
  | some o' => rw [h0] at hb; rw [e b o' h0]; exact hb
  | none =>
    rw [h0] at hb
    cases h1 : H1 b with
    | some o' => rw [h1] at hb; cases hb
    | none =>
      rw [h1] at hb
      rw [fresh_back a h1]
      exact hb) d v hd)
theorem eds_nil : EvDs K tNil σ H [] := fun H1 _ _ q => q [] H1 (Ex.refl H1) .nil
theorem eds_cons {tr : TA} (h : EvD K te σ H d) (hr : EvDs K tr σ H ds) : EvDs K (tCons te tr) σ H (d :: ds) := fun H1 e Q q =>
  h H1 e _ fun v H2 e2 hv => hr H2 (e.trans e2) _ fun vs H3 e3 hs => q _ H3 (e2.trans e3) (.cons (dp_mono (ov_grow e3) d v hv) (dpa_mono (ov_later e2) ds vs hs))
theorem ed_tup {ta : TA} (h : EvDs K ta σ H ds) (hl : ds.length ≤ 100000) : EvD K (tTup ta) σ H (.tuple ds) := fun H1 e Q q =>
  h H1 e _ fun vs H2 e2 hs => ⟨by rw [dpa_len hs]; exact sz_of hl, fun p hp => q _ _ (e2.trans (Ex.new hp)) (.tup (st_of (ov_new e e2 hp)) (dpa_mono (ov_grow (Ex.new hp)) ds vs hs))⟩
theorem ev_eqD {n m : Nat} (ha : EvD K ta σ H d) (hb : EvD K tb σ H e) (sd : Sd n d) (se : Sd m e) (hn : n ≤ 64) (hm : m ≤ 64) : Ev (tOp (rEqD K) ta tb) σ H (.bl (PyData.eqv d e)) := fun H1 a Q q =>
  ha H1 a _ fun v H2 e2 hv => hb H2 (a.trans e2) _ fun w H3 e3 hw => ⟨d, e, dp_mono ((ov_ex a e2).trans e3) d v hv, dp_mono (ov_ex (a.trans e2) e3) e w hw, sd.shaped hn, se.shaped hm, q H3 (e2.trans e3)⟩
theorem ev_neD {n m : Nat} (ha : EvD K ta σ H d) (hb : EvD K tb σ H e) (sd : Sd n d) (se : Sd m e) (hn : n ≤ 64) (hm : m ≤ 64) : Ev (tOp (rNeD K) ta tb) σ H (.bl (!PyData.eqv d e)) := fun H1 a Q q =>
  ha H1 a _ fun v H2 e2 hv => hb H2 (a.trans e2) _ fun w H3 e3 hw => ⟨d, e, dp_mono ((ov_ex a e2).trans e3) d v hv, dp_mono (ov_ex (a.trans e2) e3) e w hw, sd.shaped hn, se.shaped hm, q H3 (e2.trans e3)⟩
variable {D : Ends} {tz : TS} {i : Nat}
end
end Ap
set_option Elab.async false
set_option linter.all false
set_option maxRecDepth 100000
namespace Ap
open PySem PySem.Spec PyProof.Rows L2 Evl
/-- a block under a proposition -/
theorem pss_guard {X : Cx} {b : List Stmt} {t : TS} {p : Prop} (h : p → PSs X b t) : PSs X b (fun D σ H => p ∧ t D σ H) := ⟨fun pins s σ H D I q => (h q.1).run pins s σ H D I q.2⟩
/-- try: .. except X as n: suite, the errors of the body of one own class without fields -/
theorem ps_try_own {X : Cx} {C : Addr} {x n : Str} {c : Value} {i : Nat} {body suite : List Stmt} {b₀ : Stmt} {np pos pos' : Pos} {tb : WX → TS} {ts : Addr → TS} {Wout : WX} (hs : X.stack = X.env :: X.outer) (hf : X.env.frame = some X.env.locals) (hN : X.N.Nodup) (hi : X.N[i]? = some n) (hln : X.env.kindOf n = some .local) (hc : Names X x c) (tk : Takes X Wout)
    (hb : ∀ (W : WX) (pn : List (Addr × Obj)) (xe : Value → Shared → Prop), Takes (X.tr pn xe) W → PSs (X.tr pn xe) body (tb W))
    (hsu : ∀ (a : Addr) (oe : Obj) (pn : List (Addr × Obj)), Zc (.ref C) none oe → (∃ vs, oe.data = .fields vs) → PSs (X.suite a ((a, oe) :: pn)) (b₀ :: suite) (ts a)) :
    PS X (.Try body [.ExceptHandler (some (.Name x np)) (some n) (b₀ :: suite) pos'] [] [] pos) (fun D σ H => tb (wAs X.K c i (fun a cls d D σ H => (cls = .ref C ∧ d = none) ∧ ts a D σ H) Wout D) D σ H) :=
  ps_try_as hs hf hN hi hln hc tk (fun W pn xe tk' _ => hb W pn xe tk') (fun a oe cls d pn hz hf => pss_guard fun h => by
    obtain ⟨h1, h2⟩ := h
    subst h1
    subst h2
    exact hsu a oe pn hz hf)
/-- an own error class C over ValueError (through B), as the top left it -/
structure Err (K : PySem.W.Frag) (mg : Str → Option Value) (x : Str) (C B : Addr) : Prop where
  g : mg x = some (.ref C)
  kp : PySem.W.keepIn K (.ref C) = true
  ex : PySem.W.excIn K C [.type "ValueError", .type "Exception", .type "BaseException", .type "object"] "ValueError.__new__" = true
  bs : PySem.W.subIn K (.ref C) (.type "BaseException") = some true
  ty : PySem.W.typeIn K (.ref C) = some (.type "type")
  me : PySem.W.exmOne K (.ref C) (.ref C) = some true
  ec : ExcC K C
  k1 : PySem.W.kitOne K (.ref C) (.ref B) = some true
  k2 : PySem.W.kitOne K (.ref C) (.type "ValueError") = some true
theorem Err.mk' {X : Cx} {x m : Str} {C B : Addr} {j : Nat} {p p2 pos : Pos} (T : Err X.K X.mg x C B) (hg : Gl X x) (hdb : (x == ("__debug__" : Str)) = false := by decide) : PMk X (.Call (.Name x p) [.Constant (.str m) j p2] [] pos) (fun _ H Q => Q (.ref C) none H) :=
  pmk_own PySem.F.excBase_ValueError T.ex T.g T.kp (raises_own T.bs T.ty) hg hdb
/-- isinstance(e, T), e the error in hand -/
theorem ev_isE {K : PySem.W.Frag} {σ : L2.St} {H : Hp} {tx : TE} {D a : Addr} {i : Nat} {c : V} {cv : Value} {b : Bool} (h : σ[i]? = some (some (.ref a))) (hx : Ev tx σ H c) (hc : ∀ u, RelV c u → u = cv) (k : PySem.W.kitOne K (.ref D) cv = some b) : Ev (tCB (rIsE K D a) (tCons (tVar i) (tCons tx tNil))) σ H (.bl b) :=
  ev_cb (ea_cons (ev_var h) (ea_cons hx ea_nil)) fun H1 _ Q q => ⟨c, cv, b, rfl, hc, k, q H1 (Ex.refl H1)⟩
section
variable {K : PySem.W.Frag} {σ : L2.St} {H H' : Hp} {ta tb te : TE} {ds es : List PyData}
theorem rc_max2 {i j : Int} : RC (fun xs H Q => ∃ i j, xs = [.int i, .int j] ∧ Q (.int (if j > i then j else i)) H) [.int i, .int j] H (.int (if j > i then j else i)) := fun H1 _ Q q => ⟨i, j, rfl, q H1 (Ex.refl H1)⟩
theorem rc_min2 {i j : Int} : RC (fun xs H Q => ∃ i j, xs = [.int i, .int j] ∧ Q (.int (if j < i then j else i)) H) [.int i, .int j] H (.int (if j < i then j else i)) := fun H1 _ Q q => ⟨i, j, rfl, q H1 (Ex.refl H1)⟩
end
theorem kit_own {K : PySem.W.Frag} {t : Value} {B : Addr} (hd : PySem.W.hasDictIn K B = true) (ht : PySem.W.typeIn K (.ref B) = some (.type "type")) (hs : PySem.W.subIn K t (.ref B) = some true) : PySem.W.kitOne K t (.ref B) = some true := by
  obtain ⟨cd, hc, _⟩ := PySem.W.any_some hd
  unfold PySem.W.kitOne
  split
  · rfl
  · show (if ((PySem.W.clsIn K B).isSome && PySem.W.typeIn K (.ref B) == some (.type "type")) = true then PySem.W.subIn K t (.ref B) else none) = some true
    rw [hc, ht, if_pos (by rfl)]
    exact hs
theorem kit_blt {K : PySem.W.Frag} {t : Value} {n : String} (hm : PySem.W.kitMeta n = true) (hs : PySem.W.subIn K t (.type n) = some true) : PySem.W.kitOne K t (.type n) = some true := by
  unfold PySem.W.kitOne
  split
  · rfl
  · show (if PySem.W.kitMeta n = true then PySem.W.subIn K t (.type n) else none) = some true
    rw [if_pos hm]
    exact hs
theorem err_mk {K : PySem.W.Frag} {h : Heap} {mg : Str → Option Value} {x y : Str} {C B : Addr} (X : K.In h) (G : h.Ns mainGlobals mg) (a : PySem.W.nsIn K mainGlobals x = some (some (.ref C))) (b : PySem.W.nsIn K mainGlobals y = some (some (.ref B))) (kp : PySem.W.keepIn K (.ref C) = true)
    (ex : PySem.W.excIn K C [.type "ValueError", .type "Exception", .type "BaseException", .type "object"] "ValueError.__new__" = true) (bs : PySem.W.subIn K (.ref C) (.type "BaseException") = some true) (ty : PySem.W.typeIn K (.ref C) = some (.type "type")) (ss : PySem.W.subIn K (.ref C) (.ref C) = some true)
    (hg : PySem.W.findIn K (.ref C) "__getattribute__" = some (some (.builtin "BaseException.__getattribute__"))) (hk : PySem.W.findIn K (.ref C) "__getattr__" = some none) (hd : PySem.W.hasDictIn K C = true) (ha : PySem.W.findIn K (.ref C) "__class__" = some (some (.builtin "object.__class__")))
    (hn : PySem.W.specialIn K (.builtin "object.__class__") "__get__" = some (some (.builtin "getset_descriptor.__get__"))) (ht : PySem.W.takesIn K (.builtin "object.__class__") = some true) (hm : PySem.W.mroIn K C (.type "object") = some true)
    (dB : PySem.W.hasDictIn K B = true) (tB : PySem.W.typeIn K (.ref B) = some (.type "type")) (sb : PySem.W.subIn K (.ref C) (.ref B) = some true) (sv : PySem.W.subIn K (.ref C) (.type "ValueError") = some true) : Err K mg x C B ∧ mg y = some (.ref B) :=
  ⟨⟨PySem.W.mg_of X G a, kp, ex, bs, ty, PySem.W.exm_ref bs hd ty ss, ⟨hg, hk, bs, hd, ha, hn, ht, hm⟩, kit_own dB tB sb, kit_blt (by decide +kernel) sv⟩, PySem.W.mg_of X G b⟩
end Ap
set_option Elab.async false
set_option linter.all false
set_option maxRecDepth 100000
namespace Ap
open PySem PySem.Spec PyProof.Rows L2 Evl
mutual
inductive Dx (K : PySem.W.Frag) (H : Hp) : V → PyData → Prop
  | non : Dx K H .non .none
  | bl (b : Bool) : Dx K H (.bl b) (.bool b)
  | int (i : Int) : Dx K H (.int i) (.int i)
  | str (x : Str) : Dx K H (.str x) (.str x)
  | lst {a : Addr} {xs : List V} {ds : List PyData} : SqL K H a xs → DxAll K H xs ds → Dx K H (.ref a) (.list ds)
  | tup {a : Addr} {xs : List V} {ds : List PyData} : SqT K H a xs → DxAll K H xs ds → Dx K H (.ref a) (.tuple ds)
  | dic {a : Addr} {kvs : List (Key × V)} : H a = some (.dK kvs) → Dx K H (.ref a) (.dict [])
inductive DxAll (K : PySem.W.Frag) (H : Hp) : List V → List PyData → Prop
  | nil : DxAll K H [] []
  | cons {v : V} {vs : List V} {d : PyData} {ds : List PyData} : Dx K H v d → DxAll K H vs ds → DxAll K H (v :: vs) (d :: ds)
end
section
variable {K : PySem.W.Frag} {H H' : Hp}
mutual
theorem dx_mono (e : Ex H H') : ∀ (d : PyData) (v : V), Dx K H v d → Dx K H' v d
  | .none, _, h => by cases h; exact .non
  | .bool b, _, h => by cases h; exact .bl b
  | .int i, _, h => by cases h; exact .int i
  | .str x, _, h => by cases h; exact .str x
  | .list ds, _, h => by
    cases h with
    | lst hs ha => exact .lst (Evl.ex_l e hs) (dxa_mono e ds _ ha)
  | .tuple ds, _, h => by
    cases h with
    | tup hs ha => exact .tup (ex_t e hs) (dxa_mono e ds _ ha)
  | .dict _, _, h => by
    cases h with
    | dic h => exact .dic (e _ _ h)
theorem dxa_mono (e : Ex H H') : ∀ (ds : List PyData) (vs : List V), DxAll K H vs ds → DxAll K H' vs ds
  | [], _, h => by cases h; exact .nil
  | d :: ds, _, h => by
    cases h with
    | cons h1 h2 => exact .cons (dx_mono e d _ h1) (dxa_mono e ds _ h2)
end
end
def EvX (K : PySem.W.Frag) (te : TE) (σ : L2.St) (H : Hp) (d : PyData) : Prop := ∀ H1, Ex H H1 → ∀ Q : VK, (∀ v H2, Ex H1 H2 → Dx K (ov H H1 H2) v d → Q v H2) → te σ H1 Q
section
variable {K : PySem.W.Frag} {σ : L2.St} {H H' : Hp} {ta tb tc te : TE} {t u : TT} {x y z v w : V} {d e : PyData} {ds es : List PyData} {r : R2}
theorem EvX.mono (e : Ex H H') (h : EvX K te σ H d) : EvX K te σ H' d := fun H1 a Q q => h H1 (e.trans a) Q fun v H2 e2 hd => q v H2 e2 (dx_mono (fun b o hb => by
  unfold ov at hb ⊢
  cases h0 : H b with
  | some o' => rw [h0] at hb; rw [e b o' h0]; exact hb
  | none =>
    rw [h0] at hb
    cases h1 : H1 b with
    | some o' => rw [h1] at hb; cases hb
    | none =>
      rw [h1] at hb
      rw [fresh_back a h1]
      exact hb) d v hd)
variable {D : Ends} {tz : TS} {i : Nat}
end
end Ap
set_option Elab.async false
set_option linter.all false
set_option maxRecDepth 100000
set_option maxHeartbeats 2000000
set_option Elab.async false
set_option linter.all false
set_option maxRecDepth 100000
namespace Ap
open PySem PySem.Spec PyProof.Rows L2 Evl
/-- bounded: texts, lists and tuples of at most 1000, at most n deep -/
inductive Okd : Nat → PyData → Prop
  | non {n : Nat} : Okd n .none
  | bl {n : Nat} (b : Bool) : Okd n (.bool b)
  | int {n : Nat} (i : Int) : Okd n (.int i)
  | str {n : Nat} {x : Str} (h : x.length ≤ 1000) : Okd n (.str x)
  | dic {n : Nat} {kvs : List (PyData × PyData)} : Okd n (.dict kvs)
  | lst {n : Nat} {ds : List PyData} (h : ds.length ≤ 1000) (hs : ∀ d, d ∈ ds → Okd n d) : Okd (n + 1) (.list ds)
  | tup {n : Nat} {ds : List PyData} (h : ds.length ≤ 1000) (hs : ∀ d, d ∈ ds → Okd n d) : Okd (n + 1) (.tuple ds)
  | lsa {n : Nat} {ds : List PyData} (h : ds.length ≤ 1000) : Okd n (.list ds)
end Ap
set_option Elab.async false
set_option linter.all false
set_option maxRecDepth 100000
namespace Ap
open PySem PySem.Spec PyProof.Rows L2 Evl ClX
theorem Okd.mono {n m : Nat} {d : PyData} (h : Okd n d) : n ≤ m → Okd m d := by
  induction h generalizing m with
  | non => exact fun _ => .non
  | bl b => exact fun _ => .bl b
  | int i => exact fun _ => .int i
  | str h => exact fun _ => .str h
  | dic => exact fun _ => .dic
  | lst h hs ih =>
    intro hl
    obtain ⟨k, rfl⟩ : ∃ k, m = k + 1 := ⟨m - 1, by omega⟩
    exact .lst h fun d hd => ih d hd (by omega)
  | tup h hs ih =>
    intro hl
    obtain ⟨k, rfl⟩ : ∃ k, m = k + 1 := ⟨m - 1, by omega⟩
    exact .tup h fun d hd => ih d hd (by omega)
  | lsa h => exact fun _ => .lsa h
end Ap
set_option Elab.async false
set_option linter.all false
set_option maxRecDepth 100000
set_option Elab.async false
set_option linter.all false
set_option maxRecDepth 100000
set_option Elab.async false
set_option linter.all false
set_option maxRecDepth 100000
set_option Elab.async false
set_option linter.all false
set_option maxRecDepth 100000
set_option maxHeartbeats 4000000
namespace LamP
open PySem PySem.Spec PyProof.Rows L2 LamX Evl
/-- the table's entries are known -/
def TblIn (H : Hp) (ps : Array Value) (q : Str) : Prop := TriplesOk ps.toList ∧ ∀ (pos : Pos) (cv : Value), codeAmong pos ps.toList = some cv → ∃ c, cv = .ref c ∧ H c = some (CodeO c q)
theorem TblIn.mono {H H' : Hp} {ps : Array Value} {q : Str} (e : Ex H H') (h : TblIn H ps q) : TblIn H' ps q := ⟨h.1, fun pos cv hc => (h.2 pos cv hc).elim fun c z => ⟨c, z.1, e _ _ z.2⟩⟩
theorem TblIn.nil {H : Hp} {q : Str} : TblIn H #[] q := ⟨True.intro, fun pos cv hc => by
  have z : codeAmong pos [] = some cv := hc
  simp [codeAmong] at z⟩
/-- a function's object, known -/
def LamO (f : Addr) (o : Obj) : HO := .ext fun h => h.get? f = some o
def tLamM (P : Addr) (q : Str) (mk : Value → Addr → Value → Obj) : TE := fun σ H Q => ∃ ps, H P = some (.tbl ps) ∧ TblIn H ps q ∧ ∀ (f c' : Addr) (pm ctv : Value) (ps' : Array Value) (H1 : Hp), Ex (upd H P (.tbl ps')) H1 → (∀ G : Hp, TblIn G ps q → (H c' = none → G c' = some (CodeO c' q)) → TblIn G ps' q) → H1 c' = some (CodeO c' q) → H1 f = none → Q (.ref f) (upd H1 f (LamO f (mk pm c' ctv)))
section
variable {X : Cx} {pins : List (Addr × Obj)} {σ : L2.St} {H : Hp} {s : Shared}
theorem pe_lamM {c P : Addr} {params : Arguments} {body : Expr} {scope : Scope} {pos : Pos} (TB : TabB X.base X.mg c P) (hcode : X.env.code = .ref c) (hdef : defaultsOf params X.env = ([], [])) (hfree : ∀ y ∈ scope.names, y.2 ≠ .free) (hclo : cloFrom X.env.cells scope.names [] = []) :
    PE X (.Lambda params body scope pos) (tLamM P (X.env.qual ++ "<lambda>") fun pm c' ctv => PySem.W.kla_obj "<lambda>" (X.env.qual ++ "<lambda>") params body scope [] pm c' ctv) := by
  refine ⟨fun pins s σ H Q I h => ?_⟩
  obtain ⟨ps, hP, ⟨ht, ha⟩, k⟩ := h
  have hfr : ∀ y ∈ scope.names, y.2 = .free → ∃ c, X.env.cells.lookup y.1 = some c := fun y hy z => absurd z (hfree y hy)
  refine PySem.W.kla_eval hdef ?_
  have bP : s.heap.BuiltinsAt X.mg P := TB.bm.keeps I.bk
  have hP' : s.heap.get? P = some { cls := .none, data := .fields ps } := I.hok P _ hP
  have lay : ∀ {h' : Heap} {tk : Nat} {H' : Hp} {f : Addr} {o : Obj}, Inv X pins σ H' { s with heap := h', toks := tk } → o.isFreed = false → f = h'.objs.size → Inv X pins σ (upd H' f (LamO f o)) { s with heap := h'.push o, toks := tk } := fun {h' tk H' f o} J hf e => by
    subst e
    exact J.laid (fun b u z => Heap.get?_push_of_some _ z) (Nat.le_refl _) ⟨Heap.get?_push_size _ hf, ⟨o, Heap.get?_push_size _ hf⟩, fun h1 h2 z st => st o z⟩
  cases hc : codeAmong pos ps.toList with
  | none =>
    refine PySem.W.kla_makeFunction (mg := X.mg) (c := c) (P := P) (ps := ps) (closure_ok hfr) I.ok.glob (I.mod.glob.keeps I.bk) hcode (TB.code.keeps I.bk) hP' ht hc TB.gP bP fun c' ctv h' tk hx hge hlt hrec htb => ?_
    obtain ⟨c2, oc, vs, t, e2, hoc, hd, hv⟩ := hrec
    cases e2
    have nC : H c' = none := I.hok.fresh hge
    have J := inv_table (t' := tk) (q := X.env.qual ++ "<lambda>") (more := #[rawInt pos.line, rawInt pos.col, .ref c']) (h' := h') I hP (fun b o hb e => hx b o hb e) htb hge ⟨oc, vs, t, hoc, hd, hv⟩
    have eL : (ps ++ #[rawInt pos.line, rawInt pos.col, .ref c']).toList = ps.toList ++ [rawInt pos.line, rawInt pos.col, .ref c'] := by simp
    have nPc : P ≠ c' := ne_of_none hP nC
    have nf : upd (upd H P (.tbl (ps ++ #[rawInt pos.line, rawInt pos.col, .ref c']))) c' (CodeO c' (X.env.qual ++ "<lambda>")) h'.objs.size = none := J.hok.fresh (Nat.le_refl _)
    rw [hclo]
    refine ⟨.ref h'.objs.size, _, lay J rfl rfl, rfl, k _ c' _ ctv _ _ (Ex.new (by rw [upd_ne nPc.symm]; exact nC)) (fun G hG hn => ⟨by rw [eL]; exact PySem.TriplesOk_snoc _ _ _ _ ht, fun p' cv hcv => ?_⟩) upd_same nf⟩
    rw [eL] at hcv
    rcases among_app _ ht hcv with z | z
    · exact hG.2 p' cv z
    · exact ⟨c', z, hn nC⟩
  | some cv =>
    obtain ⟨c', e, hco⟩ := ha pos cv hc
    subst e
    refine PySem.W.kla_makeFunctionHit (mg := X.mg) (c := c) (P := P) (ps := ps) (closure_ok hfr) I.ok.glob (I.mod.glob.keeps I.bk) hcode (TB.code.keeps I.bk) hP' ht hc bP fun ctv h' tk hx hsz => ?_
    have J : Inv X pins σ H { s with heap := h', toks := tk } := I.kept hx
    have eH : upd H P (.tbl ps) = H := funext fun b => by
      by_cases hb : b = P
      · rw [hb, upd_same, hP]
      · rw [upd_ne hb]
    rw [hclo]
    exact ⟨.ref h'.objs.size, _, lay J rfl rfl, rfl, k _ c' _ ctv ps H (by rw [eH]; exact Ex.refl H) (fun G hG _ => hG) hco (J.hok.fresh (Nat.le_refl _))⟩
end
theorem lam_run {P : Program} {w : World} {K : PySem.W.Frag} {mg : Str → Option Value} {base : Heap} {k : Nat} {f c' : Addr} {q : Str} {params : Arguments} {body : Expr} {scope : Scope} {pm ctv : Value} {N : List Str} {y : Str} {tb : TE} (S : FnScope N [y] scope)
    (hbind : ∀ (pm cv ctv u : Value), bindArgs (PySem.W.kla_fn "<lambda>" q params body scope [] pm cv ctv) ⟨[u], []⟩ = pure [(y, u)])
    (hbody : ∀ (A : Around) (outer : List Env) (s : Shared) (H : Hp) (f : Addr) (cv : Value), Room k (A.deeper (envOfC q scope s.heap.objs.size f cv)) → PE (cxOf C8.CX0 P w K mg base N q scope f cv A outer s H C8.E0) body tb)
    {A : Around} {outer : List Env} {s : Shared} {H : Hp} {u : Value} {v : V} {Q : VK} (hr : Room (k + 1) A) (e0 : Env0 P w K mg base A outer s H) (hf : s.heap.get? f = some (PySem.W.kla_obj "<lambda>" q params body scope [] pm c' ctv)) (hc : H c' = some (CodeO c' q)) (rv : RelV v u) (h : tb (start N [v]) H Q) :
    codeAny (model P w) A (.call (.ref f) ⟨[u], []⟩) (CR C8.CX0 outer P w H s Q C8.E0) s := by
  obtain ⟨⟨oc, vs, t, hoc, hdc, hvc⟩, _, _⟩ := e0.hok c' _ hc
  refine PySem.W.kla_callFunE hr.depth hf rfl S.co S.gen rfl ⟨c', oc, vs, t, rfl, hoc, hdc, hvc⟩ ?_
  rw [hbind]
  have lim : s.heap.NoLimit := e0.mod.nolimit.keeps fun b o e => (e0.bs b o e).1
  have hkind : ∀ z ∈ [(y, u)], scope.names.lookup z.1 = some .local ∨ (scope.names.lookup z.1 = some .cell ∧ ((cellsFrom (s.heap.objs.size + 1) scope.names []).lookup z.1).isSome = true) := fun z hz => by
    rw [List.mem_singleton.mp hz]
    rcases S.par y List.mem_cons_self with e | e
    · exact .inl e
    · exact .inr ⟨e, PySem.W.cellsFrom_some _ _ _ (.inl e)⟩
  refine wpAny_pure (wpAny_newFunctionEnv_cells S.kind hkind fun env he s1 x => ?_)
  subst he
  refine ⟨lim.keeps x.toInCall.keep, PySem.W.kla_codeExpr ?_⟩
  have I : Inv (cxOf C8.CX0 P w K mg base N q scope f (.ref c') A outer s H C8.E0) [] (start N [v]) H s1 := inv_start (ps := [y]) (us := [u]) S hr.hd e0 rfl (.cons rv .nil) x
  refine wpAny_mono ((hbody A outer s H f (.ref c') (hr.deeper _)).run [] s1 _ H Q I h) (fun u' s' hs => ?_) fun e s' hs => hs
  obtain ⟨v', H', J, rv', qq⟩ := hs
  exact ⟨v', H', J.os, J.bare, J.base, J.hok, rv', qq⟩
section
variable {X : Cx} {pins : List (Addr × Obj)} {σ : L2.St} {H : Hp} {s s' : Shared}
theorem inv_new (I : Inv X pins σ H s) {b : Addr} (hb : s.heap.objs.size ≤ b) : X.s_0.heap.objs.size ≤ b ∧ b ≠ X.env.locals ∧ (∀ x c, X.env.cells.lookup x = some c → c ≠ b) ∧ (∀ p ∈ X.pn ++ pins, p.1 ≠ b) ∧ b ∉ frs X.stack ∧ H b = none := by
  have lt : ∀ c o, s.heap.get? c = some o → c ≠ b := fun c o e => Nat.ne_of_lt (Nat.lt_of_lt_of_le (Heap.lt_size e) hb)
  refine ⟨Nat.le_trans I.sz hb, ?_, fun x c e => ?_, fun p hp => ?_, fun z => ?_, I.hok.fresh hb⟩
  · obtain ⟨m, ⟨o, _, _, ho, _⟩, _⟩ := I.loc
    exact (lt _ o ho).symm
  · obtain ⟨v, o, ho, _⟩ := I.cell x c e
    exact lt c o ho
  · exact lt _ _ (I.pin p hp).1
  · obtain ⟨_, o, ho, _⟩ := Heap.FunFrames.mem I.stack z
    exact lt _ o ho rfl
theorem inv_moved {Z : List Addr} (I : Inv X pins σ H s) (m : Moved Z (fun a b => b = a) s s') (hz : ∀ b ∈ Z, X.s_0.heap.objs.size ≤ b ∧ b ≠ X.env.locals ∧ (∀ x c, X.env.cells.lookup x = some c → c ≠ b) ∧ (∀ p ∈ X.pn ++ pins, p.1 ≠ b) ∧ b ∉ frs X.stack) (hn : ∀ b ∈ Z, H b = none) : Inv X pins σ H s' := by
  obtain ⟨hh, g, d, t, os⟩ := s'
  obtain ⟨m1, m2, m3, m4, m5⟩ := m
  dsimp only at m1 m2 m3 m4
  subst m2 m4
  have nz : ∀ b u, H b = some u → b ∉ Z := fun b u e z => by
    rw [hn b z] at e
    cases e
  refine I.step (g' := s.gens) (d' := d) (t' := t) (ch := Z) (fun b hb => ⟨.inr (hz b hb).1, (hz b hb).2.1, (hz b hb).2.2.1, (hz b hb).2.2.2.1⟩) (fun b o _ _ hc e _ => m1 b o hc e) (fun b o _ _ hc e _ => ⟨o.slots, m1 b o hc e⟩) (fun _ _ _ _ n => n) (fun b o hc e => ⟨o, m1 b o hc e⟩) (fun _ _ e => e) (fun _ _ _ e => e) (fun b ps e => ⟨#[], by rw [e]; simp⟩) (fun m hm => ?_) (fun b u e => ?_) I.bare
  · obtain ⟨o, es, ep, ho, r⟩ := hm
    exact ⟨o, es, ep, m1 _ o (fun z => (hz _ z).2.1 rfl) ho, r⟩
  · refine (I.hok b u e).stay (fun c v hc q => m1 c v ?_ q) (fun _ q => q) fun _ _ q => q
    rcases hc with z | z
    · rw [z]; exact nz b u e
    · exact nz c _ z
theorem vals_back : ∀ {ys : List V} {us : List Value} {ns : List Int}, Vals ys us → IntsAre us ns → ys = ns.map V.int := by
  intro ys us ns r
  induction r generalizing ns with
  | nil =>
    intro h
    cases h
    rfl
  | cons r rs ih =>
    intro h
    cases h with
    | cons n t h =>
      rename_i y ys us ns
      have e : y = V.int n := by
        cases y with
        | int m =>
          obtain ⟨t', e⟩ := r
          cases e
          rfl
        | non => cases r
        | bl b => cases r
        | ref a => cases r
        | ty a => cases r
        | str a => exact r.elim fun _ e => nomatch e
        | byt a => exact r.elim fun _ e => nomatch e
        | flt a => exact r.elim fun _ e => nomatch e
      rw [ih h, e]
      rfl
theorem vals_at : ∀ {xs : List V} {us : List Value} {i : Nat} {u : Value}, Vals xs us → us[i]? = some u → ∃ x, xs[i]? = some x ∧ RelV x u
  | _, _, i, u, .nil, h => by
    rw [List.getElem?_nil] at h
    cases h
  | _, _, 0, u, .cons r rs, h => by
    cases h
    exact ⟨_, rfl, r⟩
  | _, _, i + 1, u, .cons r rs, h => vals_at (i := i) rs h
end
def btL (kf : Nat → List Int) (i j : Nat) : Bool := Ob.lexAt (fun a => decide ((kf i).getD a 0 = (kf j).getD a 0)) (fun a => decide ((kf j).getD a 0 < (kf i).getD a 0)) (decide ((kf i).length > (kf j).length)) 0 (min (kf i).length (kf j).length)
def rMaxL (K : PySem.W.Frag) (q : Str) (params : Arguments) (body : Expr) (scope : Scope) (N : List Str) (tb : TE) : List V → List V → Hp → VK → Prop := fun vs zs H Q => ∃ (l f c' : Addr) (pm ctv : Value) (xs : List V) (kf : Nat → List Int), vs = [.ref l] ∧ zs = [.ref f] ∧ SqL K H l xs ∧ 0 < xs.length ∧ H f = some (LamO f (PySem.W.kla_obj "<lambda>" q params body scope [] pm c' ctv)) ∧ H c' = some (CodeO c' q) ∧
  (∀ i x, xs[i]? = some x → ∀ H1, Ex H H1 → ∀ Q' : VK, (∀ t, H1 t = none → Q' (.ref t) (upd H1 t (.tup ((kf i).map V.int)))) → tb (start N [x]) H1 Q') ∧ ∀ x H1, xs[argBest (btL kf) (xs.length - 1)]? = some x → Ex H H1 → Q x H1
theorem cmp_tups {A : Around} {s : Shared} {a b : Addr} {its its2 : List Value} {ns ms : List Int} (i1 : IntsAre its ns) (i2 : IntsAre its2 ms) (p1 : s.heap.IsTuple a its.toArray) (p2 : s.heap.IsTuple b its2.toArray) (hu : A.units < cLine) :
    Ob.RcOp .Gt A s (.ref a) (.ref b) (Ob.lexAt (fun j => decide (ns.getD j 0 = ms.getD j 0)) (fun j => decide (ms.getD j 0 < ns.getD j 0)) (decide (ns.length > ms.length)) 0 (min ns.length ms.length)) := by
  have e1 : its.toArray.size = ns.length := by rw [List.size_toArray]; exact i1.length
  have e2 : its2.toArray.size = ms.length := by rw [List.size_toArray]; exact i2.length
  have a1 : ∀ j (h : j < its.toArray.size), ∃ t, its.toArray[j] = .int (ns.getD j 0) t := fun j h => PyProof.Rows.IntsAre.int_at i1 _ _ (by simp at h; simp [h])
  have a2 : ∀ j (h : j < its2.toArray.size), ∃ t, its2.toArray[j] = .int (ms.getD j 0) t := fun j h => PyProof.Rows.IntsAre.int_at i2 _ _ (by simp at h; simp [h])
  have R := Ob.RcOp.tuples_gt (A := A) (s := s) (e := fun j => decide (ns.getD j 0 = ms.getD j 0)) (r := fun j => decide (ms.getD j 0 < ns.getD j 0)) p1 p2 hu (fun j h1 h2 => by
    obtain ⟨t, et⟩ := a1 j h1
    obtain ⟨t', et'⟩ := a2 j h2
    rw [et, et']
    have z : (ns.getD j 0 == ms.getD j 0) = decide (ns.getD j 0 = ms.getD j 0) := by
      rw [Bool.eq_iff_iff, beq_iff_eq, decide_eq_true_iff]
    rw [← z]
    exact SeqAt.EqAt.int_int _ _ _ _) (fun j h1 h2 _ => by
    obtain ⟨t, et⟩ := a1 j h1
    obtain ⟨t', et'⟩ := a2 j h2
    rw [et, et']
    exact Ob.RcOp.gt_int _ _ _ _)
  rw [e1, e2] at R
  exact R
theorem tup_keep {h h' : Heap} {a : Addr} {items : Array Value} (x : h.IsTuple a items) (k : ∀ o, h.get? a = some o → h'.get? a = some o) : h'.IsTuple a items := by
  obtain ⟨o, h1, h2⟩ := x
  exact ⟨o, k o h1, h2⟩
theorem cr_maxL {X : Cx} {k : Nat} {q : Str} {params : Arguments} {body : Expr} {scope : Scope} {N : List Str} {y : Str} {tb : TE} (S : FnScope N [y] scope) (hbind : ∀ (pm cv ctv u : Value), bindArgs (PySem.W.kla_fn "<lambda>" q params body scope [] pm cv ctv) ⟨[u], []⟩ = pure [(y, u)])
    (hbody : ∀ (A : Around) (outer : List Env) (s : Shared) (H : Hp) (f : Addr) (cv : Value), Room k (A.deeper (envOfC q scope s.heap.objs.size f cv)) → PE (cxOf C8.CX0 X.prog X.w X.K X.mg X.base N q scope f cv A outer s H C8.E0) body tb) (hr : Room (k + 2) X.A) :
    CallRK X (.builtin "max") [Str.ofString "key"] (rMaxL X.K q params body scope N tb) := by
  intro pins s σ H vs zs us ws Q I r1 r2 h
  obtain ⟨l, f, c', pm, ctv, xs, kf, rfl, rfl, hs, h0, hf, hc, hk, q1⟩ := h
  rw [Vals.ref1 r1, Vals.ref1 r2]
  show wpAny _ X.A (call (.builtin "max") [.ref l] [(Str.ofString "key", .ref f)]) _ _ s
  refine call_max_walkK ?_
  obtain ⟨its, rv, hl, _⟩ := I.list hs
  refine wpAny_pyIter_list hl.isList ?_
  generalize hs2 : ({ s with heap := s.heap.push { cls := .type "list_iterator", data := .fields #[.ref l, .int 0 0] } } : Shared) = s2
  have sz2 : s2.heap.objs.size = s.heap.objs.size + 1 := by rw [← hs2]; exact Heap.size_push _ _
  have kp2 : ∀ b o, s.heap.get? b = some o → s2.heap.get? b = some o := fun b o e => by rw [← hs2]; exact Heap.get?_push_of_some _ e
  have J2 : Inv X pins σ H s2 := by rw [← hs2]; exact I.kept fun b o e => Heap.get?_push_of_some _ e
  have hIt : s2.heap.IsListIter s.heap.objs.size l 0 := by rw [← hs2]; exact ⟨_, Heap.get?_push_size _ rfl, rfl, rfl⟩
  have nI := inv_new I (Nat.le_refl s.heap.objs.size)
  have nS := inv_new I (b := s2.heap.objs.size) (by omega)
  have llt : l < s.heap.objs.size := hl.isList.elim fun o z => Heap.lt_size z.1
  have lI : l ≠ s.heap.objs.size := Nat.ne_of_lt llt
  have IS : s.heap.objs.size ≠ s2.heap.objs.size := by omega
  have lt1 : s.heap.objs.size < s2.heap.objs.size := by omega
  have lt2 : l < s2.heap.objs.size := Nat.lt_trans llt lt1
  generalize hSS : s2.heap.objs.size = SS at nS IS lt1 lt2 ⊢
  generalize hII : s.heap.objs.size = II at nI IS lI hIt lt1 ⊢
  let JH : Hp → Shared → Prop := fun H' s' => Inv X pins σ H' s' ∧ Ex H H' ∧ (∀ b, H b = none → H' b = none ∨ ∃ ys, H' b = some (.tup ys)) ∧ H' II = none ∧ H' SS = none
  let St : Nat → Shared → Prop := fun i s' => ∃ its, Vals xs its ∧ s'.heap.IsListIter II l i ∧ s'.heap.IsList l its.toArray
  let VV : Nat → Value → Shared → Prop := fun i k' s' => ∃ t its, k' = .ref t ∧ IntsAre its (kf i) ∧ s'.heap.IsTuple t its.toArray ∧ t ≠ II ∧ t ≠ SS ∧ t ∉ frs X.stack ∧ H t = none
  have W : WalksS X.prog X.w X.A.in1 II [II, l] [II] (fun a b => b = a) xs.length (fun i v => ∃ x, xs[i]? = some x ∧ RelV x v) St := by
    have WL := fun items : Array Value => (Walks.list (prog := X.prog) (w := X.w) (A := X.A.in1) hr.in1.hd II l lI items).toS
    have szE : ∀ {its : List Value}, Vals xs its → its.toArray.size = xs.length := fun r => by rw [List.size_toArray]; exact r.length.symm
    have atE : ∀ {its : List Value} {i : Nat} {v : Value}, Vals xs its → its.toArray[i]? = some v → ∃ x, xs[i]? = some x ∧ RelV x v := fun r e => by
      rw [List.getElem?_toArray] at e
      exact vals_at r e
    exact ⟨(WL #[]).sub, (WL #[]).grefl, (WL #[]).gtrans, fun i s h' tk ⟨its, r, a, b⟩ ht hk => ⟨its, r, (WL _).frame i s h' tk ⟨a, b⟩ ht hk⟩,
      fun i s Q E hi ⟨its, r, a, b⟩ hQ => (WL its.toArray).item i s Q E (by rw [szE r]; exact hi) ⟨a, b⟩ fun v s' hv st m => hQ v s' (atE r hv) ⟨its, r, st.1, st.2⟩ m,
      fun s Q E ⟨its, r, a, b⟩ hQ => (WL its.toArray).done s Q E (by rw [szE r]; exact ⟨a, b⟩) hQ,
      fun i s Q E ⟨its, r, a, b⟩ hQ => (WL its.toArray).self i s Q E ⟨a, b⟩ hQ⟩
  have hZ : ∀ b ∈ [SS, II], X.s_0.heap.objs.size ≤ b ∧ b ≠ X.env.locals ∧ (∀ x c, X.env.cells.lookup x = some c → c ≠ b) ∧ (∀ p ∈ X.pn ++ pins, p.1 ≠ b) ∧ b ∉ frs X.stack := fun b hb => by
    rcases List.mem_cons.mp hb with rfl | hb
    · exact ⟨nS.1, nS.2.1, nS.2.2.1, nS.2.2.2.1, nS.2.2.2.2.1⟩
    · rw [List.mem_singleton.mp hb]
      exact ⟨nI.1, nI.2.1, nI.2.2.1, nI.2.2.2.1, nI.2.2.2.2.1⟩
  refine ⟨II, [II, l], [II], fun a b => b = a, xs.length, _, St, (fun s' => ∃ H', JH H' s'), VV, btL kf, rfl, W, ⟨its, rv, hIt, ?_⟩, fun b hb => ?_, h0, ⟨?keep, ?keepV, ?turn, ?cmp⟩, ⟨H, J2, Ex.refl H, fun b hb => .inl hb, nI.2.2.2.2.2, nS.2.2.2.2.2⟩, fun v s' ⟨x, hx, rx⟩ ⟨H', I', e', _⟩ => ⟨x, H', I', rx, q1 x H' hx e'⟩⟩
  case keep =>
    intro s1 s3 ⟨H', I', e', dt, n1, n2⟩ m
    exact ⟨H', inv_moved I' m hZ (fun b hb => by
      rcases List.mem_cons.mp hb with rfl | hb
      · exact n2
      · rw [List.mem_singleton.mp hb]; exact n1), e', dt, n1, n2⟩
  case keepV =>
    intro i k' s1 s3 ⟨t, its, e, hi, ht, n1, n2, n3, n4⟩ m
    exact ⟨t, its, e, hi, tup_keep ht fun o z => m.heap t o (fun z => by
      rcases List.mem_cons.mp z with z | z
      · exact n2 z
      · exact n1 (List.mem_singleton.mp z)) z, n1, n2, n3, n4⟩
  case cmp =>
    intro i j ki kj s1 Q E _ ⟨t, its, e, hi, ht, _⟩ ⟨t', its', e', hi', ht', _⟩ hq
    rw [e, e']
    exact cmp_tups hi hi' ht ht' hr.in1.units0 _ _ _ _ hq
  case turn =>
    intro i v s1 o Q E hi ⟨x, hx, rx⟩ ⟨H', I', e', dt, n1, n2⟩ ⟨its1, rv1, hit1, hl1⟩ hS kk
    have hfo : s1.heap.get? f = some (PySem.W.kla_obj "<lambda>" q params body scope [] pm c' ctv) := (I'.hok f _ (e' f _ hf)).1
    refine wpAny_call (codeAny_mono (lam_run (A := X.A.in1) (H := H') S hbind hbody hr.in1 I'.env0.in1 hfo (e' c' _ hc) rx (hk i x hx H' e' (fun v H2 => ∃ t, v = .ref t ∧ H' t = none ∧ H2 = upd H' t (.tup ((kf i).map V.int))) fun t nt => ⟨t, rfl, nt, rfl⟩)) fun r s3 hq => ?_)
    cases r with
    | error e => exact (show False from hq).elim
    | ok fl =>
      cases fl with
      | next => exact False.elim hq
      | brk => exact False.elim hq
      | cont => exact False.elim hq
      | ret u =>
        obtain ⟨v', H2, os, bare, un, hok, rv', t, rfl, nt, rfl⟩ := hq
        obtain rfl : u = Value.ref t := rv'
        have I2 : Inv X pins σ (upd H' t (.tup ((kf i).map V.int))) s3 := by
          obtain ⟨hh, g, d, tk, os'⟩ := s3
          obtain rfl : os' = s1.os := os
          exact I'.call (h' := hh) (g' := g) (d' := d) (t' := tk) (ch := []) un hok bare (fun b z => absurd z (by simp))
        have new : ∀ b o, s1.heap.get? b = some o → H' b = none → b ≠ t := fun b o e n z => by
          have := un.free b o e n (by simp)
          rw [z, upd_same] at this
          cases this
        have keep : ∀ b o, s1.heap.get? b = some o → H' b = none → b ∉ frs X.stack → s3.heap.get? b = some o := fun b o e n nf => un.keep b o e n nf (by simp)
        obtain ⟨oI, eI, _⟩ := id hit1
        have tI := new II oI eI n1
        have tS := new SS o hS n2
        have nf : t ∉ frs X.stack := fun z => by
          obtain ⟨_, oz, ez, _⟩ := Heap.FunFrames.mem I'.stack z
          exact new t oz ez nt rfl
        have nHt : H t = none := by
          cases h : H t with
          | none => rfl
          | some o =>
            rw [e' t o h] at nt
            cases nt
        obtain ⟨its2, rv2, hl2, _⟩ := I2.list (ex_l (e'.trans (Ex.new nt)) hs)
        obtain ⟨_, its3, rv3, tp3⟩ := hok t _ upd_same
        refine kk _ s3 ⟨_, I2, e'.trans (Ex.new nt), fun b hb => ?_, by rw [upd_ne tI]; exact n1, by rw [upd_ne tS]; exact n2⟩ ⟨its2, rv2, hit1.at fun o z => keep II o z n1 nI.2.2.2.2.1, hl2.isList⟩ (keep SS o hS n2 nS.2.2.2.2.1) ⟨t, its3, rfl, Vals.ints rv3, tp3, tI.symm, tS.symm, nf, nHt⟩ fun j k' ⟨t', its', ek, hi', ht', m1, m2, m3, m4⟩ => ?_
        · by_cases hbt : b = t
          · exact .inr ⟨_, by rw [hbt, upd_same]⟩
          · rw [upd_ne hbt]
            exact dt b hb
        · rcases dt t' m4 with z | ⟨ys, z⟩
          · exact ⟨t', its', ek, hi', tup_keep ht' fun o e => keep t' o e z m3, m1, m2, m3, m4⟩
          · obtain ⟨_, its0, rv0, ⟨o0, e0, _, k0, d0⟩⟩ := I'.hok t' _ z
            obtain ⟨o1, e1, _, k1, d1⟩ := id ht'
            rw [e0] at e1
            cases e1
            rw [d0] at d1
            have e2 : its0 = its' := by
              have := (Data.seq.injEq .. ▸ d1 : its0.toArray = its'.toArray ∧ k0 = k1).1
              exact congrArg Array.toList this
            subst e2
            have eys := vals_back rv0 hi'
            have tt : t' ≠ t := fun zz => by
              rw [zz, nt] at z
              cases z
            obtain ⟨_, its4, rv4, tp4⟩ := hok t' (.tup ys) (by rw [upd_ne tt]; exact z)
            rw [eys] at rv4
            exact ⟨t', its4, ek, Vals.ints rv4, tp4, m1, m2, m3, m4⟩
  · exact hl.isList.elim fun o z => ⟨o, kp2 _ _ z.1, z.2⟩
  · rcases List.mem_cons.mp hb with rfl | hb
    · exact lt1
    · rw [List.mem_singleton.mp hb]
      exact lt2
theorem pe_maxlam {X : Cx} {k : Nat} {c P : Addr} {ex : Expr} {te tb : TE} {params : Arguments} {body : Expr} {scope : Scope} {p pos lpos kpos : Pos} {N : List Str} {y : Str} (TB : TabB X.base X.mg c P) (hcode : X.env.code = .ref c) (hdef : defaultsOf params X.env = ([], [])) (hclo : cloFrom X.env.cells scope.names [] = []) (S : FnScope N [y] scope)
    (hbind : ∀ (pm cv ctv u : Value), bindArgs (PySem.W.kla_fn "<lambda>" (X.env.qual ++ "<lambda>") params body scope [] pm cv ctv) ⟨[u], []⟩ = pure [(y, u)])
    (hbody : ∀ (A : Around) (outer : List Env) (s : Shared) (H : Hp) (f : Addr) (cv : Value), Room k (A.deeper (envOfC (X.env.qual ++ "<lambda>") scope s.heap.objs.size f cv)) → PE (cxOf C8.CX0 X.prog X.w X.K X.mg X.base N (X.env.qual ++ "<lambda>") scope f cv A outer s H C8.E0) body tb) (hr : Room (k + 2) X.A)
    (hx : PE X ex te) (hg : Gl X "max") (hm : X.mg "max" = none) (hs : starEach [ex] X.env = (false, eval ex X.env) :: starEach [] X.env := by rfl) (he : backTo pos (starEach [ex] X.env) = (false, eval ex X.env) :: backTo pos (starEach [] X.env) := by rfl) (hpl : (backTo pos (starEach [ex] X.env)).any (·.1) = false := by rfl) :
    PE X (.Call (.Name "max" p) [ex] [⟨some "key", .Lambda params body scope lpos, kpos⟩] pos) (tCKw (rMaxL X.K (X.env.qual ++ "<lambda>") params body scope N tb) (tCons te tNil) (tCons (tLamM P (X.env.qual ++ "<lambda>") fun pm c' ctv => PySem.W.kla_obj "<lambda>" (X.env.qual ++ "<lambda>") params body scope [] pm c' ctv) tNil)) :=
  pe_callBK (cr_maxL S hbind hbody hr) hg hm (by rfl) (pa_cons hx pa_nil hs) (pk_cons (pe_lamM TB hcode hdef S.nofree hclo) pk_nil) (by decide) (by decide) he hpl
end LamP
namespace L2
open PySem PySem.Spec PyProof.Rows
theorem Fun.okXC {P : Program} {w : World} {K : PySem.W.Frag} {mg : Str → Option Value} {base : Heap} {x qual : Str} {st : Stmt} {f c : Addr} {fd : FuncData} {N ps : List Str} {k : Nat} {sp : Sp} (F : Fun K x qual st f fd) (hc : fd.code = .ref c) (S : FnScope N ps (defScope st)) (len : ∀ vs H Q E, sp vs H Q E → vs.length = ps.length)
    (hbody : ∀ (A : Around) (outer : List Env) (s : Shared) (H : Hp) (vs : List V) (Q : VK) (E : XK), Room k (A.deeper (envOfC qual (defScope st) s.heap.objs.size f (.ref c))) → sp vs H Q E →
      ∃ t, PSs (cxOf (L2.CX P w) P w K mg base N qual (defScope st) f (.ref c) A outer s H E) (defBody st) t ∧ t { nx := fun _ H' => Q .non H', rt := Q } (start N vs) H) : FnOk P w K mg base (L2.CX P w) (k + 1) f fd ps sp := by
  obtain ⟨oc, od, kV, doc, pm, an, cdv, ct, osl, rfl, lk, hcd⟩ := F.ex
  obtain rfl : cdv = .ref c := hc
  exact fn_of lk hcd S len fun A outer s H vs Q E hr hsp => hbody A outer s H vs Q E hr hsp
end L2
set_option Elab.async false
set_option linter.all false
set_option maxRecDepth 100000
namespace Ap
open PySem PySem.Spec PyProof.Rows L2 Evl
section
variable {K : PySem.W.Frag} {σ : L2.St} {H H' : Hp} {ta tb tc te : TE} {t u : TT} {x y z v w : V}
theorem et_orF (h1 : EvT t σ H false) (h2 : EvT u σ H false) : EvT (tOr t u) σ H false := et_or (a := false) (b := false) h1 (fun _ => h2)
theorem et_andT (h1 : EvT t σ H true) (h2 : EvT u σ H true) : EvT (tAnd t u) σ H true := et_and (a := true) (b := true) h1 (fun _ => h2)
theorem et_nt (h : EvT t σ H true) : EvT (tNot t) σ H false := et_not h
theorem et_nf (h : EvT t σ H false) : EvT (tNot t) σ H true := et_not h
theorem ev_andT (h1 : Ev ta σ H (.bl true)) (h2 : Ev tb σ H (.bl true)) : Ev (tAndV ta tb) σ H (.bl true) := ev_andV (a := true) (b := true) h1 (fun _ => h2)
theorem ev_orF (h1 : Ev ta σ H (.bl false)) (h2 : Ev tb σ H (.bl false)) : Ev (tOrV ta tb) σ H (.bl false) := ev_orV (a := false) (b := false) h1 (fun _ => h2)
theorem ev_nt (h : Ev ta σ H (.bl true)) : Ev (tNotV ta) σ H (.bl false) := ev_notV h
theorem ev_nf (h : Ev ta σ H (.bl false)) : Ev (tNotV ta) σ H (.bl true) := ev_notV h
theorem rc_isiI : RC (rIsi K) [.int x', .ty "int"] H (.bl true) := rc_isi (X := "int") (fun _ => .base (.int _)) (by decide +kernel)
theorem rc_isiIB : RC (rIsi K) [.int x', .ty "bool"] H (.bl false) := rc_isi (X := "int") (fun _ => .base (.int _)) (by decide +kernel)
theorem rc_isiB : RC (rIsi K) [.bl x', .ty "bool"] H (.bl true) := rc_isi (X := "bool") (fun _ => .base (.bl _)) (by decide +kernel)
theorem rc_isiBI : RC (rIsi K) [.bl x', .ty "int"] H (.bl true) := rc_isi (X := "bool") (fun _ => .base (.bl _)) (by decide +kernel)
theorem rv_eqI {i j : Int} : RV rEq (.int i) (.int j) H (.bl (decide (i = j))) := by
  have h := rv_eq (x := .int i) (y := .int j) (H := H) rfl
  have e : decide (V.int i = V.int j) = decide (i = j) := by
    by_cases q : i = j
    · rw [decide_eq_true q, decide_eq_true (by rw [q])]
    · rw [decide_eq_false q, decide_eq_false (fun h => q (V.int.inj h))]
  rwa [e] at h
theorem rv_neI {i j : Int} : RV rNe (.int i) (.int j) H (.bl (!decide (i = j))) := by
  have h := rv_ne (x := .int i) (y := .int j) (H := H) rfl
  have e : decide (V.int i = V.int j) = decide (i = j) := by
    by_cases q : i = j
    · rw [decide_eq_true q, decide_eq_true (by rw [q])]
    · rw [decide_eq_false q, decide_eq_false (fun h => q (V.int.inj h))]
  rwa [e] at h
end
end Ap
set_option Elab.async false
set_option linter.all false
set_option maxRecDepth 100000
namespace Ap
open PySem PySem.Spec PyProof.Rows L2 Evl
structure MP where
  p : Hp → Hp → Prop
  m : ∀ B B' H H', Ex B B' → Ex H H' → p B H → p B' H'
def cutIn (S : Addr → Bool) (H : Hp) : Hp := fun a => if S a = true then H a else none
theorem cutIn_ex {S : Addr → Bool} {H H' : Hp} (e : Ex H H') : Ex (cutIn S H) (cutIn S H') := fun a o h => by
  unfold cutIn at h ⊢
  split at h
  · rename_i q
    rw [if_pos q]
    exact e a o h
  · cases h
theorem cutIn_sub {S : Addr → Bool} {H : Hp} : Ex (cutIn S H) H := fun a o h => by
  unfold cutIn at h
  split at h
  · exact h
  · cases h
theorem cutIn_at {S : Addr → Bool} {H : Hp} {a : Addr} {o : HO} (h : cutIn S H a = some o) : S a = true ∧ H a = some o := by
  unfold cutIn at h
  split at h
  · rename_i q
    exact ⟨q, h⟩
  · cases h
theorem cutIn_yes {S : Addr → Bool} {H : Hp} {a : Addr} (h : S a = true) : cutIn S H a = H a := by
  unfold cutIn
  rw [if_pos h]
theorem cutIn_no {S : Addr → Bool} {H : Hp} {a : Addr} (h : S a = false) : cutIn S H a = none := by
  unfold cutIn
  rw [if_neg (by rw [h]; decide)]
def Emp : MP := ⟨fun _ _ => True, fun _ _ _ _ _ _ _ => trivial⟩
def Pt (a : Addr) (o : HO) : MP := ⟨fun _ H => H a = some o, fun _ _ _ _ _ e h => e _ _ h⟩
def Star (P Q : MP) : MP := ⟨fun B H => ∃ S : Addr → Bool, P.p B (cutIn S H) ∧ Q.p B (cutIn (fun a => !S a) H), fun _ _ _ _ b e ⟨S, h1, h2⟩ => ⟨S, P.m _ _ _ _ b (cutIn_ex e) h1, Q.m _ _ _ _ b (cutIn_ex e) h2⟩⟩
def Stars : List MP → MP
  | [] => Emp
  | P :: l => Star P (Stars l)
theorem cut_cut {S T : Addr → Bool} {H : Hp} : cutIn S (cutIn T H) = cutIn (fun a => T a && S a) H := by
  funext a
  unfold cutIn
  cases hs : S a <;> cases ht : T a <;> simp [hs, ht]
theorem cut_all {H : Hp} : cutIn (fun _ => true) H = H := funext fun a => cutIn_yes rfl
theorem star_l {P Q : MP} {B H : Hp} (h : (Star P Q).p B H) : P.p B H := by
  obtain ⟨S, h1, h2⟩ := h
  exact P.m _ _ _ _ (Ex.refl B) cutIn_sub h1
theorem star_mono {P P' Q Q' : MP} {B H : Hp} (hp : ∀ H, P.p B H → P'.p B H) (hq : ∀ H, Q.p B H → Q'.p B H) (h : (Star P Q).p B H) : (Star P' Q').p B H := by
  obtain ⟨S, h1, h2⟩ := h
  exact ⟨S, hp _ h1, hq _ h2⟩
theorem star_swap {P Q R : MP} {B H : Hp} (h : (Star P (Star Q R)).p B H) : (Star Q (Star P R)).p B H := by
  obtain ⟨S, h1, T, h2, h3⟩ := h
  rw [cut_cut] at h2 h3
  refine ⟨fun a => !S a && T a, h2, fun a => S a, ?_, ?_⟩
  · rw [cut_cut]
    refine P.m _ _ _ _ (Ex.refl B) (fun a o h => ?_) h1
    obtain ⟨q, h⟩ := cutIn_at h
    rw [cutIn_yes (by show (!(!S a && T a) && S a) = true; rw [q]; rfl)]
    exact h
  · rw [cut_cut]
    refine R.m _ _ _ _ (Ex.refl B) (fun a o h => ?_) h3
    obtain ⟨q, h⟩ := cutIn_at h
    have q : (!S a && !T a) = true := q
    rw [cutIn_yes (by
      show (!(!S a && T a) && !S a) = true
      cases hs : S a <;> cases ht : T a <;> rw [hs, ht] at q <;> first | rfl | cases q)]
    exact h
theorem stars_pull : ∀ (l : List MP) (i : Nat) {B H : Hp} {P : MP}, l[i]? = some P → (Stars l).p B H → (Stars (P :: l.eraseIdx i)).p B H
  | [], i, _, _, _, e, _ => by simp at e
  | Q :: l, 0, _, _, _, e, h => by
    cases (show some Q = some _ from e)
    exact h
  | Q :: l, i + 1, _, _, P, e, h => star_swap (star_mono (P := Q) (Q := Stars l) (Q' := Stars (P :: l.eraseIdx i)) (fun _ h => h) (fun _ h => stars_pull l i (by simpa using e) h) h)
theorem stars_put : ∀ (l : List MP) (i : Nat) {B H : Hp} {P P' : MP}, l[i]? = some P → (Stars (P' :: l.eraseIdx i)).p B H → (Stars (l.set i P')).p B H
  | [], i, _, _, _, _, e, _ => by simp at e
  | Q :: l, 0, _, _, _, _, e, h => h
  | Q :: l, i + 1, _, _, P, P', e, h => star_mono (P := Q) (Q := Stars (P' :: l.eraseIdx i)) (Q' := Stars (l.set i P')) (fun _ h => h) (fun _ h => stars_put l i (P := P) (by simpa using e) h) (star_swap h)
theorem stars_at {l : List MP} {i : Nat} {B H : Hp} {P : MP} (e : l[i]? = some P) (h : (Stars l).p B H) : P.p B H := star_l (stars_pull l i e h)
/-- the base (what never changes), and what stands apart from it -/
def At (B : Hp) (l : List MP) (H : Hp) : Prop := ∃ S : Addr → Bool, Ex B (cutIn S H) ∧ (Stars l).p B (cutIn (fun a => !S a) H)
section
variable {K : PySem.W.Frag} {B H H1 : Hp} {l l' : List MP} {P Q : MP} {i : Nat} {a p : Addr} {o u : HO}
theorem at_map (f : ∀ H, (Stars l).p B H → (Stars l').p B H) (h : At B l H) : At B l' H := by
  obtain ⟨S, h1, h2⟩ := h
  exact ⟨S, h1, f _ h2⟩
theorem at_base (h : At B l H) : Ex B H := by
  obtain ⟨S, h1, h2⟩ := h
  exact h1.trans cutIn_sub
theorem at_ex (h : At B l H) (e : Ex H H1) : At B l H1 := by
  obtain ⟨S, h1, h2⟩ := h
  exact ⟨S, h1.trans (cutIn_ex e), (Stars l).m _ _ _ _ (Ex.refl B) (cutIn_ex e) h2⟩
theorem at_p (i : Nat) (e : l[i]? = some P) (h : At B l H) : P.p B H := by
  obtain ⟨S, h1, h2⟩ := h
  exact P.m _ _ _ _ (Ex.refl B) cutIn_sub (stars_at e h2)
theorem at_get (i : Nat) (e : l[i]? = some (Pt a o)) (h : At B l H) : H a = some o := at_p i e h
theorem upd_cut {S : Addr → Bool} (hS : S a = false) : cutIn S (upd H a o) = cutIn S H := by
  funext b
  by_cases q : b = a
  · rw [q, cutIn_no hS, cutIn_no hS]
  · unfold cutIn
    rw [upd_ne q]
/-- what stands at one of the places is written -/
theorem star_upd (h : (Star (Pt a o) P).p B H) : (Star (Pt a u) P).p B (upd H a u) := by
  obtain ⟨S, h1, h2⟩ := h
  have hs := (cutIn_at (show cutIn S H a = some o from h1)).1
  refine ⟨S, ?_, ?_⟩
  · show cutIn S (upd H a u) a = some u
    rw [cutIn_yes hs, upd_same]
  · rw [upd_cut (S := fun b => !S b) (by rw [hs]; rfl)]
    exact h2
theorem cut_upd {S : Addr → Bool} (hS : S a = true) : cutIn S (upd H a o) = upd (cutIn S H) a o := by
  funext b
  by_cases q : b = a
  · rw [q, cutIn_yes hS, upd_same, upd_same]
  · rw [upd_ne q]
    unfold cutIn
    rw [upd_ne q]
theorem at_upd (i : Nat) (e : l[i]? = some (Pt a o)) (h : At B l H) : At B (l.set i (Pt a u)) (upd H a u) := by
  obtain ⟨S, h1, h2⟩ := h
  have hs : (!S a) = true := (cutIn_at (show cutIn (fun a => !S a) H a = some o from stars_at e h2)).1
  have hs' : S a = false := by
    cases q : S a
    · rfl
    · rw [q] at hs; cases hs
  refine ⟨S, by rw [upd_cut hs']; exact h1, ?_⟩
  rw [cut_upd hs]
  exact stars_put l i e (star_upd (stars_pull l i e h2))
/-- something new -/
theorem star_new (h : P.p B H) (np : H p = none) (e : Ex H H1) (hp : H1 p = some o) : (Star (Pt p o) P).p B H1 := by
  refine ⟨fun a => decide (a = p), ?_, P.m _ _ _ _ (Ex.refl B) (fun a u h => ?_) h⟩
  · show cutIn (fun a => decide (a = p)) H1 p = some o
    rw [cutIn_yes (decide_eq_true rfl)]
    exact hp
  · have ne : a ≠ p := ne_of_none h np
    rw [cutIn_yes (by show (!decide (a = p)) = true; rw [decide_eq_false ne]; rfl)]
    exact e a u h
theorem at_new (h : At B l H) (np : H p = none) (e : Ex H H1) (hp : H1 p = some o) : At B (Pt p o :: l) H1 := by
  obtain ⟨S, h1, h2⟩ := h
  refine ⟨fun a => S a && !decide (a = p), fun a u ha => ?_, ?_⟩
  · obtain ⟨q, hh⟩ := cutIn_at (h1 a u ha)
    rw [cutIn_yes (by show (S a && !decide (a = p)) = true; rw [q, decide_eq_false (ne_of_none hh np)]; rfl)]
    exact e a u hh
  · refine star_new (P := Stars l) (H := cutIn (fun a => !S a) H) h2 ?_ (fun a u ha => ?_) ?_
    · unfold cutIn
      split
      · exact np
      · rfl
    · obtain ⟨q, hh⟩ := cutIn_at ha
      rw [cutIn_yes (by
        show (!(S a && !decide (a = p))) = true
        cases hs : S a
        · rfl
        · rw [hs] at q; cases q)]
      exact e a u hh
    · rw [cutIn_yes (by show (!(S p && !decide (p = p))) = true; rw [decide_eq_true rfl]; simp)]
      exact hp
/-- a new thing that belongs to the base from now on: all that is new does -/
theorem at_grow (h : At B l H) (e : Ex H H1) : At (ov B H H1) l H1 := by
  obtain ⟨S, h1, h2⟩ := h
  refine ⟨fun a => S a || (H a).isNone, ?_, (Stars l).m _ _ _ _ ov_base (fun a o ha => ?_) h2⟩
  · intro a o ha
    unfold ov at ha
    cases hb : B a with
    | some o' =>
      rw [hb] at ha
      have hc := h1 a o' hb
      obtain ⟨q, hh⟩ := cutIn_at hc
      rw [cutIn_yes (by show (S a || (H a).isNone) = true; rw [q]; rfl), ← ha]
      exact e a o' hh
    | none =>
      rw [hb] at ha
      cases h0 : H a with
      | some o' => rw [h0] at ha; cases ha
      | none =>
        rw [h0] at ha
        rw [cutIn_yes (by show (S a || (H a).isNone) = true; rw [h0]; simp)]
        exact ha
  · obtain ⟨q, hh⟩ := cutIn_at ha
    rw [cutIn_yes (by
      show (!(S a || (H a).isNone)) = true
      rw [hh]
      cases hs : S a
      · rfl
      · rw [hs] at q; cases q)]
    exact e a o hh
end
theorem stars_perm {l l' : List MP} (h : l.Perm l') : ∀ {B H : Hp}, (Stars l).p B H → (Stars l').p B H := by
  induction h with
  | nil => exact fun h => h
  | cons x _ ih => exact fun h => star_mono (P := x) (fun _ h => h) (fun _ h => ih h) h
  | swap x y l => exact fun h => star_swap h
  | trans _ _ ih1 ih2 => exact fun h => ih2 (ih1 h)
theorem at_perm {B H : Hp} {l l' : List MP} (p : l.Perm l') (h : At B l H) : At B l' H := at_map (fun _ h => stars_perm p h) h
theorem range_get {α : Type} (d : α) : ∀ l : List α, (List.range l.length).map (fun i => l.getD i d) = l := fun l => by
  refine List.ext_getElem (by simp) fun i h1 h2 => ?_
  simp [List.getD_eq_getElem?_getD, List.getElem?_eq_getElem h2]
theorem at_ix {B H : Hp} {l : List MP} (n : Nat) (is : List Nat) (h : At B l H) (hp : is.isPerm (List.range n) = true := by decide) (hn : n ≤ l.length := by simp) : At B (is.map (fun i => l.getD i Emp) ++ l.drop n) H := by
  refine at_perm ?_ h
  have p := List.isPerm_iff.mp hp
  have e : (List.range n).map (fun i => l.getD i Emp) = l.take n := by
    have e1 := range_get Emp (l.take n)
    rw [List.length_take, Nat.min_eq_left hn] at e1
    refine Eq.trans (List.map_congr_left fun i hi => ?_) e1
    have hi := List.mem_range.mp hi
    rw [List.getD_eq_getElem?_getD, List.getD_eq_getElem?_getD, List.getElem?_take_of_lt hi]
  have q := (p.map (fun i => l.getD i Emp)).append_right (l.drop n)
  rw [e, List.take_append_drop] at q
  exact q.symm
end Ap
set_option Elab.async false
set_option linter.all false
set_option maxRecDepth 100000
namespace Ap
open PySem PySem.Spec PyProof.Rows L2 Evl
structure Rr where
  r : V → Hp → Prop
  m : ∀ {v : V} {B B' : Hp}, Ex B B' → r v B → r v B'
section
variable {K : PySem.W.Frag} {σ : L2.St} {B B' H H' : Hp} {l l' : List MP} {ta tb te : TE} {t : TT} {x y v : V} {d : PyData} {ds : List PyData} {R R' : Rr} {P : MP} {i j : Nat} {a p : Addr} {o u : HO}
theorem at_tup {vs : List V} (hA : At B l H) (hp : H p = none) : Ex B (ov B H (upd H p (.tup vs))) ∧ At (ov B H (upd H p (.tup vs))) l (upd H p (.tup vs)) ∧ ov B H (upd H p (.tup vs)) p = some (.tup vs) :=
  ⟨ov_base, at_grow hA (Ex.new hp), ov_new (at_base hA) (Ex.refl H) hp⟩
variable {D : Ends} {tz tu tw : TS}
theorem qe_asg (hA : At B l H) (h : Ev te σ H x) (k : ∀ H1, At B l H1 → tz D (σ.set i (some x)) H1) : tSeq (tAsg te (gName i)) tz D σ H := q_asg h fun H1 e => k H1 (at_ex hA e)
end
/-- bounded, and no dict within -/
inductive Okn : Nat → PyData → Prop
  | non {n : Nat} : Okn n .none
  | bl {n : Nat} (b : Bool) : Okn n (.bool b)
  | int {n : Nat} (i : Int) : Okn n (.int i)
  | str {n : Nat} (x : Str) : Okn n (.str x)
  | lst {n : Nat} {ds : List PyData} (h : ds.length ≤ 50000) (hs : ∀ d, d ∈ ds → Okn n d) : Okn (n + 1) (.list ds)
  | tup {n : Nat} {ds : List PyData} (h : ds.length ≤ 50000) (hs : ∀ d, d ∈ ds → Okn n d) : Okn (n + 1) (.tuple ds)
theorem Okn.mono {n m : Nat} {d : PyData} (h : Okn n d) : n ≤ m → Okn m d := by
  induction h generalizing m with
  | non => exact fun _ => .non
  | bl b => exact fun _ => .bl b
  | int i => exact fun _ => .int i
  | str x => exact fun _ => .str x
  | lst h hs ih =>
    intro hl
    obtain ⟨k, rfl⟩ : ∃ k, m = k + 1 := ⟨m - 1, by omega⟩
    exact .lst h fun d hd => ih d hd (by omega)
  | tup h hs ih =>
    intro hl
    obtain ⟨k, rfl⟩ : ∃ k, m = k + 1 := ⟨m - 1, by omega⟩
    exact .tup h fun d hd => ih d hd (by omega)
/-- what an expression does, its value set to a name | dropped | tested -/
theorem q_do {σ : L2.St} {H : Hp} {D : Ends} {tz : TS} {te : TE} {i : Nat} (h : te σ H (fun v H' => tz D (σ.set i (some v)) H')) : tSeq (tAsg te (gName i)) tz D σ H := h
section
variable {K : PySem.W.Frag} {σ : L2.St} {H : Hp} {te ta tb : TE} {tr : TA} {v : V} {D : Ends} {tz : TS} {E : XK} {sp : Sp} {r : R2}
theorem go_cons {Q : List V → Hp → Prop} (h : Ev te σ H v) (k : ∀ H1, Ex H H1 → tr σ H1 fun xs H2 => Q (v :: xs) H2) : tCons te tr σ H Q := h H (Ex.refl H) _ k
theorem go_cons' {Q : List V → Hp → Prop} (h : te σ H fun v H1 => tr σ H1 fun xs H2 => Q (v :: xs) H2) : tCons te tr σ H Q := h
theorem go_nil {Q : List V → Hp → Prop} (h : Q [] H) : tNil σ H Q := h
theorem go_lst {Q : VK} (h : tr σ H fun xs H1 => xs.length ≤ sizeLine ∧ ∀ p, H1 p = none → Q (.ref p) (upd H1 p (.lst xs))) : tLst tr σ H Q := h
theorem go_tup {Q : VK} (h : tr σ H fun xs H1 => xs.length ≤ sizeLine ∧ ∀ p, H1 p = none → Q (.ref p) (upd H1 p (.tup xs))) : tTup tr σ H Q := h
theorem go_call {Q : VK} (h : tr σ H fun vs H1 => sp (vs ++ []) H1 Q E) : tCall sp [] E tr σ H Q := h
theorem go_op {Q : VK} (h : ta σ H fun x H1 => tb σ H1 fun y H2 => r x y H2 Q) : tOp r ta tb σ H Q := h
end
end Ap
set_option Elab.async false
set_option linter.all false
set_option maxRecDepth 100000
set_option Elab.async false
set_option linter.all false
set_option maxRecDepth 100000
set_option Elab.async false
set_option linter.all false
set_option maxRecDepth 100000
set_option Elab.async false
set_option linter.all false
set_option maxRecDepth 100000
set_option maxHeartbeats 2000000
namespace Ap
open PySem PySem.Spec PyProof.Rows L2 Evl
open He (ga ma eqO eqO_ok ba frG frG_in FnV)
section
variable {K : PySem.W.Frag} {h : Heap} {mg : Str → Option Value}
theorem hf_g {x : Str} (c : bG K x = true) : PySem.W.nsIn K mainGlobals x = some (some (.ref (ga K x))) := eqO_ok c
theorem hf_free (X : K.In h) (G : h.Ns mainGlobals mg) {x : Str} (c : bFree K x = true) : mg x = none := PySem.W.mg_none_of X G (eqO_ok c)
theorem hf_df (X : K.In h) (G : h.Ns mainGlobals mg) {x : Str} {st : Stmt} {ps : List Str} (c : bDf K x = true) (e : fnV K (ga K x) = fnD x x st)
    (hb : ∀ (kV doc pm : Value) (an : Option Addr) (cdv ct : Value) (us : List Value), us.length = ps.length → bindArgs (PySem.W.fnOf x x (defArgs st) (defBody st) (defScope st) .none kV doc pm an cdv ct) ⟨us, []⟩ = pure (ps.zip us)) : ∃ f fd, Df K mg x st ps f fd := by
  obtain ⟨c1, c2⟩ := ba c
  obtain ⟨c2, c3⟩ := ba c2
  obtain ⟨oc, od, osl, kV, doc, pm, an, cdv, ct, l, cc⟩ := hf_fn_got e c3
  exact df_mk X G (hf_g c1) l cc c2 hb
theorem hf_law (X : K.In h) (G : h.Ns mainGlobals mg) {st : Stmt} {fa : Addr} (hfa : mg "law" = some (.ref fa)) (c : bDf K "law" = true) (e : fnV K (ga K "law") = fnD "law" "law" st)
    (hb : ∀ (kV doc pm : Value) (an : Option Addr) (cdv ct : Value) (s : Shared) (v : Value), BindsTo s (PySem.W.fnOf "law" "law" (defArgs st) (defBody st) (defScope st) .none kV doc pm an cdv ct) ⟨[v], []⟩ [("script", v)]) :
    ∃ fd, (∀ (s : Shared) (v : Value), BindsTo s fd ⟨[v], []⟩ [("script", v)]) ∧ Fun K "law" "law" st fa fd := by
  obtain ⟨c1, c2⟩ := ba c
  obtain ⟨c2, c3⟩ := ba c2
  obtain ⟨oc, od, osl, kV, doc, pm, an, cdv, ct, l, cc⟩ := hf_fn_got e c3
  exact law_mk X G hfa (hf_g c1) l cc c2 hb
theorem hf_err (X : K.In h) (G : h.Ns mainGlobals mg) {x y : Str} (c : bErr K x y = true) : Err K mg x (ga K x) (ga K y) ∧ mg y = some (.ref (ga K y)) ∧ PySem.W.nsIn K mainGlobals x = some (some (.ref (ga K x))) := by
  obtain ⟨c1, c⟩ := ba c
  obtain ⟨c2, c⟩ := ba c
  obtain ⟨c3, c⟩ := ba c
  obtain ⟨c4, c⟩ := ba c
  obtain ⟨c5, c⟩ := ba c
  obtain ⟨c6, c⟩ := ba c
  obtain ⟨c7, c⟩ := ba c
  obtain ⟨c8, c⟩ := ba c
  obtain ⟨c9, c⟩ := ba c
  obtain ⟨c10, c⟩ := ba c
  obtain ⟨c11, c⟩ := ba c
  obtain ⟨c12, c⟩ := ba c
  obtain ⟨c13, c⟩ := ba c
  obtain ⟨c14, c⟩ := ba c
  obtain ⟨c15, c⟩ := ba c
  obtain ⟨c16, c⟩ := ba c
  obtain ⟨c17, c18⟩ := ba c
  obtain ⟨e1, e2⟩ := err_mk X G (hf_g c1) (hf_g c2) c3 c4 (of_decide_eq_true c5) (of_decide_eq_true c6) (of_decide_eq_true c7) (eqO_ok c8) (eqO_ok c9) c10 (eqO_ok c11) (eqO_ok c12) (of_decide_eq_true c13) (of_decide_eq_true c14) c15 (of_decide_eq_true c16) (of_decide_eq_true c17) (of_decide_eq_true c18)
  exact ⟨e1, e2, hf_g c1⟩
end
end Ap
set_option Elab.async false
set_option linter.all false
set_option maxRecDepth 100000
set_option maxHeartbeats 2000000
namespace Ap
open PySem PySem.Spec PyProof.Rows L2
open He (ga ba)
theorem dropF_get {K : PySem.W.Frag} {p a : Addr} {o : Obj} : (dropF K p).lookup a = some o → K.lookup a = some o ∧ a ≠ p := by
  induction K with
  | nil => intro h; cases h
  | cons x r ih =>
    obtain ⟨b, u⟩ := x
    unfold dropF
    rw [List.filter_cons]
    intro h
    by_cases hb : b = p
    · rw [if_neg (by simp [hb])] at h
      obtain ⟨h1, h2⟩ := ih h
      refine ⟨?_, h2⟩
      rw [List.lookup_cons]
      have : (a == b) = false := by rw [hb]; simpa using h2
      rw [this]
      exact h1
    · rw [if_pos (by simpa using hb)] at h
      rw [List.lookup_cons] at h ⊢
      by_cases ha : a = b
      · have : (a == b) = true := by simpa using ha
        rw [this] at h ⊢
        exact ⟨h, by rw [ha]; exact hb⟩
      · have : (a == b) = false := by simpa using ha
        rw [this] at h ⊢
        exact ih h
theorem dropF_in {K : PySem.W.Frag} {p : Addr} {h : Heap} (X : K.In h) : (dropF K p).In h := fun a o e => X a o (dropF_get e).1
theorem dropF_no {K : PySem.W.Frag} {p : Addr} : (dropF K p).lookup p = none := by
  cases h : (dropF K p).lookup p with
  | none => rfl
  | some o => exact absurd rfl (dropF_get h).2
theorem hf_tb {K : PySem.W.Frag} {p : Addr} {h : Heap} (X : K.In h) (c : bTb K p = true) : h.get? p = some { cls := .none, data := .fields #[] } := by
  unfold bTb at c
  split at c
  · rename_i us sl e
    obtain ⟨c1, c2⟩ := ba c
    have e1 : us = #[] := by
      obtain ⟨l⟩ := us
      cases l with
      | nil => rfl
      | cons _ _ => cases c1
    have e2 : sl = #[] := by
      obtain ⟨l⟩ := sl
      cases l with
      | nil => rfl
      | cons _ _ => cases c2
    subst e1 e2
    exact X _ _ e
  · cases c
theorem hf_co {K : PySem.W.Frag} {c p : Addr} {h : Heap} (X : K.In h) (z : bCo K c p = true) : PySem.W.CodeHd h c p := by
  unfold bCo at z
  split at z
  · rename_i T od vs sl e
    obtain ⟨w1, w2⟩ := ba z
    obtain ⟨w3, w4⟩ := ba w2
    have e1 : T = "code" := eq_of_beq w1
    subst e1
    unfold bVals at w3
    obtain ⟨y1, x2⟩ := ba w3
    obtain ⟨y2, x3⟩ := ba x2
    obtain ⟨y3, x4⟩ := ba x3
    obtain ⟨y4, y5⟩ := ba x4
    have hne : c ≠ p := by simpa using w4
    clear z w1 w2 w3 w4 x2 x3 x4
    split at y1
    · rename_i a ea
      have : a = p := eq_of_beq y1
      subst this
      split at y2
      · rename_i file tf e2
        split at y3
        · rename_i flags tg e3
          split at y4
          · rename_i inF e4
            split at y5
            · rename_i text tt e5
              exact ⟨_, vs, file, tf, flags, tg, inF, text, tt, X _ _ e, rfl, rfl, ea, by rw [Array.getD_eq_getD_getElem?, ea]; rfl, e2, e3, e4, e5, hne⟩
            · cases y5
          · cases y4
        · cases y3
      · cases y2
    · cases y1
  · cases z
theorem hf_cd {K : PySem.W.Frag} {mg : Str → Option Value} {x : Str} {p f : Addr} {h : Heap} {st : Stmt} {ps : List Str} {fd : FuncData} (X : K.In h) (G : h.Ns mainGlobals mg) (D : Df K mg x st ps f fd) (b : bDf K x = true) (z : bCd K x p = true) : ∃ c, fd.code = .ref c ∧ PySem.W.CodeHd h c p := by
  have hf : f = ga K x := by
    have e := PySem.W.mg_of X G (hf_g (ba b).1)
    rw [D.g] at e
    exact Value.ref.inj (Option.some.inj e)
  obtain ⟨oc, od, kV, doc, pm, an, cdv, ct, osl, rfl, lk, hcd⟩ := D.F.ex
  unfold bCd at z
  rw [← hf, lk] at z
  cases cdv with
  | ref c => exact ⟨c, rfl, hf_co X z⟩
  | _ => exact nomatch (show false = true from z)
end Ap
set_option Elab.async false
set_option linter.all false
set_option maxRecDepth 100000
set_option maxHeartbeats 4000000
namespace Ap
open PySem PySem.Spec PyProof.Rows L2 Evl PySem.W
local macro_rules | `(tactic| walk_at "sq") => `(tactic| first | assumption | (refine Evl.ex_l (by assumption) ?_; walk_at "sq"))
local macro_rules | `(tactic| walk_at "st") => `(tactic| first | assumption | (refine Evl.ex_t (by assumption) ?_; walk_at "st"))
local macro_rules | `(tactic| walk_at "ev") => `(tactic| (repeat' (first
  | (with_reducible first
    | exact ev_c
    | refine' ev_var ?_
    | exact ea_nil
    | refine' ea_cons ?_ ?_
    | refine' ev_op ?_ ?_ ?_
    | refine' ev_chain ?_ ?_ ?_ ?_ ?_
    | refine' ev_un ?_ ?_
    | exact rv_I0
    | refine' rv_I ?_
    | refine' ev_cb ?_ ?_
    | refine' ev_call ?_ ?_
    | exact rc_int
    | exact rc_max2
    | exact rc_min2
    | exact ru_neg
    | exact rc_isiI
    | exact rc_isiIB
    | exact rc_isiB
    | exact rc_isiBI
    | exact rv_eqI
    | exact rv_neI
    | refine' et_test ?_
    | refine' et_B ?_)
  | ((with_reducible show _ = _); rfl)
  | ((with_reducible show SqL _ _ _ _); walk_at "sq")
  | ((with_reducible show SqT _ _ _ _); walk_at "st")
  | ((with_reducible show CPow _ _); exact ⟨by decide, by decide, by decide⟩)
  | ((with_reducible show CDiv _ _); first | exact ⟨by decide, by decide⟩ | exact ⟨by omega, by omega⟩)
  | ((with_reducible show CMul _ _); first | exact .inr (by decide) | exact .inl (by decide) | exact .inr ⟨by omega, by omega⟩ | exact .inl ⟨by omega, by omega⟩)
  | ((with_reducible show SpV (spDraw _) _ _ _); refine' spDrawI ?_ ?_)
  | ((with_reducible show SpV _ _ _ _); walk_at "sp")
  | ((with_reducible show RC _ _ _ _); refine' rc_len ?_)
  | ((with_reducible show RV _ _ _ _ _); first | exact rv_eq rfl | exact rv_ne rfl | (refine' rv_ixL ?hq ?eq; (case hq => walk_at "sq"); (case eq => rfl)))
  | ((with_reducible show _ ≤ _); first | decide | omega)
  | ((with_reducible show _ < _); first | decide | omega)
  | decide)))
local macro_rules | `(tactic| walk_at "bo") => `(tactic| first | rfl | exact decide_eq_true (by omega) | exact decide_eq_false (by omega) | (rw [decide_eq_true (by omega)]; done) | (rw [decide_eq_false (by omega)]; done) | (simp; omega) | (simp; done))
local macro_rules | `(tactic| walk_at "tf") => `(tactic| first
  | ((with_reducible refine' et_orF ?_ ?_) <;> walk_at "tf")
  | ((with_reducible refine' et_andT ?_ ?_) <;> walk_at "tf")
  | ((with_reducible refine' et_nt ?_) <;> walk_at "tf")
  | ((with_reducible refine' et_nf ?_) <;> walk_at "tf")
  | (refine' et_is ?c ?d; (case c => walk_at "ev"); (case d => walk_at "bo")))
local macro_rules | `(tactic| walk_at "vt") => `(tactic| first
  | ((with_reducible refine' ev_andT ?_ ?_) <;> walk_at "vt")
  | ((with_reducible refine' ev_orF ?_ ?_) <;> walk_at "vt")
  | ((with_reducible refine' ev_nt ?_) <;> walk_at "vt")
  | ((with_reducible refine' ev_nf ?_) <;> walk_at "vt")
  | (refine' ev_is ?c ?d; (case c => walk_at "ev"); (case d => first | rfl | (refine congrArg V.bl ?_; walk_at "bo"))))
def topS (i : Nat) : Stmt := PySem.Challenge.pw_appendhall_k23_best_candidate.main.body.getD i (.Pass ⟨0, 0, 0, 0⟩)
abbrev s_best : Stmt := topS 4
abbrev N_best : List Str := ["candidates"]
theorem sc_best : FnScope N_best ["candidates"] (defScope s_best) := ⟨rfl, rfl, rfl, by decide +kernel, rfl, by decide +kernel, by decide +kernel⟩
abbrev s__law_stream : Stmt := topS 6
abbrev N__law_stream : List Str := ["script", "many", "draws", "cell", "rest", "k", "mixed"]
theorem sc__law_stream : FnScope N__law_stream ["script", "many"] (defScope s__law_stream) := ⟨rfl, rfl, rfl, by decide +kernel, rfl, by decide +kernel, by decide +kernel⟩
abbrev s__law_draw : Stmt := topS 7
abbrev N__law_draw : List Str := ["draws", "k"]
theorem sc__law_draw : FnScope N__law_draw ["draws", "k"] (defScope s__law_draw) := ⟨rfl, rfl, rfl, by decide +kernel, rfl, by decide +kernel, by decide +kernel⟩
abbrev s__law_best : Stmt := topS 8
abbrev N__law_best : List Str := ["candidates", "e"]
theorem sc__law_best : FnScope N__law_best ["candidates"] (defScope s__law_best) := ⟨rfl, rfl, rfl, by decide +kernel, rfl, by decide +kernel, by decide +kernel⟩
abbrev s__law_surpasses : Stmt := topS 9
abbrev N__law_surpasses : List Str := ["other", "chosen"]
theorem sc__law_surpasses : FnScope N__law_surpasses ["other", "chosen"] (defScope s__law_surpasses) := ⟨rfl, rfl, rfl, by decide +kernel, rfl, by decide +kernel, by decide +kernel⟩
abbrev s_law : Stmt := topS 10
abbrev N_law : List Str := ["script", "draws", "size", "journals", "k", "candidates", "draw", "epoch", "length", "handed", "answer", "chosen", "candidate"]
theorem sc_law : FnScope N_law ["script"] (defScope s_law) := ⟨rfl, rfl, rfl, by decide +kernel, rfl, by decide +kernel, by decide +kernel⟩
section
variable {P : Program} {w : World} {K : PySem.W.Frag} {mg : Str → Option Value} {base : Heap}
structure Glo (mg : Str → Option Value) : Prop where
  len : mg "len" = none
  int : mg "int" = none
  range : mg "range" = none
  max : mg "max" = none
  isinstance : mg "isinstance" = none
  bool : mg "bool" = none
  list : mg "list" = none
  ValueError : mg "ValueError" = none
theorem ok_draw {f : Addr} {fd : FuncData} {k : Nat} (F : Fun K "_law_draw" "_law_draw" s__law_draw f fd) (T : Glo mg) : FnOk P w K mg base CX0 (k + 1) f fd ["draws", "k"] (spDraw K) := by
  refine F.ok sc__law_draw (fun vs H Q E h => ?_) (fun cdv A outer s H vs Q E hr h => ?_)
  · obtain ⟨a, ds, k, rfl, _⟩ := h
    rfl
  · obtain ⟨a, ds, k, rfl, hS, q⟩ := h
    refine ⟨_, (pss_cons (ps_if (pt_cmpR op_lt (pv 1) (pe_callB call_len_seq (by rfl) T.len PySem.boot_len (pa_cons (pv 0) pa_nil)) (nomark _))
  (pss_one (ps_ret (pe_ix ix_list (pv 0) (pv 1) (fun _ _ => rfl))))
  pss_nil)
  (pss_one (ps_ret pe_int))), ?_⟩
    refine' q_when ?c (fun hb H1 e1 => ?_) (fun hb H1 e1 => ?_)
    case c => walk_at "ev"
    · have hb := of_decide_eq_true hb
      rw [List.length_map] at hb
      have hk : k < ds.length := by omega
      refine s_ret (v := .int (drw ds k)) (ev_op (ev_var rfl) (ev_var rfl) (rv_ixL (ex_l e1 hS) ?_)) fun H2 e2 => q _ (e1.trans e2)
      have e0 : (ds.map V.int)[k]? = some (.int (drw ds k)) := by
        rw [List.getElem?_map, List.getElem?_eq_getElem hk]
        unfold drw
        rw [List.getD_eq_getElem?_getD, List.getElem?_eq_getElem hk]
        rfl
      exact atI_nat e0
    · have hb := of_decide_eq_false hb
      rw [List.length_map] at hb
      refine s_ret ev_c fun H2 e2 => ?_
      have e0 : drw ds k = 0 := by
        unfold drw
        rw [List.getD_eq_getElem?_getD, List.getElem?_eq_none (by omega)]
        rfl
      rw [← e0]
      exact q _ (e1.trans e2)
def DW (H0 : Hp) (l : Addr) (m : Nat) (H' : Hp) : Prop := H0 l = none ∧ Ex H0 H' ∧ ∃ ds : List Int, H' l = some (.lst (ds.map V.int)) ∧ Dr ds ∧ ds.length ≤ m
theorem DW.app {H0 H1 H2 : Hp} {l : Addr} {m : Nat} {ds : List Int} {d : Int} (n : H0 l = none) (e : Ex H0 H1) (D : Dr ds) (hl : ds.length ≤ m) (h0 : 0 ≤ d) (h1 : d < 5040) (e2 : Ex H1 H2) : DW H0 l (m + 1) (upd H2 l (.lst (ds.map V.int ++ [V.int d]))) :=
  ⟨n, Ex.mut (e.trans e2) n, ds ++ [d], by rw [upd_same, List.map_append]; rfl, D.app h0 h1, by rw [List.length_append, List.length_singleton]; omega⟩
theorem ok_stream {f : Addr} {fd : FuncData} {k : Nat} (F : Fun K "_law_stream" "_law_stream" s__law_stream f fd) (T : Glo mg) : FnOk P w K mg base CX0 (k + 1) f fd ["script", "many"] (spStream K) := by
  refine F.ok sc__law_stream (fun vs H Q E h => ?_) (fun cdv A outer s H vs Q E hr h => ?_)
  · obtain ⟨a, ns, m, rfl, _⟩ := h
    rfl
  · obtain ⟨a, ns, m, rfl, hS, hn, hm, q⟩ := h
    refine ⟨_, (pss_cons (ps_set (i := 2) sc__law_stream.nd rfl (.inl rfl) (pe_lst pa_nil))
  (pss_cons (ps_for PassesOwn.never rfl (pi_list (pv 0)) (pg_name (i := 3) sc__law_stream.nd rfl (.inl rfl))
  (pss_cons (ps_if (pt_cmpR op_ge (pe_callB call_len_seq (by rfl) T.len PySem.boot_len (pa_cons (pv 2) pa_nil)) (pv 1) (nomark _))
  (pss_one ps_break)
  pss_nil)
  (pss_one (ps_if (pt_cmpR op_ge (pv 3) (pe_op op_pow pe_int pe_int) (nomark _))
  (pss_cons (ps_set (i := 4) sc__law_stream.nd rfl (.inl rfl) (pv 3))
  (pss_one (ps_for PassesOwn.never rfl (pi_range1 (by rfl) T.range (pa_cons pe_int pa_nil)) (pg_name (i := 5) sc__law_stream.nd rfl (.inl rfl))
  (pss_one (ps_if (pt_cmpR op_gt (pv 4) pe_int (nomark _))
  (pss_cons (ps_expr (pe_bm PySem.F.plainAttrs_list PySem.F.slot_list_append PySem.F.type_list_append mt_append (pv 2) (pa_cons (pe_op op_mod (pe_callTy call_int1 (by rfl) T.int (by decide +kernel) (pa_cons (pv 4) pa_nil)) pe_int) pa_nil)))
  (pss_one (ps_set (i := 4) sc__law_stream.nd rfl (.inl rfl) (pe_op op_fdiv (pv 4) pe_int))))
  pss_nil)))))
  (pss_cons (ps_set (i := 6) sc__law_stream.nd rfl (.inl rfl) (pe_op op_mod (pe_callTy call_int1 (by rfl) T.int (by decide +kernel) (pa_cons (pe_op op_add (pe_op op_add (pe_op op_mul (pv 3) pe_int) (pe_op op_mul (pe_callB call_len_seq (by rfl) T.len PySem.boot_len (pa_cons (pv 2) pa_nil)) pe_int)) pe_int) pa_nil)) pe_int))
  (pss_one (ps_for PassesOwn.never rfl (pi_range1 (by rfl) T.range (pa_cons pe_int pa_nil)) (pg_name (i := 5) sc__law_stream.nd rfl (.inl rfl))
  (pss_cons (ps_set (i := 6) sc__law_stream.nd rfl (.inl rfl) (pe_op op_mod (pe_callTy call_int1 (by rfl) T.int (by decide +kernel) (pa_cons (pe_op op_add (pe_op op_add (pe_op op_mul (pv 6) pe_int) (pe_op op_mul pe_int (pv 5))) pe_int) pa_nil)) pe_int))
  (pss_one (ps_expr (pe_bm PySem.F.plainAttrs_list PySem.F.slot_list_append PySem.F.type_list_append mt_append (pv 2) (pa_cons (pe_op op_mod (pe_callTy call_int1 (by rfl) T.int (by decide +kernel) (pa_cons (pe_op op_fdiv (pv 6) pe_int) pa_nil)) pe_int) pa_nil))))))))))))
  (pss_one (ps_ret (pv 2))))), ?_⟩
    refine' q_asgL (xs := []) (el_lst ea_nil (by decide)) (fun l H1 nl e1 h1 => ?_)
    have hS1 : SqL K H1 a (ns.map V.int) := ex_l e1 hS
    refine' q_forLn (a := a) (xs := ns.map V.int) (ev_var rfl) hS1 (fun i σ' H' => ∃ y3 y4 y5 y6, σ' = [some (.ref a), some (.int (m : Int)), some (.ref l), y3, y4, y5, y6] ∧ DW H l (m + 60) H') (fun H2 e2 => ?_) (fun i σ' H' _ p => ?_) (fun i x σ' H' hx p => ?_) (fun σ' H' p => ?_)
    · exact ⟨none, none, none, none, rfl, nl, e1.trans e2, [], e2 l _ h1, Dr.nil, Nat.zero_le _⟩
    · obtain ⟨_, _, _, _, _, _, e, _⟩ := p
      exact ex_l e hS
    · obtain ⟨y3, y4, y5, y6, rfl, n, e, ds, hd, D, hl⟩ := p
      obtain ⟨c, rfl⟩ : ∃ c, x = V.int c := by
        rw [List.getElem?_map] at hx
        cases h : ns[i]? with
        | none => rw [h] at hx; cases hx
        | some c => rw [h] at hx; exact ⟨c, (Option.some.inj hx).symm⟩
      have hL : SqL K H' l (ds.map V.int) := sq_of hd
      refine' q_when ?c (fun hb H2 e2 => ?_) (fun hb H2 e2 => ?_)
      case c => walk_at "ev"
      · -- break
        refine s_ret (ev_var rfl) fun H3 e3 => ?_
        exact q ds D hl l H3 n ((e.trans e2).trans e3) (e3 l _ (e2 l _ hd))
      · have hb := of_decide_eq_false hb
        rw [List.length_map] at hb
        have hlt : ds.length < m := by omega
        have hd2 := e2 l _ hd
        have E2 := e.trans e2
        refine' s_if ?c (fun hc H3 e3 => ?_) (fun hc H3 e3 => ?_)
        case c => walk_at "ev"
        · -- a great one
          refine' q_asg (ev_var rfl) (fun H4 e4 => ?_)
          refine' s_forR1 (n := 60) (ea_cons ev_c ea_nil) (by decide) (fun i σ' H' => ∃ (r : Int) (y5 : Option V), σ' = [some (.ref a), some (.int (m : Int)), some (.ref l), some (.int c), some (.int r), y5, y6] ∧ DW H l (m + i) H') (fun H5 e5 => ⟨c, _, rfl, n, ((E2.trans e3).trans e4).trans e5, ds, e5 l _ (e4 l _ (e3 l _ hd2)), D, by omega⟩) (fun i σ' H' hi p => ?_) (fun σ' H' p => ?_)
          · obtain ⟨r, z5, rfl, n', e', ds', hd', D', hl'⟩ := p
            have hL' : SqL K H' l (ds'.map V.int) := sq_of hd'
            refine' s_when ?c (fun hb H6 e6 => ?_) (fun hb H6 e6 => ?_)
            case c => walk_at "ev"
            · refine' q_app (l := l) (xs := ds'.map V.int) (v := .int (r % 5040)) (e6 l _ hd') (ev_var rfl) ?c (by rw [List.length_map]; omega) (fun H7 e7 => ?_)
              case c => walk_at "ev"
              refine' s_asg (v := .int (r / 5040)) ?c (fun H8 e8 => ?_)
              case c => exact ev_op (ev_var rfl) ev_c (rv_I ⟨by decide, by decide⟩)
              obtain ⟨_, k2, k3⟩ := DW.app n' (e'.trans e6) D' hl' (Int.emod_nonneg r (by decide)) (Int.emod_lt_of_pos r (by decide)) e7
              obtain ⟨ds8, k4, k5, k6⟩ := k3
              exact ⟨r / 5040, _, rfl, n', k2.trans e8, ds8, e8 l _ k4, k5, k6⟩
            · exact ⟨r, _, rfl, n', e'.trans e6, ds', e6 l _ hd', D', by omega⟩
          · obtain ⟨r, z5, rfl, w⟩ := p
            exact ⟨_, _, _, _, rfl, w⟩
        · -- a plain one
          refine' q_asg ?c (fun H4 e4 => ?_)
          case c =>
            have hL3 : SqL K H3 l (ds.map V.int) := sq_of (e3 l _ hd2)
            refine' ev_op (ev_cb (ea_cons (ev_op (ev_op (ev_op (ev_var rfl) ev_c (rv_I (.inr (by decide)))) (ev_op (ev_cb (ea_cons (ev_var rfl) ea_nil) (rc_len hL3)) ev_c (rv_I (.inr (by decide)))) rv_I0) ev_c rv_I0) ea_nil) rc_int) ev_c (rv_I (by decide))
          refine' s_forR1 (n := 4) (ea_cons ev_c ea_nil) (by decide) (fun i σ' H' => ∃ (r : Int) (y5 : Option V), σ' = [some (.ref a), some (.int (m : Int)), some (.ref l), some (.int c), y4, y5, some (.int r)] ∧ DW H l (m + i) H') (fun H5 e5 => ⟨_, _, rfl, n, ((E2.trans e3).trans e4).trans e5, ds, e5 l _ (e4 l _ (e3 l _ hd2)), D, by omega⟩) (fun i σ' H' hi p => ?_) (fun σ' H' p => ?_)
          · obtain ⟨r, z5, rfl, n', e', ds', hd', D', hl'⟩ := p
            refine' q_asg ?c (fun H6 e6 => ?_)
            case c =>
              refine' ev_op (ev_cb (ea_cons (ev_op (ev_op (ev_op (ev_var rfl) ev_c (rv_I (.inr (by decide)))) (ev_op ev_c (ev_var rfl) (rv_I (.inl (by decide)))) rv_I0) ev_c rv_I0) ea_nil) rc_int) ev_c (rv_I (by decide))
            refine' s_app (l := l) (xs := ds'.map V.int) (e6 l _ hd') (ev_var rfl) ?c (by rw [List.length_map]; omega) (fun H7 e7 => ?_)
            case c =>
              refine' ev_op (ev_cb (ea_cons (ev_op (ev_var rfl) ev_c (rv_I ⟨by decide, by decide⟩)) ea_nil) rc_int) ev_c (rv_I (by decide))
            exact ⟨_, _, rfl, DW.app n' (e'.trans e6) D' hl' (Int.emod_nonneg _ (by decide)) (Int.emod_lt_of_pos _ (by decide)) e7⟩
          · obtain ⟨r, z5, rfl, n', e', ds', hd', D', hl'⟩ := p
            exact ⟨_, _, _, _, rfl, n', e', ds', hd', D', by have : (4 : Int).toNat = 4 := rfl; omega⟩
    · obtain ⟨y3, y4, y5, y6, rfl, n, e, ds, hd, D, hl⟩ := p
      refine s_ret (ev_var rfl) fun H3 e3 => ?_
      exact q ds D hl l H3 n (e.trans e3) (e3 l _ hd)
theorem r_do {σ : L2.St} {H : Hp} {D : Ends} {te : TE} (h : te σ H D.rt) : tRet te D σ H := h
theorem ov_fresh {B H H1 : Hp} {p : Addr} {o : HO} (e : Ex B H) (np : H p = none) (hp : H1 p = some o) : ov B H H1 p = some o := by
  have hb : B p = none := by
    cases h : B p with
    | none => rfl
    | some x => rw [e _ _ h] at np; cases np
  unfold ov
  rw [hb, np]
  exact hp
structure CaR where
  a : Addr
  j : Int
  e : Int
  n : Int
def caV (r : CaR) : List V := [.int r.j, .int r.e, .int r.n]
def caK (r : CaR) : List Int := [r.e, r.n, -r.j]
def sur (o r : CaR) : Bool := if o.e ≠ r.e then decide (o.e > r.e) else if o.n ≠ r.n then decide (o.n > r.n) else decide (o.j < r.j)
def qB : Str := "best" ++ ".<locals>." ++ "<lambda>"
theorem argBest_max {bt : Nat → Nat → Bool} (irr : ∀ a, bt a a = false) (tr : ∀ a b c, bt a b = false → bt b c = false → bt a c = false) (asy : ∀ a b, bt a b = true → bt b a = false) : ∀ k, argBest bt k ≤ k ∧ ∀ i, i ≤ k → bt i (argBest bt k) = false
  | 0 => ⟨Nat.le_refl 0, fun i hi => by
    have : i = 0 := by omega
    rw [this]
    exact irr 0⟩
  | k + 1 => by
    obtain ⟨h1, h2⟩ := argBest_max irr tr asy k
    unfold argBest
    by_cases hb : bt (k + 1) (argBest bt k) = true
    · rw [if_pos hb]
      refine ⟨Nat.le_refl _, fun i hi => ?_⟩
      by_cases he : i = k + 1
      · rw [he]
        exact irr _
      · exact tr _ _ _ (h2 i (by omega)) (asy _ _ hb)
    · rw [if_neg hb]
      refine ⟨Nat.le_succ_of_le h1, fun i hi => ?_⟩
      by_cases he : i = k + 1
      · rw [he]
        exact Bool.not_eq_true _ ▸ hb
      · exact h2 i (by omega)
theorem lex3 (e e' n n' j j' : Int) : (if decide (e = e') = true then (if decide (n = n') = true then (if decide (-j = -j') = true then decide ((3 : Nat) > 3) else decide (-j' < -j)) else decide (n' < n)) else decide (e' < e)) = (if e ≠ e' then decide (e > e') else if n ≠ n' then decide (n > n') else decide (j < j')) := by
  by_cases a : e = e'
  · by_cases b : n = n'
    · by_cases c : j = j'
      · simp [a, b, c]
      · simp [a, b, c]
    · simp [a, b]
  · simp [a]
theorem btL_sur (o r : CaR) (kf : Nat → List Int) {i j : Nat} (h1 : kf i = caK o) (h2 : kf j = caK r) : LamP.btL kf i j = sur o r := by
  unfold LamP.btL
  rw [h1, h2]
  show (if decide (o.e = r.e) = true then (if decide (o.n = r.n) = true then (if decide (-o.j = -r.j) = true then decide ((3 : Nat) > 3) else decide (-r.j < -o.j)) else decide (r.n < o.n)) else decide (r.e < o.e)) = sur o r
  exact lex3 _ _ _ _ _ _
theorem sur_iff (o r : CaR) : sur o r = true ↔ (o.e > r.e ∨ o.e = r.e ∧ (o.n > r.n ∨ o.n = r.n ∧ o.j < r.j)) := by
  unfold sur
  split
  · rw [decide_eq_true_iff]; omega
  · split
    · rw [decide_eq_true_iff]; omega
    · rw [decide_eq_true_iff]; omega
theorem sur_no (o r : CaR) : sur o r = false ↔ ¬ (o.e > r.e ∨ o.e = r.e ∧ (o.n > r.n ∨ o.n = r.n ∧ o.j < r.j)) := by
  rw [← sur_iff, Bool.not_eq_true]
def spBest (K : PySem.W.Frag) (PT CF : Addr) : Sp := fun vs H Q E => ∃ (l : Addr) (rs : List CaR) (ps : Array Value) (B : Hp) (F : List MP), vs = [.ref l] ∧ At B (Pt PT (.tbl ps) :: F) H ∧ LamP.TblIn B ps qB ∧ H l = some (.lst (rs.map fun r => V.ref r.a)) ∧ (∀ r ∈ rs, H r.a = some (.tup (caV r))) ∧ (rs = [] → ∀ H1, Ex H H1 → E (.ref CF) none H1) ∧
  ∀ (m : Nat) (r : CaR), rs[m]? = some r → (∀ o ∈ rs, sur o r = false) → ∀ (B1 : Hp) (ps' : Array Value) (H1 : Hp), Ex B B1 → LamP.TblIn B1 ps' qB → At B1 (Pt PT (.tbl ps') :: F) H1 → Q (.int r.j) H1
theorem et_tru {σ : L2.St} {H : Hp} {ta : TE} {l : Addr} {xs : List V} (h : Ev ta σ H (.ref l)) (hl : SqL K H l xs) : EvT (fun σ H Q => ta σ H fun x H' => ∃ k, TruV K x H' k ∧ Q k H') σ H (!xs.isEmpty) := fun H1 e Q q => h H1 e _ fun H2 e2 => ⟨_, .inl ⟨xs, ex_l (e.trans e2) hl, rfl⟩, q H2 e2⟩
theorem ok_best {f C_TooFew BT cB PT : Addr} {fd : FuncData} (F : Fun K "best" "best" s_best f fd) (hc : fd.code = .ref cB) (TB : LamX.TabB base mg cB PT) (E_TooFew : Err K mg "TooFew" C_TooFew BT) (T : Glo mg) : FnOk P w K mg base (L2.CX P w) 3 f fd ["candidates"] (spBest K PT C_TooFew) := by
  refine F.okXC hc sc_best (fun vs H Q E h => ?_) (fun A outer s H vs Q E hr h => ?_)
  · obtain ⟨l, rs, ps, B, Fr, rfl, _⟩ := h
    rfl
  · obtain ⟨l, rs, ps, B, Fr, rfl, hA, hT, hl, hrs, q1, q2⟩ := h
    refine ⟨_, (pss_cons (ps_if (pt_not (pt_truth (pv 0) (by intro _; rfl)))
  (pss_one (ps_raise rfl (takes_of rfl rfl rfl rfl) (Err.mk' E_TooFew rfl)))
  pss_nil)
  (pss_one (ps_ret (pe_ix ix_tup (LamP.pe_maxlam (k := 0) (N := ["row"]) (y := "row") TB rfl rfl rfl ⟨rfl, rfl, rfl, by decide +kernel, rfl, by decide +kernel, by decide +kernel⟩ (fun _ _ _ _ => rfl) (fun A outer s H f cv hr => pe_tup (pa_cons (pe_ix (show IxR _ (rIxT K) from ix_tup) (pv 0) pe_int (fun _ _ => rfl)) (pa_cons (pe_ix (show IxR _ (rIxT K) from ix_tup) (pv 0) pe_int (fun _ _ => rfl)) (pa_cons (pe_un un_neg (pe_ix (show IxR _ (rIxT K) from ix_tup) (pv 0) pe_int (fun _ _ => rfl))) pa_nil)))) (hr.mono (by decide)) (pv 0) (by rfl) T.max) pe_int (fun _ _ => rfl))))), ?_⟩
    refine q_when (et_not (et_tru (K := K) (ev_var rfl) (sq_of hl))) (fun hb H1 e1 => ?_) (fun hb H1 e1 => ?_)
    · refine q1 ?_ H1 e1
      cases rs with
      | nil => rfl
      | cons r rs => cases hb
    · have hne : rs ≠ [] := fun z => by
        rw [z] at hb
        cases hb
      have hA := at_ex hA e1
      have hl := e1 _ _ hl
      have hrs : ∀ r ∈ rs, H1 r.a = some (.tup (caV r)) := fun r hr => e1 _ _ (hrs r hr)
      have hP : H1 PT = some (.tbl ps) := at_get (a := PT) 0 rfl hA
      have bH : Ex B H1 := fun a o h => at_base hA a o h
      refine r_do (go_op (go_cons (ev_var rfl) fun H2 e2 => go_nil ?_))
      have hA := at_ex hA e2
      have hl := e2 _ _ hl
      have hrs : ∀ r ∈ rs, H2 r.a = some (.tup (caV r)) := fun r hr => e2 _ _ (hrs r hr)
      have hP : H2 PT = some (.tbl ps) := at_get (a := PT) 0 rfl hA
      have bH := bH.trans e2
      refine ⟨ps, hP, hT.mono bH, fun g c' pm ctv ps' H3 e3 hG hc' nf => go_nil ?_⟩
      have np : ∀ {a : Addr} {o : HO}, H2 a = some o → (∀ ps, o ≠ .tbl ps) → upd H2 PT (.tbl ps') a = some o := fun {a o} h n => by
        rw [upd_ne (fun z => n ps (by rw [z, hP] at h; exact (Option.some.inj h).symm))]
        exact h
      have e4 : ∀ o, Ex H3 (upd H3 g (LamP.LamO g o)) := fun o => Ex.new nf
      have hl := e3 _ _ (np hl (fun _ z => nomatch z))
      have hrs3 : ∀ r ∈ rs, H3 r.a = some (.tup (caV r)) := fun r hr => e3 _ _ (np (hrs r hr) (fun _ z => nomatch z))
      have hA := at_upd (u := .tbl ps') 0 rfl hA
      have hlen : (rs.map fun r => V.ref r.a).length = rs.length := List.length_map _
      have hpos : 0 < rs.length := List.length_pos_iff.mpr hne
      obtain ⟨d0, hd0⟩ : ∃ d0 : CaR, True := ⟨⟨0, 0, 0, 0⟩, trivial⟩
      have kfE : ∀ i o, rs[i]? = some o → caK (rs.getD i d0) = caK o := fun i o h => by rw [List.getD_eq_getElem?_getD, h]; rfl
      refine ⟨l, g, c', pm, ctv, _, fun i => caK (rs.getD i d0), rfl, rfl, sq_of (e4 _ _ _ hl), by rw [hlen]; exact hpos, upd_same, e4 _ _ _ hc', fun i x hx H5 e5 Q' hQ' => ?_, fun x H5 hx e5 => ?_⟩
      · rw [List.getElem?_map] at hx
        cases hi : rs[i]? with
        | none => rw [hi] at hx; cases hx
        | some r =>
          rw [hi] at hx
          cases hx
          have hr : H5 r.a = some (.tup (caV r)) := e5 _ _ (e4 _ _ _ (hrs3 r (List.mem_of_getElem? hi)))
          have sq : SqT K H5 r.a (caV r) := st_of hr
          have hQ : ∀ p, H5 p = none → Q' (.ref p) (upd H5 p (.tup ((caK r).map V.int))) := fun p hp => kfE i r hi ▸ hQ' p hp
          exact ⟨.ref r.a, rfl, r.a, caV r, 1, .int r.e, rfl, rfl, sq, rfl, .ref r.a, rfl, r.a, caV r, 2, .int r.n, rfl, rfl, sq, rfl, .ref r.a, rfl, r.a, caV r, 0, .int r.j, rfl, rfl, sq, rfl, r.j, rfl, by show 3 ≤ sizeLine; decide, fun p hp => hQ p hp⟩
      · rw [hlen, List.getElem?_map] at hx
        have bt : ∀ i j, LamP.btL (fun i => caK (rs.getD i d0)) i j = sur (rs.getD i d0) (rs.getD j d0) := fun i j => btL_sur _ _ _ rfl rfl
        obtain ⟨hm, hmx⟩ := argBest_max (bt := LamP.btL fun i => caK (rs.getD i d0)) (fun a => by rw [bt, sur_no]; omega) (fun a b c => by rw [bt, bt, bt, sur_no, sur_no, sur_no]; omega) (fun a b => by rw [bt, bt, sur_iff, sur_no]; omega) (rs.length - 1)
        generalize argBest (LamP.btL fun i => caK (rs.getD i d0)) (rs.length - 1) = m at hm hmx hx
        cases hr : rs[m]? with
        | none => rw [hr] at hx; cases hx
        | some r =>
          rw [hr] at hx
          cases hx
          have e35 := e3.trans ((e4 _).trans e5)
          have eB : Ex B (upd H2 PT (.tbl ps')) := fun a o h => at_base hA a o h
          have nc : H2 c' = none → upd H2 PT (.tbl ps') c' = none := fun h => by rw [upd_ne (fun z => by rw [z, hP] at h; cases h)]; exact h
          refine ⟨r.a, caV r, 0, .int r.j, rfl, rfl, st_of (e5 _ _ (e4 _ _ _ (hrs3 r (List.mem_of_getElem? hr)))), rfl, q2 m r hr (fun o ho => ?_) _ ps' H5 ov_base (hG _ (hT.mono ov_base) fun hn => ov_fresh eB (nc hn) (((e4 _).trans e5) _ _ hc')) (at_grow hA e35)⟩
          obtain ⟨i, hi⟩ := List.getElem?_of_mem ho
          have hil := (List.getElem?_eq_some_iff.mp hi).1
          have := hmx i (by omega)
          rw [bt] at this
          rw [List.getD_eq_getElem?_getD, List.getD_eq_getElem?_getD, hi, hr] at this
          exact this
theorem go_cS {σ : L2.St} {H : Hp} {sp : Sp} {E : L2.St → XK} {t : L2.TA} {Q : VK} (h : t σ H fun vs H1 => sp vs H1 Q (E σ)) : tCallS sp E t σ H Q := h
def spLB (K : PySem.W.Frag) (PT : Addr) : Sp := fun vs H Q _ => ∃ (l : Addr) (rs : List CaR) (ps : Array Value) (B : Hp) (F : List MP), vs = [.ref l] ∧ At B (Pt PT (.tbl ps) :: F) H ∧ LamP.TblIn B ps qB ∧ H l = some (.lst (rs.map fun r => V.ref r.a)) ∧ (∀ r ∈ rs, H r.a = some (.tup (caV r))) ∧ (rs = [] → ∀ t H1, H t = none → Ex H H1 → H1 t = some (.tup [.str "few", .bl true]) → Q (.ref t) H1) ∧
  ∀ (m : Nat) (r : CaR), rs[m]? = some r → (∀ o ∈ rs, sur o r = false) → ∀ (B1 : Hp) (ps' : Array Value) (t : Addr) (H1 : Hp), Ex B B1 → LamP.TblIn B1 ps' qB → B1 t = some (.tup [.str "best", .int r.j]) → At B1 (Pt PT (.tbl ps') :: F) H1 → Q (.ref t) H1
theorem ok_lbest {f f1 C_TooFew C_HallError PT : Addr} {fd fd1 : FuncData} (F : Fun K "_law_best" "_law_best" s__law_best f fd) (D_best : Df K mg "best" s_best ["candidates"] f1 fd1) (G_best : FnOk P w K mg base (L2.CX P w) 3 f1 fd1 ["candidates"] (spBest K PT C_TooFew)) (E_TooFew : Err K mg "TooFew" C_TooFew C_HallError) (g_HallError : mg "HallError" = some (.ref C_HallError)) (T : Glo mg) : FnOk P w K mg base CX0 5 f fd ["candidates"] (spLB K PT) := by
  refine F.ok sc__law_best (fun vs H Q E h => ?_) (fun cdv A outer s H vs Q E hr h => ?_)
  · obtain ⟨l, rs, ps, B, Fr, rfl, _⟩ := h
    rfl
  · obtain ⟨l, rs, ps, B, Fr, rfl, hA, hT, hl, hrs, q1, q2⟩ := h
    refine ⟨_, (pss_one (ps_try_own (C := C_TooFew) (i := 1) rfl rfl sc__law_best.nd rfl rfl ⟨rfl, by decide, .inl E_TooFew.g⟩ takes0 (fun W pn xe tk => (pss_one (ps_ret (pe_tup (pa_cons pe_str (pa_cons (pe_callS G_best (hr.mono (by decide)) (by rfl) D_best.g D_best.F.kp D_best.b (fun σ => passAt tk σ) (pa_cons (pv 0) pa_nil)) pa_nil)))))) (fun a oe pn hz hf => (pss_one (ps_ret (pe_tup (pa_cons pe_str (pa_cons (pe_and (pe_callB (call_isE E_TooFew.ec hz hf) (by rfl) T.isinstance (by decide +kernel) (pa_cons (pv 1) (pa_cons (pe_glob (v := .ref C_HallError) (by rfl) g_HallError rfl) pa_nil))) (pe_one (pe_callB (call_isE E_TooFew.ec hz hf) (by rfl) T.isinstance (by decide +kernel) (pa_cons (pv 1) (pa_cons (pe_bltn (v := .ty "ValueError") (u := .type "ValueError") (by rfl) T.ValueError (by decide +kernel) rfl) pa_nil))))) pa_nil)))))))), ?_⟩
    refine r_do (go_tup (go_cons ev_c fun H1 e1 => go_cons' (go_cS (go_cons (ev_var rfl) fun H2 e2 => go_nil ⟨l, rs, ps, B, Fr, rfl, at_ex hA (e1.trans e2), hT, (e1.trans e2) _ _ hl, fun r hr => (e1.trans e2) _ _ (hrs r hr), fun hn H3 e3 => ⟨true, E_TooFew.me, fun _ a na => ⟨⟨rfl, rfl⟩, ?_⟩, fun z => nomatch z⟩, fun m r hm hmx B1 ps' H3 b1 hT' hA => go_nil ⟨by show 2 ≤ sizeLine; decide, fun t nt => ?_⟩⟩))))
    · refine r_do (go_tup (go_cons ev_c fun H4 e4 => go_cons (ev_andT (ev_isE (c := .ref C_HallError) (cv := .ref C_HallError) rfl ev_c (fun u hu => hu) E_TooFew.k1) (ev_isE (c := .ty "ValueError") (cv := .type "ValueError") rfl ev_c (fun u hu => hu) E_TooFew.k2)) fun H5 e5 => go_nil ⟨by show 2 ≤ sizeLine; decide, fun t nt => ?_⟩))
      have e15 := ((((e1.trans e2).trans e3).trans e4).trans e5)
      have nt0 : H t = none := by
        cases h : H t with
        | none => rfl
        | some o => rw [e15 t o h] at nt; cases nt
      exact q1 hn t _ nt0 (e15.trans (Ex.new nt)) upd_same
    · obtain ⟨b2, hA2, ht⟩ := Ap.at_tup (vs := [.str "best", .int r.j]) hA nt
      exact q2 m r hm hmx _ ps' t _ (b1.trans b2) (hT'.mono b2) ht hA2
theorem bnot_t {b : Bool} (h : (!b) = true) : b = false := by
  cases b with
  | true => cases h
  | false => rfl
theorem bnot_f {b : Bool} (h : (!b) = false) : b = true := by
  cases b with
  | true => rfl
  | false => cases h
def spSu (K : PySem.W.Frag) : Sp := fun vs H Q _ => ∃ (a b : Addr) (o r : CaR), vs = [.ref a, .ref b] ∧ H a = some (.tup (caV o)) ∧ H b = some (.tup (caV r)) ∧ RetV (.bl (sur o r)) H Q
theorem ok_lsur {f : Addr} {fd : FuncData} (F : Fun K "_law_surpasses" "_law_surpasses" s__law_surpasses f fd) (T : Glo mg) : FnOk P w K mg base CX0 1 f fd ["other", "chosen"] (spSu K) := by
  refine F.ok sc__law_surpasses (fun vs H Q E h => ?_) (fun cdv A outer s H vs Q E hr h => ?_)
  · obtain ⟨a, b, o, r, rfl, _⟩ := h
    rfl
  · obtain ⟨a, b, o, r, rfl, ha, hb, q⟩ := h
    refine ⟨_, (pss_cons (ps_if (pt_cmpR op_ne (pe_ix ix_tup (pv 0) pe_int (fun _ _ => rfl)) (pe_ix ix_tup (pv 1) pe_int (fun _ _ => rfl)) (nomark _))
  (pss_one (ps_ret (pe_cmpR op_gt (pe_ix ix_tup (pv 0) pe_int (fun _ _ => rfl)) (pe_ix ix_tup (pv 1) pe_int (fun _ _ => rfl)) (nomark _))))
  pss_nil)
  (pss_cons (ps_if (pt_cmpR op_ne (pe_ix ix_tup (pv 0) pe_int (fun _ _ => rfl)) (pe_ix ix_tup (pv 1) pe_int (fun _ _ => rfl)) (nomark _))
  (pss_one (ps_ret (pe_cmpR op_gt (pe_ix ix_tup (pv 0) pe_int (fun _ _ => rfl)) (pe_ix ix_tup (pv 1) pe_int (fun _ _ => rfl)) (nomark _))))
  pss_nil)
  (pss_one (ps_ret (pe_cmpR op_lt (pe_ix ix_tup (pv 0) pe_int (fun _ _ => rfl)) (pe_ix ix_tup (pv 1) pe_int (fun _ _ => rfl)) (nomark _)))))), ?_⟩
    have ix : ∀ {σ : L2.St} {H' : Hp} {ta : TE} {p : Addr} {z : CaR} {i : Int} {v : V}, Ev ta σ H' (.ref p) → H' p = some (.tup (caV z)) → atI (caV z) i = some v → Ev (tOp (rIxT K) ta (tC (.int i))) σ H' v := fun h hp hi => ev_op h ev_c (rv_ixT (st_of hp) hi)
    refine q_when (b := !decide (o.e = r.e)) (et_test (ev_op (ix (ev_var rfl) ha rfl) (ix (ev_var rfl) hb rfl) rv_neI)) (fun h1 H1 e1 => ?_) (fun h1 H1 e1 => ?_)
    · refine s_ret (ev_is (ev_op (ix (ev_var rfl) (e1 _ _ ha) rfl) (ix (ev_var rfl) (e1 _ _ hb) rfl) rv_I0) ?_) fun H2 e2 => q H2 (e1.trans e2)
      have h1 := of_decide_eq_false (bnot_t h1)
      unfold sur
      rw [if_pos h1]
    · have h1 := of_decide_eq_true (bnot_f h1)
      refine q_when (b := !decide (o.n = r.n)) (et_test (ev_op (ix (ev_var rfl) (e1 _ _ ha) rfl) (ix (ev_var rfl) (e1 _ _ hb) rfl) rv_neI)) (fun h2 H2 e2 => ?_) (fun h2 H2 e2 => ?_)
      · refine s_ret (ev_is (ev_op (ix (ev_var rfl) ((e1.trans e2) _ _ ha) rfl) (ix (ev_var rfl) ((e1.trans e2) _ _ hb) rfl) rv_I0) ?_) fun H3 e3 => q H3 ((e1.trans e2).trans e3)
        have h2 := of_decide_eq_false (bnot_t h2)
        unfold sur
        rw [if_neg (fun z => z h1), if_pos h2]
      · refine s_ret (ev_is (ev_op (ix (ev_var rfl) ((e1.trans e2) _ _ ha) rfl) (ix (ev_var rfl) ((e1.trans e2) _ _ hb) rfl) rv_I0) ?_) fun H3 e3 => q H3 ((e1.trans e2).trans e3)
        have h2 := of_decide_eq_true (bnot_f h2)
        unfold sur
        rw [if_neg (fun z => z h1), if_neg (fun z => z h2)]
theorem at_take {H : Hp} {p : Addr} {o : HO} (h : H p = some o) : At (fun b => if b = p then none else H b) [Pt p o] H := by
  refine ⟨fun b => !decide (b = p), fun b u hb => ?_, fun _ => true, ?_, trivial⟩
  · have hb : (if b = p then none else H b) = some u := hb
    by_cases e : b = p
    · rw [if_pos e] at hb
      cases hb
    · rw [if_neg e] at hb
      rw [cutIn_yes (by show (!decide (b = p)) = true; rw [decide_eq_false e]; rfl)]
      exact hb
  · show cutIn (fun _ => true) (cutIn (fun b => !(!decide (b = p))) H) p = some o
    rw [cut_all, cutIn_yes (by show (!(!decide (p = p))) = true; rw [decide_eq_true rfl]; rfl)]
    exact h
theorem s_ins {σ : L2.St} {B H : Hp} {D : Ends} {l : List MP} {ta ti tv : TE} {q : Addr} {xs : List V} {i : Int} {v : V} (k : Nat) (hk : l[k]? = some (Pt q (.lst xs))) (hA : At B l H) (ha : Ev ta σ H (.ref q)) (hi : ∀ H1, Ex H H1 → Ev ti σ H1 (.int i)) (hv : ∀ H1, Ex H H1 → Ev tv σ H1 v) (h0 : 0 ≤ i ∧ i < 2 ^ 63) (hz : xs.length < 100000)
    (c : ∀ H1, At B (l.set k (Pt q (.lst (xs.take i.toNat ++ [v] ++ xs.drop i.toNat)))) H1 → D.nx σ H1) :
    tDrop (tBM K "list" (fun x vs H Q => ∃ (l : Addr) (xs : List V) (i : Int) (y : V), x = .ref l ∧ vs = [.int i, y] ∧ H l = some (.lst xs) ∧ xs.length < sizeLine ∧ 0 ≤ i ∧ i < 2 ^ 63 ∧ Q .non (upd H l (.lst (xs.take i.toNat ++ [y] ++ xs.drop i.toNat)))) ta (tCons ti (tCons tv tNil))) D σ H :=
  ha H (Ex.refl H) _ fun H1 e1 => ⟨.inl ⟨rfl, xs, sq_of (at_get k hk (at_ex hA e1))⟩, hi H1 e1 H1 (Ex.refl H1) _ fun H2 e2 => hv H2 (e1.trans e2) H2 (Ex.refl H2) _ fun H3 e3 => by
    have hA := at_ex hA ((e1.trans e2).trans e3)
    exact ⟨q, xs, i, v, rfl, rfl, at_get k hk hA, sz_lt hz, h0.1, h0.2, c _ (at_upd k hk hA)⟩⟩
theorem s_appT {σ : L2.St} {B H : Hp} {D : Ends} {l : List MP} {ta : TE} {tr : L2.TA} {q : Addr} {xs vs : List V} (k : Nat) (hk : l[k]? = some (Pt q (.lst xs))) (hA : At B l H) (ha : Ev ta σ H (.ref q)) (h : EvA tr σ H vs) (hv : vs.length ≤ 100000) (hz : xs.length < 100000) (c : ∀ p B1 H1, Ex B B1 → B1 p = some (.tup vs) → At B1 (l.set k (Pt q (.lst (xs ++ [.ref p])))) H1 → D.nx σ H1) : tDrop (tBM K "list" rAppend ta (tCons (tTup tr) tNil)) D σ H :=
  ha H (Ex.refl H) _ fun H1 e1 => ⟨.inl ⟨rfl, xs, sq_of (at_get k hk (at_ex hA e1))⟩, h H1 e1 _ fun H2 e2 => ⟨sz_of hv, fun p np => by
    obtain ⟨b, hA2, hp⟩ := Ap.at_tup (vs := vs) (at_ex hA (e1.trans e2)) np
    exact ⟨q, xs, .ref p, rfl, rfl, at_get (a := q) k hk hA2, sz_lt hz, c p _ _ b hp (at_upd k hk hA2)⟩⟩⟩
theorem q_whenS {σ : L2.St} {H : Hp} {D : Ends} {t : TT} {tu tz : TS} {b : Bool} (M : L2.St → Hp → Prop) (h : EvT t σ H b) (h2 : b = false → ∀ H1, Ex H H1 → M σ H1) (h1 : b = true → ∀ H1, Ex H H1 → ∀ Dn : Ends, (∀ σ' H', M σ' H' → Dn.nx σ' H') → tu Dn σ H1) (k : ∀ σ' H', M σ' H' → tz D σ' H') : tSeq (tIfS t tu tNext) tz D σ H := q_when h (fun hb H1 e1 => h1 hb H1 e1 { D with nx := tz D } k) (fun hb H1 e1 => k σ H1 (h2 hb H1 e1))
theorem modN {y : Int} {n : Nat} (h : 0 < n) : ∃ k : Nat, y % (n : Int) = (k : Int) ∧ k < n := by
  have h0 : 0 ≤ y % (n : Int) := Int.emod_nonneg _ (by omega)
  have h1 : y % (n : Int) < n := Int.emod_lt_of_pos _ (by omega)
  exact ⟨(y % (n : Int)).toNat, by omega, by omega⟩
def roD (r : CaR) : PyData := .tuple [.int r.j, .int r.e, .int r.n]
theorem dp_rows {H : Hp} : ∀ {rs : List CaR}, (∀ r ∈ rs, H r.a = some (.tup (caV r))) → DpAll K H (rs.map fun r => V.ref r.a) (rs.map roD)
  | [], _ => .nil
  | r :: rs, h => .cons (.tup (st_of (h r List.mem_cons_self)) (.cons (.int _) (.cons (.int _) (.cons (.int _) .nil)))) (dp_rows fun x hx => h x (List.mem_cons_of_mem _ hx))
theorem sd_rows {rs : List CaR} : Sd 3 (.list (rs.map roD)) := sd_list fun d hd => by
  obtain ⟨r, _, rfl⟩ := List.mem_map.mp hd
  exact sd_tuple fun d hd => by
    simp only [List.mem_cons, List.not_mem_nil, or_false] at hd
    rcases hd with rfl | rfl | rfl <;> exact sd_int
theorem filter_one : ∀ {rs : List CaR} {r : CaR}, (rs.map (·.j)).Nodup → r ∈ rs → rs.filter (fun o => decide (o.j = r.j)) = [r]
  | x :: rs, r, hn, hr => by
    obtain ⟨h1, h2⟩ := List.nodup_cons.mp hn
    rcases List.mem_cons.mp hr with rfl | hr
    · rw [List.filter_cons, if_pos (decide_eq_true rfl)]
      have : rs.filter (fun o => decide (o.j = r.j)) = [] := List.filter_eq_nil_iff.mpr fun o ho z => h1 (List.mem_map.mpr ⟨o, ho, of_decide_eq_true z⟩)
      rw [this]
    · have : decide (x.j = r.j) = false := decide_eq_false fun z => h1 (List.mem_map.mpr ⟨r, hr, z.symm⟩)
      rw [List.filter_cons, if_neg (by rw [this]; decide)]
      exact filter_one h2 hr
theorem given_next (n : Nat) (f : Nat → Bool) (v : Nat → V) : Evl.given (n + 1) f v = (if f 0 = true then [v 0] else []) ++ Evl.given n (fun i => f (i + 1)) (fun i => v (i + 1)) := by
  unfold Evl.given
  rw [List.range_succ_eq_map, List.filter_cons, List.filter_map]
  split <;> simp [Function.comp_def]
theorem given_filterN {α : Type} (f : α → Bool) (g : α → V) (d : α) : ∀ xs : List α, Evl.given xs.length (fun i => f (xs.getD i d)) (fun i => g (xs.getD i d)) = (xs.filter f).map g
  | [] => rfl
  | x :: r => by
    rw [List.length_cons, given_next]
    have ih := given_filterN f g d r
    show (if f x = true then [g x] else []) ++ Evl.given r.length (fun i => f (r.getD i d)) (fun i => g (r.getD i d)) = _
    rw [ih, List.filter_cons]
    split <;> rfl
theorem lc_caR {σ : L2.St} {H : Hp} {tl te : TE} {t : TT} {p : Addr} {rs : List CaR} (f : CaR → Bool) {j : Nat} {vs : List Nat} (hl : Ev tl σ H (.ref p)) (hp : H p = some (.lst (rs.map fun r => V.ref r.a))) (hz : rs.length ≤ 40000) (hw : ∀ x, wipe ((wipe σ vs).set j (some x)) vs = wipe σ vs)
    (ht : ∀ r ∈ rs, ∀ H1, Ex H H1 → EvT t ((wipe σ vs).set j (some (.ref r.a))) H1 (f r)) (he : ∀ r ∈ rs, ∀ H1, Ex H H1 → f r = true → Ev te ((wipe σ vs).set j (some (.ref r.a))) H1 (.ref r.a)) : EvL (tLc (iList K tl) (gName j) t te vs) σ H ((rs.filter f).map fun r => V.ref r.a) := by
  cases hns : rs with
  | nil =>
    subst hns
    exact el_lcL (K := K) (xs := []) (fun _ => true) (fun _ => .non) hl (sq_of hp) (by decide) hw (fun i x H1 e1 h => nomatch h) (fun i x H1 e1 h => nomatch h)
  | cons n0 r =>
    rw [← hns]
    have key : ∀ (i : Nat) (x : V), (rs.map fun r => V.ref r.a)[i]? = some x → rs.getD i n0 ∈ rs ∧ x = .ref (rs.getD i n0).a := fun i x h => by
      rw [List.getElem?_map] at h
      cases hn : rs[i]? with
      | none => rw [hn] at h; cases h
      | some n =>
        rw [hn] at h
        cases h
        rw [List.getD_eq_getElem?_getD, hn]
        exact ⟨List.mem_of_getElem? hn, rfl⟩
    have h := el_lcL (K := K) (xs := rs.map fun r => V.ref r.a) (fun i => f (rs.getD i n0)) (fun i => V.ref (rs.getD i n0).a) hl (sq_of hp) (t := t) (te := te) (by rw [List.length_map]; omega) hw (fun i x H1 e1 hx => by
      obtain ⟨h1, rfl⟩ := key i x hx
      exact ht _ h1 H1 e1) (fun i x H1 e1 hx hf => by
      obtain ⟨h1, rfl⟩ := key i x hx
      exact he _ h1 H1 e1 hf)
    have hl : (rs.map fun r => V.ref r.a).length = rs.length := List.length_map _
    rw [hl] at h
    exact (given_filterN f (fun r : CaR => V.ref r.a) n0 rs) ▸ h
theorem el_listOf {σ : L2.St} {H : Hp} {te : TE} {p : Addr} {ys : List V} (h : Ev te σ H (.ref p)) (hp : H p = some (.lst ys)) : EvL (tCB (fun xs H Q => ∃ p ys, xs = [.ref p] ∧ (SqL K H p ys ∨ SqT K H p ys) ∧ ∀ l, H l = none → Q (.ref l) (upd H l (.lst ys))) (tCons te tNil)) σ H ys := fun H1 e Q q => h H1 e _ fun H2 e2 => ⟨p, ys, rfl, .inl (sq_of ((e.trans e2) _ _ hp)), fun l nl => q l _ (fresh_back e2 nl) (e2.trans (Ex.new nl)) upd_same⟩
def spLawT (K : PySem.W.Frag) (PT : Addr) : Sp := fun vs H Q _ => ∃ (a : Addr) (ns : List Int), vs = [.ref a] ∧ SqL K H a (ns.map V.int) ∧ ns.length ≤ 63 ∧ H PT = some (.tbl #[]) ∧ ∀ H', Q (.bl true) H'
theorem ok_lawG {f f1 f2 f3 f4 PT : Addr} {fd fd1 fd2 fd3 fd4 : FuncData} (F : Fun K "law" "law" s_law f fd) (D__law_stream : Df K mg "_law_stream" s__law_stream ["script", "many"] f1 fd1) (G__law_stream : FnOk P w K mg base CX0 1 f1 fd1 ["script", "many"] (spStream K)) (D__law_draw : Df K mg "_law_draw" s__law_draw ["draws", "k"] f2 fd2) (G__law_draw : FnOk P w K mg base CX0 1 f2 fd2 ["draws", "k"] (spDraw K))
    (D__law_best : Df K mg "_law_best" s__law_best ["candidates"] f3 fd3) (G__law_best : FnOk P w K mg base CX0 5 f3 fd3 ["candidates"] (spLB K PT)) (D__law_surpasses : Df K mg "_law_surpasses" s__law_surpasses ["other", "chosen"] f4 fd4) (G__law_surpasses : FnOk P w K mg base CX0 1 f4 fd4 ["other", "chosen"] (spSu K)) (T : Glo mg) : FnOk P w K mg base CX0 20 f fd ["script"] (spLawT K PT) := by
  refine F.ok sc_law (fun vs H Q E h => ?_) (fun cdv A outer s H vs Q E hr h => ?_)
  · obtain ⟨a, ns, rfl, _⟩ := h
    rfl
  · obtain ⟨a, ns, rfl, hS, hn, hP, q⟩ := h
    refine ⟨_, (pss_cons (ps_set (i := 1) sc_law.nd rfl (.inl rfl) (pe_call G__law_stream (hr.mono (by decide)) (by rfl) D__law_stream.g D__law_stream.F.kp D__law_stream.b .nil pass0 (pa_cons (pv 0) (pa_cons pe_int pa_nil))))
  (pss_cons (ps_set (i := 2) sc_law.nd rfl (.inl rfl) (pe_op op_mod (pe_call G__law_draw (hr.mono (by decide)) (by rfl) D__law_draw.g D__law_draw.F.kp D__law_draw.b .nil pass0 (pa_cons (pv 1) (pa_cons pe_int pa_nil))) pe_int))
  (pss_cons (ps_set (i := 3) sc_law.nd rfl (.inl rfl) (pe_lst pa_nil))
  (pss_cons (ps_for PassesOwn.never rfl (pi_range1 (by rfl) T.range (pa_cons (pv 2) pa_nil)) (pg_name (i := 4) sc_law.nd rfl (.inl rfl))
  (pss_one (ps_expr (pe_bm PySem.F.plainAttrs_list PySem.F.slot_list_insert PySem.F.type_list_insert mt_insert (pv 3) (pa_cons (pe_op op_mod (pe_call G__law_draw (hr.mono (by decide)) (by rfl) D__law_draw.g D__law_draw.F.kp D__law_draw.b .nil pass0 (pa_cons (pv 1) (pa_cons (pe_op op_add pe_int (pv 4)) pa_nil))) (pe_op op_add (pv 4) pe_int)) (pa_cons (pe_op op_add (pv 4) (pe_op op_mul (pe_op op_mod (pe_op op_fdiv (pe_call G__law_draw (hr.mono (by decide)) (by rfl) D__law_draw.g D__law_draw.F.kp D__law_draw.b .nil pass0 (pa_cons (pv 1) (pa_cons pe_int pa_nil))) pe_int) pe_int) pe_int)) pa_nil))))))
  (pss_cons (ps_set (i := 5) sc_law.nd rfl (.inl rfl) (pe_lst pa_nil))
  (pss_cons (ps_for PassesOwn.never rfl (pi_range1 (by rfl) T.range (pa_cons (pv 2) pa_nil)) (pg_name (i := 4) sc_law.nd rfl (.inl rfl))
  (pss_cons (ps_set (i := 6) sc_law.nd rfl (.inl rfl) (pe_call G__law_draw (hr.mono (by decide)) (by rfl) D__law_draw.g D__law_draw.F.kp D__law_draw.b .nil pass0 (pa_cons (pv 1) (pa_cons (pe_op op_add pe_int (pv 4)) pa_nil))))
  (pss_cons (ps_set (i := 7) sc_law.nd rfl (.inl rfl) (pe_op op_mod (pv 6) pe_int))
  (pss_cons (ps_set (i := 8) sc_law.nd rfl (.inl rfl) (pe_op op_mod (pe_op op_fdiv (pv 6) pe_int) pe_int))
  (pss_cons (ps_if (pt_cmpR op_eq (pe_op op_mod (pe_op op_fdiv (pe_call G__law_draw (hr.mono (by decide)) (by rfl) D__law_draw.g D__law_draw.F.kp D__law_draw.b .nil pass0 (pa_cons (pv 1) (pa_cons pe_int pa_nil))) pe_int) pe_int) pe_int (nomark _))
  (pss_cons (ps_set (i := 7) sc_law.nd rfl (.inl rfl) (pe_op op_mod (pe_callTy call_int1 (by rfl) T.int (by decide +kernel) (pa_cons (pe_op op_mul (pe_op op_fdiv (pv 6) pe_int) pe_int) pa_nil)) (pe_op op_add (pe_op op_pow pe_int pe_int) pe_int)))
  (pss_one (ps_if (pt_cmpR op_eq (pe_op op_mod (pe_op op_fdiv (pv 6) pe_int) pe_int) pe_int (nomark _))
  (pss_cons (ps_set (i := 7) sc_law.nd rfl (.inl rfl) (pe_op op_pow pe_int pe_int))
  (pss_one (ps_set (i := 8) sc_law.nd rfl (.inl rfl) (pe_op op_mod (pe_callTy call_int1 (by rfl) T.int (by decide +kernel) (pa_cons (pe_op op_mul (pv 6) pe_int) pa_nil)) (pe_op op_add (pe_op op_pow pe_int pe_int) pe_int)))))
  pss_nil)))
  pss_nil)
  (pss_one (ps_expr (pe_bm PySem.F.plainAttrs_list PySem.F.slot_list_append PySem.F.type_list_append mt_append (pv 5) (pa_cons (pe_tup (pa_cons (pe_ix ix_list (pv 3) (pv 4) (fun _ _ => rfl)) (pa_cons (pv 7) (pa_cons (pv 8) pa_nil)))) pa_nil)))))))))
  (pss_cons (ps_set (i := 9) sc_law.nd rfl (.inl rfl) (pe_callTy call_list_of (by rfl) T.list (by decide +kernel) (pa_cons (pv 5) pa_nil)))
  (pss_cons (ps_set (i := 10) sc_law.nd rfl (.inr rfl) (pe_call G__law_best (hr.mono (by decide)) (by rfl) D__law_best.g D__law_best.F.kp D__law_best.b .nil pass0 (pa_cons (pv 9) pa_nil)))
  (pss_cons (ps_if (pt_cmpR (op_neD hr.units) (pv 9) (pv 5) (nomark _))
  (pss_one (ps_ret pe_bl))
  pss_nil)
  (pss_cons (ps_if (pt_cmpR op_eq (pv 2) pe_int (nomark _))
  (pss_one (ps_ret (pe_cmpR (op_eqD hr.units) (pv 10) (pe_tup (pa_cons pe_str (pa_cons pe_bl pa_nil))) (nomark _))))
  pss_nil)
  (pss_cons (ps_if (PW.pt (pw_or (pt_cmpR op_ne (pe_ix ix_tup (pv 10) pe_int (fun _ _ => rfl)) pe_str (nomark _)) (pw_or (pt_not (pt_val (pe_callB call_isi (by rfl) T.isinstance (by decide +kernel) (pa_cons (pe_ix ix_tup (pv 10) pe_int (fun _ _ => rfl)) (pa_cons (pe_bltn (v := .ty "int") (u := .type "int") (by rfl) T.int (by decide +kernel) rfl) pa_nil))))) (pw_or1 (pt_val (pe_callB call_isi (by rfl) T.isinstance (by decide +kernel) (pa_cons (pe_ix ix_tup (pv 10) pe_int (fun _ _ => rfl)) (pa_cons (pe_bltn (v := .ty "bool") (u := .type "bool") (by rfl) T.bool (by decide +kernel) rfl) pa_nil))))))))
  (pss_one (ps_ret pe_bl))
  pss_nil)
  (pss_cons (ps_setLc (i := 11) (own := [("candidate", 12)]) (g := gName 12) rfl sc_law.nd rfl rfl (sw_true rfl rfl rfl (by decide +kernel)) (pi_list (pv 5)) (blkOk_by (N := N_law) (sc := defScope s_law) (by decide +kernel)) (fun _ _ _ _ _ => (pg_name (i := 12) sc_law.nd rfl (.inl rfl))) (fun _ _ _ _ _ => (pts_one (pt_cmpR op_eq (pe_ix (show IxR _ (rIxT K) from ix_tup) (pv 12) pe_int (fun _ _ => rfl)) (pe_ix (show IxR _ (rIxT K) from ix_tup) (pv 10) pe_int (fun _ _ => rfl)) (nomark _)))) (fun _ _ _ _ _ => (pv 12)))
  (pss_cons (ps_if (pt_cmpR op_ne (pe_callB call_len_seq (by rfl) T.len PySem.boot_len (pa_cons (pv 11) pa_nil)) pe_int (nomark _))
  (pss_one (ps_ret pe_bl))
  pss_nil)
  (pss_cons (ps_for PassesOwn.never rfl (pi_list (pv 5)) (pg_name (i := 12) sc_law.nd rfl (.inl rfl))
  (pss_one (ps_if (pt_val (pe_call G__law_surpasses (hr.mono (by decide)) (by rfl) D__law_surpasses.g D__law_surpasses.F.kp D__law_surpasses.b .nil pass0 (pa_cons (pv 12) (pa_cons (pe_ix ix_list (pv 11) pe_int (fun _ _ => rfl)) pa_nil))))
  (pss_one (ps_ret pe_bl))
  pss_nil)))
  (pss_one (ps_ret pe_bl)))))))))))))))), ?_⟩
    refine q_call (ea_cons (ev_var rfl) (ea_cons ev_c ea_nil)) fun H1 e1 => ⟨a, ns, 24, rfl, ex_l e1 hS, hn, by decide, fun ds hD hl b H2 nb e2 hb => ?_⟩
    have hA := at_take hP
    have e12 := e1.trans e2
    have hb1 : ov (fun b => if b = PT then none else H b) H H2 b = some (.lst (ds.map V.int)) := ov_fresh (at_base hA) (fresh_back e1 nb) hb
    have hA := at_grow hA e12
    generalize ov (fun b => if b = PT then none else H b) H H2 = B1 at hb1 hA
    have hbB : ∀ {B' H' : Hp} {l : List MP}, Ex B1 B' → At B' l H' → H' b = some (.lst (ds.map V.int)) := fun b1 hA => at_base hA _ _ (b1 _ _ hb1)
    obtain ⟨n, hn1, hn8⟩ := modN (y := drw ds 0) (n := 8) (by decide)
    have hn1 : drw ds 0 % 8 = (n : Int) := hn1
    have dr : ∀ {σ : L2.St} {B' H' : Hp} {l : List MP} {tj : TE} {j : Int} {k : Nat}, σ[1]? = some (some (.ref b)) → Ex B1 B' → At B' l H' → Ev tj σ H' (.int j) → j = (k : Int) → Ev (tCall (spDraw K) [] E0 (tCons (tVar 1) (tCons tj tNil))) σ H' (.int (drw ds k)) := fun h1 bb hA hj e => ev_call (ea_cons (ev_var h1) (ea_cons hj ea_nil)) (spDraw_v (sq_of (hbB bb hA)) e)
    refine qe_asg (x := .int (n : Int)) hA (ev_is (ev_op (dr rfl (Ex.refl _) hA ev_c rfl) ev_c (rv_I (by decide))) (by rw [hn1])) fun H3 hA => ?_
    obtain ⟨c0, hc0⟩ : ∃ c0 : Int, drw ds 0 / 8 % 2 * 3 = c0 := ⟨_, rfl⟩
    refine q_do (go_lst (go_nil ⟨by show 0 ≤ sizeLine; decide, fun jl hjl => ?_⟩))
    have hA := at_new (o := .lst []) hA hjl (Ex.new hjl) upd_same
    -- the journals
    refine q_forR1 (n := (n : Int)) (ea_cons (ev_var rfl) ea_nil) (by omega) (fun i σ' H' => ∃ (js : List Int) (y4 : Option V), σ' = [some (.ref a), some (.ref b), some (.int (n : Int)), some (.ref jl), y4, none, none, none, none, none, none, none, none] ∧ At B1 [Pt jl (.lst (js.map V.int)), Pt PT (.tbl #[])] H' ∧ js.length = i ∧ js.Nodup ∧ ∀ x ∈ js, x < (i : Int) + c0)
      (fun H4 e4 => ⟨[], _, rfl, at_ex hA e4, rfl, List.nodup_nil, (fun _ h => nomatch h)⟩) (fun i σ' H' hi pp => ?_) (fun σ' H' pp => ?_)
    · obtain ⟨js, y4, rfl, hA, hjn, hjd, hjb⟩ := pp
      obtain ⟨x, hx1, hx2⟩ := modN (y := drw ds (1 + i)) (n := i + 1) (by omega)
      have hx1 : drw ds (1 + i) % ((i : Int) + 1) = (x : Int) := by rw [← hx1]; congr 1
      refine s_ins (K := K) (i := (x : Int)) (v := .int ((i : Int) + c0)) 0 rfl hA (ev_var rfl) (fun H5 e5 => ?_) (fun H5 e5 => ?_) (by omega) (by rw [List.length_map]; omega) (fun H5 hA => ?_)
      · exact ev_is (ev_op (dr rfl (Ex.refl _) (at_ex hA e5) (ev_op ev_c (ev_var rfl) rv_I0) (by show (1 : Int) + (i : Int) = ((1 + i : Nat) : Int); omega)) (ev_op (ev_var rfl) ev_c rv_I0) (rv_I (by omega))) (by rw [hx1])
      · exact ev_is (ev_op (ev_var rfl) (ev_op (ev_op (ev_op (dr rfl (Ex.refl _) (at_ex hA e5) ev_c rfl) ev_c (rv_I ⟨by decide, by decide⟩)) ev_c (rv_I (by decide))) ev_c (rv_I (show CMul _ 3 from .inr (by decide)))) rv_I0) (by rw [hc0])
      · have hA : At B1 [Pt jl (.lst ((js.take x ++ [(i : Int) + c0] ++ js.drop x).map V.int)), Pt PT (.tbl #[])] H5 := by
          rw [List.map_append, List.map_append, List.map_take, List.map_drop]
          exact hA
        have hp : (js.take x ++ [(i : Int) + c0] ++ js.drop x).Perm (((i : Int) + c0) :: js) := by
          have h1 : (js.take x ++ ((i : Int) + c0) :: js.drop x).Perm (((i : Int) + c0) :: (js.take x ++ js.drop x)) := List.perm_middle
          rw [List.take_append_drop] at h1
          rw [List.append_assoc]
          exact h1
        have hb' : ∀ y ∈ js, y < (i : Int) + c0 := hjb
        refine ⟨_, _, rfl, hA, by rw [hp.length_eq, List.length_cons, hjn], hp.nodup_iff.mpr (List.nodup_cons.mpr ⟨fun h => by have := hb' _ h; omega, hjd⟩), fun y hy => ?_⟩
        rcases List.mem_cons.mp (hp.mem_iff.mp hy) with rfl | hy
        · omega
        · have := hb' y hy
          omega
    · obtain ⟨js, y4, rfl, hA, hjn, hjd, _⟩ := pp
      have hjn : js.length = n := by rw [hjn, Int.toNat_natCast]
      refine q_do (go_lst (go_nil ⟨by show 0 ≤ sizeLine; decide, fun cl hcl => ?_⟩))
      have hA := at_new (o := .lst []) hA hcl (Ex.new hcl) upd_same
      have p18 : ∀ {σ : L2.St} {H : Hp}, Ev (tOp (rI CPow fun i j => .int (i ^ j.toNat)) (tC (.int 10)) (tC (.int 18))) σ H (.int 1000000000000000000) := by
        intro σ H
        refine' ev_is ?c ?d
        case c => walk_at "ev"
        case d => rfl
      -- the candidates
      refine q_forR1 (n := (n : Int)) (ea_cons (ev_var rfl) ea_nil) (by omega) (fun i σ' H' => ∃ (rs : List CaR) (B' : Hp) (y4 y6 y7 y8 : Option V), σ' = [some (.ref a), some (.ref b), some (.int (n : Int)), some (.ref jl), y4, some (.ref cl), y6, y7, y8, none, none, none, none] ∧ Ex B1 B' ∧ At B' [Pt cl (.lst (rs.map fun r => V.ref r.a)), Pt jl (.lst (js.map V.int)), Pt PT (.tbl #[])] H' ∧ rs.map (·.j) = js.take i ∧ rs.length = i ∧ ∀ r ∈ rs, B' r.a = some (.tup (caV r)))
        (fun H4 e4 => ⟨[], B1, _, _, _, _, rfl, Ex.refl _, at_ex hA e4, by rw [List.take_zero]; rfl, rfl, (fun _ h => nomatch h)⟩) (fun i σ' H' hi pp => ?_) (fun σ' H' pp => ?_)
      · obtain ⟨rs, B2, y4, y6, y7, y8, rfl, b2, hA, hrj, hrn, hra⟩ := pp
        refine qe_asg (x := .int (drw ds (8 + i))) hA (dr rfl b2 hA (ev_op ev_c (ev_var rfl) rv_I0) (by show (8 : Int) + (i : Int) = ((8 + i : Nat) : Int); omega)) fun H5 hA => ?_
        generalize drw ds (8 + i) = d
        refine qe_asg (x := .int (d % 4)) hA (ev_op (ev_var rfl) ev_c (rv_I (by decide))) fun H6 hA => ?_
        refine qe_asg (x := .int (d / 4 % 4)) hA (ev_op (ev_op (ev_var rfl) ev_c (rv_I ⟨by decide, by decide⟩)) ev_c (rv_I (by decide))) fun H7 hA => ?_
        refine q_whenS (b := decide (drw ds 0 / 16 % 4 = 1)) (fun σ' H' => ∃ e n' : Int, σ' = [some (.ref a), some (.ref b), some (.int (n : Int)), some (.ref jl), some (.int (i : Int)), some (.ref cl), some (.int d), some (.int e), some (.int n'), none, none, none, none] ∧ At B2 [Pt cl (.lst (rs.map fun r => V.ref r.a)), Pt jl (.lst (js.map V.int)), Pt PT (.tbl #[])] H') (et_test (ev_op (ev_op (ev_op (dr rfl b2 hA ev_c rfl) ev_c (rv_I ⟨by decide, by decide⟩)) ev_c (rv_I (by decide))) ev_c rv_eqI)) (fun _ H8 e8 => ⟨_, _, rfl, at_ex hA e8⟩) (fun _ H8 e8 Dn hDn => ?_) (fun σ' H8 ⟨e, n', hσ, hA⟩ => ?_)
        · refine qe_asg (x := .int (d / 16 * 198412637198412637 % (1000000000000000000 + 1))) (at_ex hA e8) (ev_op (ev_cb (ea_cons (ev_op (ev_op (ev_var rfl) ev_c (rv_I ⟨by decide, by decide⟩)) ev_c (rv_I (show CMul _ 198412637198412637 from .inr (by decide)))) ea_nil) rc_int) (ev_op p18 ev_c rv_I0) (rv_I (by decide))) fun H9 hA => ?_
          refine s_when (b := decide (d / 4 % 3 = 2)) (et_test (ev_op (ev_op (ev_op (ev_var rfl) ev_c (rv_I ⟨by decide, by decide⟩)) ev_c (rv_I (by decide))) ev_c rv_eqI)) (fun _ H10 e10 => ?_) (fun _ H10 e10 => hDn _ _ ⟨_, _, rfl, at_ex hA e10⟩)
          refine qe_asg (x := .int 1000000000000000000) (at_ex hA e10) p18 fun H11 hA => ?_
          exact s_asg (v := .int (d * 198412637198412637 % (1000000000000000000 + 1))) (ev_op (ev_cb (ea_cons (ev_op (ev_var rfl) ev_c (rv_I (show CMul _ 198412637198412637 from .inr (by decide)))) ea_nil) rc_int) (ev_op p18 ev_c rv_I0) (rv_I (by decide))) fun H12 e12 => hDn _ _ ⟨_, _, rfl, at_ex hA e12⟩
        · subst hσ
          have hil : i < js.length := by omega
          refine s_appT (K := K) (vs := [.int js[i], .int e, .int n']) 0 rfl hA (ev_var rfl) (ea_cons (ev_op (ev_var rfl) (ev_var rfl) (rv_ixL (sq_of (at_get (a := jl) 1 rfl hA)) (atI_nat (j := i) (by rw [List.getElem?_map, List.getElem?_eq_getElem hil]; rfl)))) (ea_cons (ev_var rfl) (ea_cons (ev_var rfl) ea_nil))) (by show 3 ≤ 100000; decide) (by rw [List.length_map]; omega) (fun p B3 H9 b3 hp hA => ?_)
          refine ⟨rs ++ [⟨p, js[i], e, n'⟩], B3, _, _, _, _, rfl, b2.trans b3, by rw [List.map_append]; exact hA, ?_, by rw [List.length_append, hrn]; rfl, fun r hr => ?_⟩
          · rw [List.map_append, hrj, List.take_succ, List.getElem?_eq_getElem hil]
            rfl
          · rcases List.mem_append.mp hr with hr | hr
            · exact b3 _ _ (hra r hr)
            · rw [List.mem_singleton.mp hr]
              exact hp
      · obtain ⟨rs, B2, y4, y6, y7, y8, rfl, b2, hA, hrj, hrn, hra⟩ := pp
        have hrn : rs.length = n := by rw [hrn, Int.toNat_natCast]
        have hrd : (rs.map (·.j)).Nodup := by
          rw [hrj, Int.toNat_natCast, ← hjn, List.take_length]
          exact hjd
        refine q_asgL (el_listOf (ev_var rfl) (at_get (a := cl) 0 rfl hA)) fun hp H5 np e5 hhp => ?_
        have hB3 : ov B2 H' H5 hp = some (.lst (rs.map fun r => V.ref r.a)) := ov_fresh (at_base hA) np hhp
        have hA := at_grow hA e5
        have b3 : Ex B2 (ov B2 H' H5) := ov_base
        generalize ov B2 H' H5 = B3 at hB3 hA b3
        have hra : ∀ r ∈ rs, B3 r.a = some (.tup (caV r)) := fun r hr => b3 _ _ (hra r hr)
        have lay : ∀ {d : PyData} {n : Nat}, Sd n d → PyData.eqv d d = true := fun h => eqv_self _ h.1
        refine q_do (go_call (go_cons (ev_var rfl) fun H6 e6 => go_nil ⟨hp, rs, #[], B3, _, rfl, at_ix 3 [2, 0, 1] (at_ex hA e6), LamP.TblIn.nil, at_base (at_ex hA e6) _ _ hB3, fun r hr => at_base (at_ex hA e6) _ _ (hra r hr), fun hn0 t H7 nt e7 ht => ?_, fun m r hm hmx B4 ps' t H7 b4 hT4 ht hA => ?_⟩))
        · have hA := at_ex hA (e6.trans e7)
          have hr7 : ∀ r ∈ rs, H7 r.a = some (.tup (caV r)) := fun r hr => at_base hA _ _ (hra r hr)
          refine q_when (b := false) (et_is (et_test (ev_neD (n := 3) (m := 3) (d := .list (rs.map roD)) (e := .list (rs.map roD)) (ed_of (ev_var rfl) (.lst (sq_of (at_base hA _ _ hB3)) (dp_rows hr7))) (ed_of (ev_var rfl) (.lst (sq_of (at_get (a := cl) 0 rfl hA)) (dp_rows hr7))) sd_rows sd_rows (by decide) (by decide))) (by rw [lay sd_rows]; rfl)) (fun h => nomatch h) (fun _ H8 e8 => ?_)
          have hz : n = 0 := by rw [← hrn, hn0]; rfl
          refine q_when (b := decide ((n : Int) = 0)) (et_test (ev_op (ev_var rfl) ev_c rv_eqI)) (fun _ H9 e9 => ?_) (fun hb H9 e9 => ?_)
          · have ht9 := (e8.trans e9) _ _ ht
            have sdF : Sd 2 (.tuple [.str "few", .bool true]) := sd_tuple fun d hd => by
              simp only [List.mem_cons, List.not_mem_nil, or_false] at hd
              rcases hd with rfl | rfl
              · exact sd_str (by decide +kernel)
              · exact sd_bool
            exact s_ret (ev_is (ev_eqD (n := 2) (m := 2) (d := .tuple [.str "few", .bool true]) (e := .tuple [.str "few", .bool true]) (ed_of (ev_var rfl) (.tup (st_of ht9) (.cons (.str _) (.cons (.bl _) .nil)))) (ed_tup (eds_cons ed_str (eds_cons (ed_bool ev_c) eds_nil)) (by decide)) sdF sdF (by decide) (by decide)) (by rw [lay sdF])) fun H10 e10 => q H10
          · have := of_decide_eq_false hb
            omega
        · have hrm := List.mem_of_getElem? hm
          have hr7 : ∀ r ∈ rs, H7 r.a = some (.tup (caV r)) := fun r hr => at_base hA _ _ (b4 _ _ (hra r hr))
          have hhp7 : H7 hp = some (.lst (rs.map fun r => V.ref r.a)) := at_base hA _ _ (b4 _ _ hB3)
          have hcl7 : H7 cl = some (.lst (rs.map fun r => V.ref r.a)) := at_get (a := cl) 1 rfl hA
          have ht7 : H7 t = some (.tup [.str "best", .int r.j]) := at_base hA _ _ ht
          have hpos : 0 < rs.length := List.length_pos_of_mem hrm
          refine q_when (b := false) (et_is (et_test (ev_neD (n := 3) (m := 3) (d := .list (rs.map roD)) (e := .list (rs.map roD)) (ed_of (ev_var rfl) (.lst (sq_of hhp7) (dp_rows hr7))) (ed_of (ev_var rfl) (.lst (sq_of hcl7) (dp_rows hr7))) sd_rows sd_rows (by decide) (by decide))) (by rw [lay sd_rows]; rfl)) (fun h => nomatch h) (fun _ H8 e8 => ?_)
          refine q_when (b := false) (et_is (et_test (ev_op (ev_var rfl) ev_c rv_eqI)) (decide_eq_false (by omega))) (fun h => nomatch h) (fun _ H9 e9 => ?_)
          have e79 := e8.trans e9
          have ix : ∀ {σ : L2.St} {H' : Hp} {i : Int} {v : V}, σ[10]? = some (some (.ref t)) → Ex H7 H' → atI [V.str "best", .int r.j] i = some v → Ev (tOp (rIxT K) (tVar 10) (tC (.int i))) σ H' v := fun h e hi => ev_op (ev_var h) ev_c (rv_ixT (st_of (e _ _ ht7)) hi)
          refine q_when (b := false) (et_is (et_or (a := false) (b := false) (et_is (et_test (ev_op (ix rfl e79 rfl) ev_c (rv_ne rfl))) rfl) (fun _ => et_is (et_or (a := false) (b := false) (et_is (et_not (et_B (ev_cb (ea_cons (ix rfl e79 rfl) (ea_cons ev_c ea_nil)) rc_isiI))) rfl) (fun _ => et_B (ev_cb (ea_cons (ix rfl e79 rfl) (ea_cons ev_c ea_nil)) rc_isiIB))) rfl)) rfl) (fun h => nomatch h) (fun _ H10 e10 => ?_)
          have e7 := e79.trans e10
          have ixr : ∀ {σ : L2.St} {H' : Hp} {k : Nat} {o : CaR}, σ[k]? = some (some (.ref o.a)) → Ex H7 H' → o ∈ rs → Ev (tOp (rIxT K) (tVar k) (tC (.int 0))) σ H' (.int o.j) := fun h e ho => ev_op (ev_var h) ev_c (rv_ixT (st_of (e _ _ (hr7 _ ho))) rfl)
          refine q_asgL (lc_caR (K := K) (fun o => decide (o.j = r.j)) (ev_var rfl) (e7 _ _ hcl7) (by omega) (fun _ => rfl) (fun o ho H11 e11 => et_test (ev_op (ixr rfl (e7.trans e11) ho) (ix rfl (e7.trans e11) rfl) rv_eqI)) (fun o ho H11 e11 _ => ev_var rfl)) fun ch H11 nch e11 hch => ?_
          rw [filter_one hrd hrm] at hch
          have e7 := e7.trans e11
          refine q_when (b := false) (et_is (et_test (ev_op (ev_cb (ea_cons (ev_var rfl) ea_nil) (rc_len (sq_of hch))) ev_c rv_neI)) (by rfl)) (fun h => nomatch h) (fun _ H12 e12 => ?_)
          have hch := e12 _ _ hch
          have e7 := e7.trans e12
          refine q_forLn (K := K) (xs := rs.map fun r => V.ref r.a) (ev_var rfl) (sq_of (e7 _ _ hcl7)) (fun i σ' H' => ∃ y12 : Option V, σ' = [some (.ref a), some (.ref b), some (.int (n : Int)), some (.ref jl), y4, some (.ref cl), y6, y7, y8, some (.ref hp), some (.ref t), some (.ref ch), y12] ∧ Ex H12 H') (fun H13 e13 => ⟨_, rfl, e13⟩) (fun i σ' H' _ pp => sq_of ((e7.trans pp.choose_spec.2) _ _ hcl7)) (fun i x σ' H' hx pp => ?_) (fun σ' H' pp => ?_)
          · obtain ⟨y12, rfl, e13⟩ := pp
            rw [List.getElem?_map] at hx
            cases ho : rs[i]? with
            | none => rw [ho] at hx; cases hx
            | some o =>
              rw [ho] at hx
              cases hx
              have hom := List.mem_of_getElem? ho
              have e7 := e7.trans e13
              refine s_when (b := false) (et_is (et_B (ev_call (ea_cons (ev_var rfl) (ea_cons (ev_op (ev_var rfl) ev_c (rv_ixL (sq_of (e13 _ _ hch)) (show _ = some (V.ref r.a) from rfl))) ea_nil)) (show SpV (spSu K) [.ref o.a, .ref r.a] H' (.bl (sur o r)) from fun H14 e14 Q q _ => ⟨o.a, r.a, o, r, rfl, (e7.trans e14) _ _ (hr7 o hom), (e7.trans e14) _ _ (hr7 r hrm), q⟩))) (hmx o hom)) (fun h => nomatch h) (fun _ H14 e14 => ⟨_, rfl, e13.trans e14⟩)
          · exact s_ret ev_c fun H13 e13 => q H13
theorem ok_law { f f_best f__law_stream f__law_draw f__law_best f__law_surpasses C_TooFew B_TooFew : Addr} {fd fd_best fd__law_stream fd__law_draw fd__law_best fd__law_surpasses : FuncData} (F : Fun K "law" "law" s_law f fd)
    (D_best : Df K mg "best" s_best ["candidates"] f_best fd_best)
    (D__law_stream : Df K mg "_law_stream" s__law_stream ["script", "many"] f__law_stream fd__law_stream)
    (D__law_draw : Df K mg "_law_draw" s__law_draw ["draws", "k"] f__law_draw fd__law_draw)
    (D__law_best : Df K mg "_law_best" s__law_best ["candidates"] f__law_best fd__law_best)
    (D__law_surpasses : Df K mg "_law_surpasses" s__law_surpasses ["other", "chosen"] f__law_surpasses fd__law_surpasses)
    
    (E_TooFew : Err K mg "TooFew" C_TooFew B_TooFew)
    {cB PT : Addr} (g_HallError : mg "HallError" = some (.ref B_TooFew)) (hc : fd_best.code = .ref cB) (TB : LamX.TabB base mg cB PT)
     (T : Glo mg) : FnOk P w K mg base CX0 20 f fd ["script"] (spLawT K PT) := by
  have G_best : FnOk P w K mg base (L2.CX P w) 3 f_best fd_best _ _ := ok_best D_best.F hc TB E_TooFew T
  have G__law_stream : FnOk P w K mg base CX0 1 f__law_stream fd__law_stream _ _ := ok_stream (k := 0) D__law_stream.F T
  have G__law_draw : FnOk P w K mg base CX0 1 f__law_draw fd__law_draw _ _ := ok_draw (k := 0) D__law_draw.F T
  have G__law_best : FnOk P w K mg base CX0 5 f__law_best fd__law_best _ _ := ok_lbest D__law_best.F D_best G_best E_TooFew g_HallError T
  have G__law_surpasses : FnOk P w K mg base CX0 1 f__law_surpasses fd__law_surpasses _ _ := ok_lsur D__law_surpasses.F T
  exact ok_lawG F D__law_stream G__law_stream D__law_draw G__law_draw D__law_best G__law_best D__law_surpasses G__law_surpasses T
end
open He (ga ma eqO eqO_ok)
theorem factsOk {P : Program} {w : World} {K2 : PySem.W.Frag} {h : Heap} {mg : Str → Option Value} {fa : Addr} (KX2 : K2.In h) (G : h.Ns mainGlobals mg) (hmg : mg "law" = some (.ref fa)) (c : obF0 K2 = vaF0) :
    ∃ (K : PySem.W.Frag) (fd : FuncData) (cB : Addr), K.In h ∧ K.lookup 41 = none ∧ h.get? 41 = some { cls := .none, data := .fields #[] } ∧ PySem.W.CodeHd h cB 41 ∧ (∀ (s : Shared) (v : Value), BindsTo s fd ⟨[v], []⟩ [("script", v)]) ∧ ∀ base : Heap, LamX.TabB base mg cB 41 → FnOk P w K mg base CX0 20 fa fd ["script"] (spLawT K 41) := by
  have cF0 : obF0 K2 = vaF0 := c
  have hTB : bTb K2 41 = true := (He.ba (show (bTb K2 41 && (obG0 (dropF K2 41)).1) = true from congrArg Prod.fst cF0)).1
  have g0 : (obG0 (dropF K2 41)).1 = true := (He.ba (show (bTb K2 41 && (obG0 (dropF K2 41)).1) = true from congrArg Prod.fst cF0)).2
  have gy0 : (obG0 (dropF K2 41)).2 = vaF0.2 := (show (obF0 K2).2 = vaF0.2 from congrArg Prod.snd cF0)
  have KX : (dropF K2 41).In h := dropF_in KX2
  have nT : (dropF K2 41).lookup 41 = none := dropF_no
  have hT := hf_tb KX2 hTB
  generalize dropF K2 41 = K at KX nT g0 gy0
  have z0 : factsF0 K = true := g0
  have y0 : [fnV K (ga K "best"), fnV K (ga K "_law_stream"), fnV K (ga K "_law_draw"), fnV K (ga K "_law_best"), fnV K (ga K "_law_surpasses"), fnV K (ga K "law")] = [fnD "best" "best" (hS 4), fnD "_law_stream" "_law_stream" (hS 6), fnD "_law_draw" "_law_draw" (hS 7), fnD "_law_best" "_law_best" (hS 8), fnD "_law_surpasses" "_law_surpasses" (hS 9), fnD "law" "law" (hS 10)] := gy0
  unfold factsF0 at z0
  obtain ⟨hE_TooFew, z0⟩ := He.ba z0
  obtain ⟨h_best, z0⟩ := He.ba z0
  obtain ⟨h__law_stream, z0⟩ := He.ba z0
  obtain ⟨h__law_draw, z0⟩ := He.ba z0
  obtain ⟨h__law_best, z0⟩ := He.ba z0
  obtain ⟨h__law_surpasses, z0⟩ := He.ba z0
  obtain ⟨h_law, z0⟩ := He.ba z0
  obtain ⟨hF_len, z0⟩ := He.ba z0
  obtain ⟨hF_int, z0⟩ := He.ba z0
  obtain ⟨hF_range, z0⟩ := He.ba z0
  obtain ⟨hF_max, z0⟩ := He.ba z0
  obtain ⟨hF_isinstance, z0⟩ := He.ba z0
  obtain ⟨hF_bool, z0⟩ := He.ba z0
  obtain ⟨hF_list, z0⟩ := He.ba z0
  obtain ⟨hF_ValueError, z0⟩ := He.ba z0
  have h_TAB := z0
  obtain ⟨e_best, y0⟩ := List.cons.inj y0
  obtain ⟨e__law_stream, y0⟩ := List.cons.inj y0
  obtain ⟨e__law_draw, y0⟩ := List.cons.inj y0
  obtain ⟨e__law_best, y0⟩ := List.cons.inj y0
  obtain ⟨e__law_surpasses, y0⟩ := List.cons.inj y0
  obtain ⟨e_law, y0⟩ := List.cons.inj y0
  obtain ⟨E_TooFew, g_TooFew_HallError, n_TooFew⟩ := hf_err KX G hE_TooFew
  obtain ⟨f_best, fd_best, D_best⟩ := hf_df (st := s_best) (ps := ["candidates"]) KX G h_best e_best (fun _ _ _ _ _ _ us hl => match us, hl with | [_], _ => rfl)
  obtain ⟨f__law_stream, fd__law_stream, D__law_stream⟩ := hf_df (st := s__law_stream) (ps := ["script", "many"]) KX G h__law_stream e__law_stream (fun _ _ _ _ _ _ us hl => match us, hl with | [_, _], _ => rfl)
  obtain ⟨f__law_draw, fd__law_draw, D__law_draw⟩ := hf_df (st := s__law_draw) (ps := ["draws", "k"]) KX G h__law_draw e__law_draw (fun _ _ _ _ _ _ us hl => match us, hl with | [_, _], _ => rfl)
  obtain ⟨f__law_best, fd__law_best, D__law_best⟩ := hf_df (st := s__law_best) (ps := ["candidates"]) KX G h__law_best e__law_best (fun _ _ _ _ _ _ us hl => match us, hl with | [_], _ => rfl)
  obtain ⟨f__law_surpasses, fd__law_surpasses, D__law_surpasses⟩ := hf_df (st := s__law_surpasses) (ps := ["other", "chosen"]) KX G h__law_surpasses e__law_surpasses (fun _ _ _ _ _ _ us hl => match us, hl with | [_, _], _ => rfl)
  obtain ⟨fd, hb, F⟩ := hf_law (st := s_law) KX G hmg h_law e_law (fun _ _ _ _ _ _ _ _ => .of_eq rfl)
  obtain ⟨cB, hcB, hCd⟩ := hf_cd KX G D_best h_best h_TAB
  exact ⟨K, fd, cB, KX, nT, hT, hCd, hb, fun base TB => ok_law F D_best D__law_stream D__law_draw D__law_best D__law_surpasses E_TooFew g_TooFew_HallError hcB TB ⟨hf_free KX G hF_len, hf_free KX G hF_int, hf_free KX G hF_range, hf_free KX G hF_max, hf_free KX G hF_isinstance, hf_free KX G hF_bool, hf_free KX G hF_list, hf_free KX G hF_ValueError⟩⟩
end Ap
open PySem PySem.W PyProof.Rows
set_option maxHeartbeats 0 in
theorem PySem.Challenge.cw_appendhall_k23_best_candidate_holds : PySem.Challenge.rw_appendhall_k23_best_candidate.Holds := by
  w_on; o_law
  refine HandSHeadRun.head_any (r := OpenLaw.row PySem.Challenge.rw_appendhall_k23_best_candidate) (q := Ap.hQ) (H := Ap.hkF Ap.asL Ap.obF0 Ap.vaF0) (ob := fun s => Ap.obF0 (He.frG (HandSHeadRun.getT s) Ap.asL)) (M := 60000) (loose := Ap.looseN) (d := HandSHeadRun.topDef (OpenLaw.row PySem.Challenge.rw_appendhall_k23_best_candidate).prog 10) (kwd := []) Ap.hkF_eq
    (by kernel_rfl) (fun s => by kernel_rfl) Ap.runF0 (by kernel_rfl) (by kernel_rfl) (by kernel_rfl) (by rfl) (by first | assumption | decide +kernel) (by decide +kernel) ⟨rfl, rfl, rfl, rfl, rfl, by decide +kernel⟩ ?hw ?hc
  case hw => w_witness2
  case hc =>
    refine LamX.walk_ofTsE (l := PySem.Challenge.rw_appendhall_k23_best_candidate) (n := 63) (k := 20) (x := "script") (CX := fun _ => L2.CX0) rfl (by decide) (by kernel_rfl) ⟨rfl, by decide, by decide⟩ ?F (fun _ _ _ _ _ z => z)
    intro w mg fa h Y G hmg0
    obtain ⟨K, KX, c⟩ := Y
    have hmg : mg ("law" : PySem.Str) = some (.ref fa) := by
      have e : (HandSHeadRun.topDef (OpenLaw.row PySem.Challenge.rw_appendhall_k23_best_candidate).prog 10).name = ("law" : PySem.Str) := by kernel_rfl
      rw [← e]
      exact hmg0
    obtain ⟨K, fd, cB, KX, nT, hT, hCd, hb, hF⟩ := Ap.factsOk (P := (PySem.Challenge.rw_appendhall_k23_best_candidate).prog) (w := w) KX G hmg c
    exact ⟨K, KX, fd, [(cB, 41)], Ap.spLawT K 41, fun p hp => by rw [List.mem_singleton.mp hp]; exact hT, fun p hp => by rw [List.mem_singleton.mp hp]; exact nT, fun p hp => by rw [List.mem_singleton.mp hp]; exact hCd, hb, fun H a ns hl _ hTT hS => ⟨a, ns, rfl, hS, hl, hTT _ (List.mem_singleton.mpr rfl), fun _ => rfl⟩, fun base _ _ hTB => hF base (hTB _ (List.mem_singleton.mpr rfl))⟩
#print axioms PySem.Challenge.cw_appendhall_k23_best_candidate_holds
