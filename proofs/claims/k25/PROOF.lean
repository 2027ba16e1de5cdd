import PyProof.Rows.All
import Wide.All
import OpenK.AllK
import Wide.FinOn
import HandS.Base
import HandS.Call
import HandS.Ends
import HandS.Words
import HandS.Head0
import HandS.Head1
import HandS.Head2
import HandS.HeadEnd
import HandS.HeadHook1
import HandS.ForMost
import HandS.Evl
import HandS.Walk
import HandS.SortKw
import HandS.DictComp
import HandS.IsInst
import HandS.ForExc
import HandS.TupAny
import HandS.Conv
import HandS.Property
import HandS.ExcIs
import HandS.Deep
import HandS.SetBool
import HandS.SetKeys
import HandS.OwnIter
import HandS.OwnEq
import HandS.IterNext
import PyProof.InstSpecial
import KE.KOwnIter
import HandS.ClsMeth
import OpenK.KDescr
import HandS.Defaults
import OpenK.KMore
import HandS.Style
import KE.GoesEnum
import PyProof.ListRange
import HandS.IterVal
import HandS.SortInts
import HandS.More
import HandS.HeadHook3
import HandS.Proxy
import HandS.Iter
import KE.KUnpackStar
import HandS.Text
import HandS.HotCalls
import HandS.WordsDict
import KE.DataMinMax
import HandS.Wide
import PyProof.StrBlock2
import PyProof.Rows.StrSplitJoin
import PyProof.Rows.StrItems
import PyProof.StrLawsChain
import HandS.Codes
import HandS.TupLe
import PyProof.Rows.StrReprJoin
import PySem.Challenge.RW_appendhall_k25_paths_both_ways
set_option Elab.async false
set_option linter.all false
set_option maxRecDepth 100000
set_option maxHeartbeats 2000000
namespace Ap
open PySem PySem.Spec PyProof.Rows L2
open He (ga ma eqO eqO_ok ba frG frG_in FnV)
def hf_cdB (K : PySem.W.Frag) (f : Addr) (q : Str) : Bool := match K.lookup f with
  | some ⟨_, _, .func fd, _⟩ => PySem.W.codeIn K fd.code q
  | _ => false
def fnV (K : PySem.W.Frag) (f : Addr) : FnV := match K.lookup f with
  | some ⟨_, _, .func fd, _⟩ => some (fd.name, fd.qualname, fd.params, fd.body, fd.scope, fd.globals, fd.closure, fd.defaults, fd.builtins)
  | _ => none
def fnD (x q : Str) (st : Stmt) : FnV := some (x, q, defArgs st, .stmts (defBody st), defScope st, mainGlobals, [], .none, builtinsNs)
theorem hf_fn_got {K : PySem.W.Frag} {f : Addr} {x q : Str} {st : Stmt} (e : fnV K f = fnD x q st) (c : hf_cdB K f q = true) :
    ∃ oc od osl kV doc pm an cdv ct, K.lookup f = some ⟨oc, od, .func (PySem.W.fnOf x q (defArgs st) (defBody st) (defScope st) .none kV doc pm an cdv ct), osl⟩ ∧ PySem.W.codeIn K cdv q = true := by
  have c2 : (match K.lookup f with
    | some ⟨_, _, .func fd, _⟩ => PySem.W.codeIn K fd.code q
    | _ => false) = true := c
  unfold fnV at e
  cases h : K.lookup f with
  | none =>
    rw [h] at c2
    cases c2
  | some o =>
    obtain ⟨oc, od, dt, osl⟩ := o
    rw [h] at c2 e
    cases dt with
    | func fd =>
      obtain ⟨n1, n2, n3, n4, n5, n6, n7, n8, n9, n10, n11, n12, n13, n14, n15⟩ := fd
      have e2 : (some (n1, n2, n3, n4, n5, n6, n7, n8, n15) : FnV) = some (x, q, defArgs st, .stmts (defBody st), defScope st, mainGlobals, [], .none, builtinsNs) := e
      simp only [Option.some.injEq, Prod.mk.injEq] at e2
      obtain ⟨h1, h2, h3, h4, h5, h6, h7, h8, h9⟩ := e2
      subst h1 h2 h3 h4 h5 h6 h7 h8 h9
      exact ⟨oc, od, osl, n9, n10, n11, n12, n13, n14, rfl, c2⟩
    | _ => cases c2
def bG (K : PySem.W.Frag) (x : Str) : Bool := eqO (PySem.W.nsIn K mainGlobals x) (some (some (.ref (ga K x))))
def bFree (K : PySem.W.Frag) (x : Str) : Bool := eqO (PySem.W.nsIn K mainGlobals x) (some none)
def bInt (K : PySem.W.Frag) (x : Str) (i : Int) : Bool := match PySem.W.nsIn K mainGlobals x with
  | some (some (.int j _)) => decide (j = i)
  | _ => false
def bStr (K : PySem.W.Frag) (x z : Str) : Bool := match PySem.W.nsIn K mainGlobals x with
  | some (some (.str y _)) => decide (y = z)
  | _ => false
def bDf (K : PySem.W.Frag) (x : Str) : Bool := bG K x && (PySem.W.keepIn K (.ref (ga K x)) && hf_cdB K (ga K x) x)
/-- an own error class x beneath y -/
def bErr (K : PySem.W.Frag) (x y : Str) : Bool := bG K x && (bG K y && (PySem.W.keepIn K (.ref (ga K x)) && (PySem.W.excIn K (ga K x) [.type "ValueError", .type "Exception", .type "BaseException", .type "object"] "ValueError.__new__" &&
  (decide (PySem.W.subIn K (.ref (ga K x)) (.type "BaseException") = some true) && (decide (PySem.W.typeIn K (.ref (ga K x)) = some (.type "type")) && (decide (PySem.W.subIn K (.ref (ga K x)) (.ref (ga K x)) = some true) &&
  (eqO (PySem.W.findIn K (.ref (ga K x)) "__getattribute__") (some (some (.builtin "BaseException.__getattribute__"))) && (eqO (PySem.W.findIn K (.ref (ga K x)) "__getattr__") (some none) && (PySem.W.hasDictIn K (ga K x) &&
  (eqO (PySem.W.findIn K (.ref (ga K x)) "__class__") (some (some (.builtin "object.__class__"))) && (eqO (PySem.W.specialIn K (.builtin "object.__class__") "__get__") (some (some (.builtin "getset_descriptor.__get__"))) &&
  (decide (PySem.W.takesIn K (.builtin "object.__class__") = some true) && (decide (PySem.W.mroIn K (ga K x) (.type "object") = some true) && (PySem.W.hasDictIn K (ga K y) && (decide (PySem.W.typeIn K (.ref (ga K y)) = some (.type "type")) &&
  (decide (PySem.W.subIn K (.ref (ga K x)) (.ref (ga K y)) = some true) && decide (PySem.W.subIn K (.ref (ga K x)) (.type "ValueError") = some true)))))))))))))))))
/-- the Hook: the objects at as, read off the run, say ob -/
def hkF {α : Type} (as : List Addr) (ob : PySem.W.Frag → α) (v : α) : PySem.W.Hook where
  α := α
  obs := fun s => ob (frG s.heap.get? as)
  val := fun _ => v
  says := fun _ h => ∃ K : PySem.W.Frag, K.In h ∧ ob K = v
  of := fun _ _ e => ⟨_, frG_in, e⟩
  keeps := fun _ _ _ ⟨K, hK, c⟩ k => ⟨K, PySem.W.Frag.In.keeps hK k, c⟩
theorem hkF_eq {α : Type} {as : List Addr} {ob : PySem.W.Frag → α} {v : α} (s : PySem.W.SharedT) : ob (frG (HandSHeadRun.getT s) as) = (hkF as ob v).obs s.abs := by
  have e : HandSHeadRun.getT s = s.abs.heap.get? := funext (HandSHeadRun.getT_eq s)
  show ob (frG (HandSHeadRun.getT s) as) = ob (frG s.abs.heap.get? as)
  rw [e]
end Ap
set_option Elab.async false
set_option linter.all false
set_option maxRecDepth 100000
set_option maxHeartbeats 0
namespace Ap
open PySem PySem.Spec PyProof.Rows L2
open He (ga ma eqO)
def hS (i : Nat) : Stmt := PySem.Challenge.pw_appendhall_k25_paths_both_ways.main.body.getD i (.Pass ⟨0, 0, 0, 0⟩)
def asL0 : List Addr := [2, 3, 15, 22, 23, 24, 25, 28, 35, 36, 37, 40, 47, 48, 49, 52, 59, 60, 61, 64, 71, 72, 73, 76, 83, 84, 85, 88, 90, 91, 93, 94, 95, 97, 98, 100, 101, 102, 104, 105]
def asL1 : List Addr := [107, 108, 109, 112, 113, 114, 117, 118, 119, 121, 122, 124, 125, 126, 128, 129, 131, 132, 133, 135, 136, 138, 139, 140, 142, 143, 145, 146, 147, 149, 150, 152, 153, 154, 156, 157, 159, 160, 161, 163]
def asL2 : List Addr := [164, 166, 167, 168, 170, 171, 173, 174, 175, 177, 178, 180, 181, 182, 184, 185, 187, 188, 189, 191, 192, 194, 195, 196, 198, 199, 201, 202, 203, 205, 206, 208, 209, 210, 212, 213, 215, 216, 217, 219]
def asL3 : List Addr := [220, 222, 223, 224, 226, 227, 229, 230, 231, 233, 234, 236, 237, 238, 240, 241, 243, 244, 245, 247, 248, 250, 251, 252, 254, 255, 257, 258]
def asL : List Addr := asL0 ++ asL1 ++ asL2 ++ asL3
def looseN0 : List PySem.Str := [("HallError" : PySem.Str), ("BadValue" : PySem.Str), ("BadWords" : PySem.Str), ("BadPath" : PySem.Str), ("BadCommand" : PySem.Str), ("Unknown" : PySem.Str), ("NAMES_MOST" : PySem.Str), ("_ROOT" : PySem.Str), ("_NAME_MOST" : PySem.Str), ("_NAME_CHARS" : PySem.Str), ("split_path" : PySem.Str), ("join_path" : PySem.Str), ("is_within" : PySem.Str), ("_are_names" : PySem.Str), ("_is_name" : PySem.Str), ("_law_stream" : PySem.Str), ("_law_draw" : PySem.Str), ("_law_good" : PySem.Str), ("_law_name" : PySem.Str), ("_law_near" : PySem.Str), ("_law_names" : PySem.Str), ("_law_bad_path" : PySem.Str), ("_law_split_raises" : PySem.Str), ("_law_join_raises" : PySem.Str), ("_law_within_raises" : PySem.Str), ("_law_spoilt_name" : PySem.Str), ("_law_spoilt_path" : PySem.Str), ("_law_spoilt_names" : PySem.Str), ("_law_second" : PySem.Str), ("_law_text_is" : PySem.Str), ("_law_list_is" : PySem.Str), ("_law_both_ways" : PySem.Str), ("_law_truth" : PySem.Str), ("_law_within" : PySem.Str)]
def looseN : List PySem.Str := looseN0
abbrev hR : PySem.W.OpenRow := PySem.W.OpenLaw.row PySem.Challenge.rw_appendhall_k25_paths_both_ways
abbrev hQ : Program := PySem.W.view hR.prog [37]
def factsF0 (K : PySem.W.Frag) : Bool := (bErr K "BadPath" "HallError" && (bG K "HallError" && (decide (PySem.W.exmOne K (.ref (ga K "BadPath")) (.ref (ga K "HallError")) = some true) && (bG K "BadCommand" && (bG K "BadValue" && (bG K "BadWords" && (bG K "Unknown" && (decide (PySem.W.kitAny K (.ref (ga K "BadPath")) [.ref (ga K "BadCommand"), .ref (ga K "BadValue"), .ref (ga K "BadWords"), .ref (ga K "Unknown")] = some false) && (bInt K "NAMES_MOST" (6) && (bStr K "_ROOT" "/" && (bInt K "_NAME_MOST" (12) && (bStr K "_NAME_CHARS" ".-abcdefghijklmnopqrstuvwxyz0123456789" && (bDf K "_is_name" && (bDf K "_are_names" && (bDf K "split_path" && (bDf K "join_path" && (bDf K "is_within" && (bDf K "_law_stream" && (bDf K "_law_draw" && (bDf K "_law_good" && (bDf K "_law_name" && (bDf K "_law_near" && (bDf K "_law_names" && (bDf K "_law_text_is" && (bDf K "_law_truth" && (bDf K "_law_list_is" && (bDf K "_law_both_ways" && (bDf K "_law_within" && (bDf K "_law_bad_path" && (bDf K "_law_split_raises" && (bDf K "_law_join_raises" && (bDf K "_law_within_raises" && (bDf K "_law_spoilt_name" && (bDf K "_law_spoilt_path" && (bDf K "_law_spoilt_names" && (bDf K "_law_second" && (bDf K "law" && (bFree K "len" && (bFree K "int" && (bFree K "range" && (bFree K "isinstance" && (bFree K "bool" && (bFree K "tuple" && (bFree K "list" && (bFree K "str" && (bFree K "all" && bFree K "ValueError"))))))))))))))))))))))))))))))))))))))))))))))
def obF0 (K : PySem.W.Frag) : Bool × List He.FnV := (factsF0 K, [fnV K (ga K "_is_name"), fnV K (ga K "_are_names"), fnV K (ga K "split_path"), fnV K (ga K "join_path"), fnV K (ga K "is_within"), fnV K (ga K "_law_stream"), fnV K (ga K "_law_draw"), fnV K (ga K "_law_good"), fnV K (ga K "_law_name"), fnV K (ga K "_law_near"), fnV K (ga K "_law_names"), fnV K (ga K "_law_text_is"), fnV K (ga K "_law_truth"), fnV K (ga K "_law_list_is"), fnV K (ga K "_law_both_ways"), fnV K (ga K "_law_within"), fnV K (ga K "_law_bad_path"), fnV K (ga K "_law_split_raises"), fnV K (ga K "_law_join_raises"), fnV K (ga K "_law_within_raises"), fnV K (ga K "_law_spoilt_name"), fnV K (ga K "_law_spoilt_path"), fnV K (ga K "_law_spoilt_names"), fnV K (ga K "_law_second"), fnV K (ga K "law")])
def vaF0 : Bool × List He.FnV := (true, [fnD "_is_name" "_is_name" (hS 16), fnD "_are_names" "_are_names" (hS 15), fnD "split_path" "split_path" (hS 12), fnD "join_path" "join_path" (hS 13), fnD "is_within" "is_within" (hS 14), fnD "_law_stream" "_law_stream" (hS 18), fnD "_law_draw" "_law_draw" (hS 19), fnD "_law_good" "_law_good" (hS 20), fnD "_law_name" "_law_name" (hS 21), fnD "_law_near" "_law_near" (hS 22), fnD "_law_names" "_law_names" (hS 23), fnD "_law_text_is" "_law_text_is" (hS 32), fnD "_law_truth" "_law_truth" (hS 35), fnD "_law_list_is" "_law_list_is" (hS 33), fnD "_law_both_ways" "_law_both_ways" (hS 34), fnD "_law_within" "_law_within" (hS 36), fnD "_law_bad_path" "_law_bad_path" (hS 24), fnD "_law_split_raises" "_law_split_raises" (hS 25), fnD "_law_join_raises" "_law_join_raises" (hS 26), fnD "_law_within_raises" "_law_within_raises" (hS 27), fnD "_law_spoilt_name" "_law_spoilt_name" (hS 28), fnD "_law_spoilt_path" "_law_spoilt_path" (hS 29), fnD "_law_spoilt_names" "_law_spoilt_names" (hS 30), fnD "_law_second" "_law_second" (hS 31), fnD "law" "law" (hS 37)])
theorem runF0 (w : World) : HandSHeadRun.RunEq hR hQ (hkF asL obF0 vaF0) (fun s => obF0 (He.frG (HandSHeadRun.getT s) asL)) 60000 looseN w := by
  intro os
  kernel_rfl
end Ap
set_option Elab.async false
set_option linter.all false
set_option maxRecDepth 100000
namespace Ap
open PySem PySem.Spec PyProof.Rows L2 Evl
section
variable {K : PySem.W.Frag} {σ : L2.St} {H H' : Hp} {ta tb tc te : TE} {t u : TT} {x y z v w : V} {r r' : R2}
theorem ev_chain {k m : Bool} (ha : Ev ta σ H x) (hb : Ev tb σ H y) (hr : RV r x y H (.bl k)) (hc : Ev tc σ H z) (hr' : RV r' y z H (.bl m)) : Ev (tChain r r' ta tb tc) σ H (.bl (k && m)) := fun H1 e Q q =>
  ha H1 e _ fun H2 e2 => hb H2 (e.trans e2) _ fun H3 e3 => hr H3 ((e.trans e2).trans e3) _ fun H4 e4 => ⟨k, rfl, by
    cases k with
    | true =>
      show tc σ H4 _
      exact hc H4 (((e.trans e2).trans e3).trans e4) _ fun H5 e5 => hr' H5 ((((e.trans e2).trans e3).trans e4).trans e5) Q fun H6 e6 => q H6 ((((e2.trans e3).trans e4).trans e5).trans e6)
    | false =>
      show Q (.bl false) H4
      exact q H4 ((e2.trans e3).trans e4)⟩
theorem rc_int {i : Int} : RC (fun xs H Q => (∃ i, xs = [.int i] ∧ Q (.int i) H) ∨ ∃ k, xs = [.bl k] ∧ Q (.int (if k then 1 else 0)) H) [.int i] H (.int i) := fun H1 _ _ q => Or.inl ⟨i, rfl, q H1 (Ex.refl H1)⟩
theorem rc_len {p : Addr} {xs : List V} (h : SqL K H p xs) : RC (fun xs H Q => ∃ p ys, xs = [.ref p] ∧ (SqL K H p ys ∨ SqT K H p ys) ∧ Q (.int ys.length) H) [.ref p] H (.int (xs.length : Int)) := fun H1 e _ q => ⟨p, xs, rfl, Or.inl (ex_l e h), q H1 (Ex.refl H1)⟩
end
section
variable {K : PySem.W.Frag} {σ : L2.St} {H H' : Hp} {ta tb tc te td ty tv : TE} {t u : TT} {x y z v w : V} {D : Ends} {tz : TS}
/-- isinstance(x, T) of a plain value -/
theorem rc_isi {x : V} {T X : String} {b : Bool} (ht : ∀ H, TyX K H x (.type X)) (hb : kitB X T = some b) : RC (rIsi K) [x, .ty T] H (.bl b) := fun H1 _ _ q => ⟨x, .ty T, .type X, .type T, b, rfl, .ty T, ht H1, kit_ty hb, q H1 (Ex.refl H1)⟩
theorem q_call {sp : Sp} {dvs vs : List V} {E : XK} {ta : TA} {i : Nat} (h : EvA ta σ H vs) (k : ∀ H1, Ex H H1 → sp (vs ++ dvs) H1 (fun v H2 => tz D (σ.set i (some v)) H2) E) : tSeq (tAsg (tCall sp dvs E ta) (gName i)) tz D σ H := h H (Ex.refl H) _ fun H1 e => k H1 e
theorem s_retCall {sp : Sp} {dvs vs : List V} {E : XK} {ta : TA} (h : EvA ta σ H vs) (k : ∀ H1, Ex H H1 → sp (vs ++ dvs) H1 D.rt E) : tRet (tCall sp dvs E ta) D σ H := h H (Ex.refl H) _ fun H1 e => k H1 e
end
def Dr (ds : List Int) : Prop := ∀ d ∈ ds, 0 ≤ d ∧ d < 5040
theorem Dr.nil : Dr [] := fun _ h => nomatch h
theorem Dr.app {ds : List Int} {d : Int} (h : Dr ds) (h0 : 0 ≤ d) (h1 : d < 5040) : Dr (ds ++ [d]) := fun e he => by
  rcases List.mem_append.mp he with he | he
  · exact h e he
  · rw [List.mem_singleton.mp he]
    exact ⟨h0, h1⟩
/-- a draw: the k-th one, 0 behind the last -/
def drw (ds : List Int) (k : Nat) : Int := ds.getD k 0
def spDraw (K : PySem.W.Frag) : Sp := fun vs H Q _ => ∃ (a : Addr) (ds : List Int) (k : Nat), vs = [.ref a, .int (k : Int)] ∧ SqL K H a (ds.map V.int) ∧ RetV (.int (drw ds k)) H Q
theorem spDraw_v {K : PySem.W.Frag} {H : Hp} {a : Addr} {ds : List Int} {j : Int} {k : Nat} (h : SqL K H a (ds.map V.int)) (e : j = (k : Int)) : SpV (spDraw K) [.ref a, .int j] H (.int (drw ds k)) := fun H1 e1 Q q E =>
  ⟨a, ds, k, by rw [e], ex_l e1 h, fun H2 e2 => q H2 e2⟩
def drI (ds : List Int) (j : Int) : Int := drw ds j.toNat
theorem spDrawI {K : PySem.W.Frag} {H : Hp} {a : Addr} {ds : List Int} {j : Int} (h : SqL K H a (ds.map V.int)) (e : 0 ≤ j) : SpV (spDraw K) [.ref a, .int j] H (.int (drI ds j)) := spDraw_v h (by omega)
structure Df (K : PySem.W.Frag) (mg : Str → Option Value) (x : Str) (st : Stmt) (ps : List Str) (f : Addr) (fd : FuncData) : Prop where
  F : Fun K x x st f fd
  b : Binds K fd ps []
  g : mg x = some (.ref f)
theorem df_mk {K : PySem.W.Frag} {mg : Str → Option Value} {h : Heap} (X : K.In h) (G : h.Ns mainGlobals mg) {x : Str} {st : Stmt} {ps : List Str} {f : Addr} {oc : Value} {od an : Option Addr} {sl : Array (Option Value)} {kV dc pm cd ct : Value}
    (a : PySem.W.nsIn K mainGlobals x = some (some (.ref f))) (l : K.lookup f = some ⟨oc, od, .func (PySem.W.fnOf x x (defArgs st) (defBody st) (defScope st) .none kV dc pm an cd ct), sl⟩) (c : PySem.W.codeIn K cd x = true) (k : PySem.W.keepIn K (.ref f) = true)
    (hb : ∀ (kV doc pm : Value) (an : Option Addr) (cdv ct : Value) (us : List Value), us.length = ps.length → bindArgs (PySem.W.fnOf x x (defArgs st) (defBody st) (defScope st) .none kV doc pm an cdv ct) ⟨us, []⟩ = pure (ps.zip us)) :
    ∃ f fd, Df K mg x st ps f fd := ⟨_, _, fun_mk l c k, (fun_mk l c k).binds hb, PySem.W.mg_of X G a⟩
theorem law_mk {K : PySem.W.Frag} {mg : Str → Option Value} {h : Heap} (X : K.In h) (G : h.Ns mainGlobals mg) {st : Stmt} {fa f : Addr} {oc : Value} {od an : Option Addr} {sl : Array (Option Value)} {kV dc pm cd ct : Value} (hfa : mg "law" = some (.ref fa))
    (a : PySem.W.nsIn K mainGlobals "law" = some (some (.ref f))) (l : K.lookup f = some ⟨oc, od, .func (PySem.W.fnOf "law" "law" (defArgs st) (defBody st) (defScope st) .none kV dc pm an cd ct), sl⟩) (c : PySem.W.codeIn K cd "law" = true) (k : PySem.W.keepIn K (.ref f) = true)
    (hb : ∀ (kV doc pm : Value) (an : Option Addr) (cdv ct : Value) (s : Shared) (v : Value), BindsTo s (PySem.W.fnOf "law" "law" (defArgs st) (defBody st) (defScope st) .none kV doc pm an cdv ct) ⟨[v], []⟩ [("script", v)]) :
    ∃ fd, (∀ (s : Shared) (v : Value), BindsTo s fd ⟨[v], []⟩ [("script", v)]) ∧ Fun K "law" "law" st fa fd := by
  have e := hfa.symm.trans (PySem.W.mg_of X G a)
  cases e
  exact ⟨_, fun s v => hb kV dc pm an cd ct s v, fun_mk l c k⟩
def spLaw (K : PySem.W.Frag) : Sp := fun vs H Q _ => ∃ (a : Addr) (ns : List Int), vs = [.ref a] ∧ SqL K H a (ns.map V.int) ∧ ns.length ≤ 63 ∧ ∀ H', Q (.bl true) H'
end Ap
set_option Elab.async false
set_option linter.all false
set_option maxRecDepth 100000
namespace Ap
open PySem PySem.Spec PyProof.Rows L2 Evl
section
variable {K : PySem.W.Frag} {H H' : Hp}
mutual
theorem dp_mono (e : Ex H H') : ∀ (d : PyData) (v : V), Dp K H v d → Dp K H' v d
  | .none, _, h => by cases h; exact .non
  | .bool b, _, h => by cases h; exact .bl b
  | .int i, _, h => by cases h; exact .int i
  | .str x, _, h => by cases h; exact .str x
  | .list ds, _, h => by
    cases h with
    | lst hs ha => exact .lst (ex_l e hs) (dpa_mono e ds _ ha)
  | .tuple ds, _, h => by
    cases h with
    | tup hs ha => exact .tup (ex_t e hs) (dpa_mono e ds _ ha)
  | .dict _, _, h => by cases h
theorem dpa_mono (e : Ex H H') : ∀ (ds : List PyData) (vs : List V), DpAll K H vs ds → DpAll K H' vs ds
  | [], _, h => by cases h; exact .nil
  | d :: ds, _, h => by
    cases h with
    | cons h1 h2 => exact .cons (dp_mono e d _ h1) (dpa_mono e ds _ h2)
end
theorem dpa_len : ∀ {vs : List V} {ds : List PyData}, DpAll K H vs ds → vs.length = ds.length
  | _, _, .nil => rfl
  | _, _, .cons _ h => by rw [List.length_cons, List.length_cons, dpa_len h]
theorem dpa_drop : ∀ {vs : List V} {ds : List PyData} (n : Nat), DpAll K H vs ds → DpAll K H (vs.drop n) (ds.drop n)
  | _, _, 0, h => h
  | _, _, n + 1, .nil => .nil
  | _, _, n + 1, .cons _ h2 => dpa_drop n h2
theorem dpa_take : ∀ {vs : List V} {ds : List PyData} (n : Nat), DpAll K H vs ds → DpAll K H (vs.take n) (ds.take n)
  | _, _, 0, _ => .nil
  | _, _, n + 1, .nil => .nil
  | _, _, n + 1, .cons h1 h2 => .cons h1 (dpa_take n h2)
end
/-- no dict within, no text out of range, at most n deep -/
def Sd (n : Nat) (d : PyData) : Prop := d.canLay0 = true ∧ d.depth ≤ n
def Sds (n : Nat) (ds : List PyData) : Prop := ∀ d ∈ ds, Sd n d
theorem sds_lay : ∀ {n : Nat} {ds : List PyData}, Sds n ds → PyData.canLayAll0 ds = true ∧ PyData.depthAll ds ≤ n
  | _, [], _ => ⟨by simp [PyData.canLayAll0], by simp [PyData.depthAll]⟩
  | n, d :: ds, h => by
    have h1 := h d List.mem_cons_self
    have h2 := sds_lay (fun e he => h e (List.mem_cons_of_mem _ he))
    exact ⟨by simp [PyData.canLayAll0, h1.1, h2.1], by have := h1.2; have := h2.2; simp only [PyData.depthAll]; omega⟩
theorem sd_list {n : Nat} {ds : List PyData} (h : Sds n ds) : Sd (n + 1) (.list ds) := ⟨by simp [PyData.canLay0, (sds_lay h).1], by have := (sds_lay h).2; simp only [PyData.depth]; omega⟩
theorem sd_str {n : Nat} {x : Str} (h : PyData.strOk x = true) : Sd n (.str x) := ⟨by simp [PyData.canLay0, h], by simp [PyData.depth]⟩
theorem sds_nil {n : Nat} : Sds n [] := fun _ h => nomatch h
theorem Sds.drop {n : Nat} {ds : List PyData} (h : Sds n ds) (k : Nat) : Sds n (ds.drop k) := fun e he => h e (List.mem_of_mem_drop he)
theorem Sds.take {n : Nat} {ds : List PyData} (h : Sds n ds) (k : Nat) : Sds n (ds.take k) := fun e he => h e (List.mem_of_mem_take he)
theorem Sd.shaped {d : PyData} {n : Nat} (h : Sd n d) (l : n ≤ 64) : SeqAt.shaped d = true := by
  unfold SeqAt.shaped
  rw [h.1, decide_eq_true (Nat.le_trans h.2 l)]
  rfl
def ov (H H1 H2 : Hp) : Hp := fun a => match H a with
  | some o => some o
  | none => match H1 a with
    | some _ => none
    | none => H2 a
theorem ov_ex {H H1 H2 : Hp} (e : Ex H H1) (e2 : Ex H1 H2) : Ex (ov H H1 H2) H2 := fun a o h => by
  unfold ov at h
  cases h0 : H a with
  | some o' =>
    rw [h0] at h
    rw [← h]
    exact e2 a o' (e a o' h0)
  | none =>
    rw [h0] at h
    cases h1 : H1 a with
    | some o' => rw [h1] at h; cases h
    | none => rw [h1] at h; exact h
theorem ov_base {H H1 H2 : Hp} : Ex H (ov H H1 H2) := fun a o h => by
  unfold ov
  rw [h]
theorem ov_grow {H H1 H2 H3 : Hp} (e2 : Ex H2 H3) : Ex (ov H H1 H2) (ov H H1 H3) := fun a o h => by
  unfold ov at h ⊢
  cases h0 : H a with
  | some o' => rw [h0] at h; exact h
  | none =>
    rw [h0] at h
    cases h1 : H1 a with
    | some o' => rw [h1] at h; cases h
    | none =>
      rw [h1] at h
      exact e2 a o h
theorem ov_later {H H1 H2 H3 : Hp} (e1 : Ex H1 H2) : Ex (ov H H2 H3) (ov H H1 H3) := fun a o h => by
  unfold ov at h ⊢
  cases h0 : H a with
  | some o' => rw [h0] at h; exact h
  | none =>
    rw [h0] at h
    cases h2 : H2 a with
    | some o' => rw [h2] at h; cases h
    | none =>
      rw [h2] at h
      have h1 : H1 a = none := fresh_back e1 h2
      rw [h1]
      exact h
theorem ov_new {H H1 H2 : Hp} {p : Addr} (e : Ex H H1) (e2 : Ex H1 H2) (hp : H2 p = none) {u : HO} : ov H H1 (upd H2 p u) p = some u := by
  have h1 : H1 p = none := fresh_back e2 hp
  have h0 : H p = none := fresh_back e h1
  unfold ov
  rw [h0, h1]
  exact upd_same
def EvD (K : PySem.W.Frag) (te : TE) (σ : L2.St) (H : Hp) (d : PyData) : Prop := ∀ H1, Ex H H1 → ∀ Q : VK, (∀ v H2, Ex H1 H2 → Dp K (ov H H1 H2) v d → Q v H2) → te σ H1 Q
/-- a new list of data -/
def EvN (K : PySem.W.Frag) (te : TE) (σ : L2.St) (H : Hp) (ds : List PyData) : Prop := ∀ H1, Ex H H1 → ∀ Q : VK, (∀ p xs H2, H1 p = none → Ex H1 H2 → H2 p = some (.lst xs) → DpAll K (ov H H1 H2) xs ds → Q (.ref p) H2) → te σ H1 Q
section
variable {K : PySem.W.Frag} {σ : L2.St} {H H' : Hp} {ta tb tc te : TE} {t u : TT} {x y z v w : V} {d e : PyData} {ds es : List PyData} {r : R2}
theorem ed_of (h : Ev te σ H v) (hd : Dp K H v d) : EvD K te σ H d := fun H1 e Q q => h H1 e Q fun H2 e2 => q v H2 e2 (dp_mono ov_base d v hd)
theorem ed_var {i : Nat} (h : σ[i]? = some (some v)) (hd : Dp K H v d) : EvD K (tVar i) σ H d := ed_of (ev_var h) hd
theorem ed_is (h : EvD K te σ H d) (q : d = e) : EvD K te σ H e := q ▸ h
theorem EvD.mono (e : Ex H H') (h : EvD K te σ H d) : EvD K te σ H' d := fun H1 a Q q => h H1 (e.trans a) Q fun v H2 e2 hd => q v H2 e2 (dp_mono (fun b o hb => by
  unfold ov at hb ⊢
  cases h0 : H b with
  | some o' => rw [h0] at hb; rw [e b o' h0]; exact hb
  | none =>
    rw [h0] at hb
    cases h1 : H1 b with
    | some o' => rw [h1] at hb; cases hb
    | none =>
      rw [h1] at hb
      rw [fresh_back a h1]
      exact hb) d v hd)
theorem ed_new (h : EvN K te σ H ds) : EvD K te σ H (.list ds) := fun H1 e Q q => h H1 e _ fun p xs H2 np e2 hp hs => q _ H2 e2 (.lst (sq_of (by
  have h1 := fresh_back e np
  unfold ov
  rw [h1, np]
  exact hp)) hs)
theorem atI_len {α β : Type} {xs : List α} {ys : List β} (h : xs.length = ys.length) {i : Int} {y : β} (hy : atI ys i = some y) : ∃ j : Nat, ys[j]? = some y ∧ ∀ x, xs[j]? = some x → atI xs i = some x := by
  unfold atI at hy ⊢
  cases e : ixN ys.length i with
  | none => rw [e] at hy; cases hy
  | some j =>
    rw [e] at hy
    refine ⟨j, hy, fun x hx => ?_⟩
    rw [h, e]
    exact hx
/-- the same part of two lists of one length -/
def cutA {α : Type} (xs : List α) (lo hi : Option Int) : List α := (xs.drop (HT.sIx xs.length 0 lo)).take (HT.sIx xs.length xs.length hi - HT.sIx xs.length 0 lo)
theorem dpa_cut {vs : List V} {lo hi : Option Int} (h : DpAll K H vs ds) : DpAll K H (cutV vs lo hi) (cutA ds lo hi) := by
  unfold cutV cutA
  rw [dpa_len h]
  exact dpa_take _ (dpa_drop _ h)
theorem en_slL {tl th : TO} {lo hi : Option Int} (h : EvD K te σ H (.list ds)) (h1 : EvO tl σ H lo) (h2 : EvO th σ H hi) : EvN K (tSl (rSlL K) te tl th) σ H (cutA ds lo hi) := fun H1 e Q q =>
  h H1 e _ fun v H2 e2 hv => h1 H2 (e.trans e2) _ fun H3 e3 => h2 H3 ((e.trans e2).trans e3) _ fun H4 e4 => by
    have e24 := e2.trans (e3.trans e4)
    cases hv with
    | @lst a xs _ hs hd =>
      exact ⟨a, xs, rfl, ex_l ((ov_ex e e2).trans (e3.trans e4)) hs, fun p hp => q p _ _ (fresh_back e24 hp) (e24.trans (Ex.new hp)) upd_same (dpa_cut (dpa_mono (ov_grow ((e3.trans e4).trans (Ex.new hp))) ds xs hd))⟩
theorem ev_eqD {n m : Nat} (ha : EvD K ta σ H d) (hb : EvD K tb σ H e) (sd : Sd n d) (se : Sd m e) (hn : n ≤ 64) (hm : m ≤ 64) : Ev (tOp (rEqD K) ta tb) σ H (.bl (PyData.eqv d e)) := fun H1 a Q q =>
  ha H1 a _ fun v H2 e2 hv => hb H2 (a.trans e2) _ fun w H3 e3 hw => ⟨d, e, dp_mono ((ov_ex a e2).trans e3) d v hv, dp_mono (ov_ex (a.trans e2) e3) e w hw, sd.shaped hn, se.shaped hm, q H3 (e2.trans e3)⟩
theorem ev_lenD (ha : EvD K ta σ H (.list ds)) : Ev (tCB (fun xs H Q => ∃ p ys, xs = [.ref p] ∧ (SqL K H p ys ∨ SqT K H p ys) ∧ Q (.int ys.length) H) (tCons ta tNil)) σ H (.int (ds.length : Int)) := fun H1 e Q q =>
  ha H1 e _ fun v H2 e2 hv => by
    cases hv with
    | @lst a xs _ hs hd => exact ⟨a, xs, rfl, .inl (ex_l (ov_ex e e2) hs), by rw [dpa_len hd]; exact q H2 e2⟩
variable {D : Ends} {tz : TS} {i : Nat}
theorem et_nil : EvT tYes σ H true := fun H1 _ _ q => q H1 (Ex.refl H1)
end
end Ap
set_option Elab.async false
set_option linter.all false
set_option maxRecDepth 100000
namespace Ap
open PySem PySem.Spec PyProof.Rows L2 Evl
/-- a block under a proposition -/
theorem pss_guard {X : Cx} {b : List Stmt} {t : TS} {p : Prop} (h : p → PSs X b t) : PSs X b (fun D σ H => p ∧ t D σ H) := ⟨fun pins s σ H D I q => (h q.1).run pins s σ H D I q.2⟩
/-- try: .. except X as n: suite, the errors of the body of one own class without fields -/
theorem ps_try_own {X : Cx} {C : Addr} {x n : Str} {c : Value} {i : Nat} {body suite : List Stmt} {b₀ : Stmt} {np pos pos' : Pos} {tb : WX → TS} {ts : Addr → TS} {Wout : WX} (hs : X.stack = X.env :: X.outer) (hf : X.env.frame = some X.env.locals) (hN : X.N.Nodup) (hi : X.N[i]? = some n) (hln : X.env.kindOf n = some .local) (hc : Names X x c) (tk : Takes X Wout)
    (hb : ∀ (W : WX) (pn : List (Addr × Obj)) (xe : Value → Shared → Prop), Takes (X.tr pn xe) W → PSs (X.tr pn xe) body (tb W))
    (hsu : ∀ (a : Addr) (oe : Obj) (pn : List (Addr × Obj)), Zc (.ref C) none oe → (∃ vs, oe.data = .fields vs) → PSs (X.suite a ((a, oe) :: pn)) (b₀ :: suite) (ts a)) :
    PS X (.Try body [.ExceptHandler (some (.Name x np)) (some n) (b₀ :: suite) pos'] [] [] pos) (fun D σ H => tb (wAs X.K c i (fun a cls d D σ H => (cls = .ref C ∧ d = none) ∧ ts a D σ H) Wout D) D σ H) :=
  ps_try_as hs hf hN hi hln hc tk (fun W pn xe tk' _ => hb W pn xe tk') (fun a oe cls d pn hz hf => pss_guard fun h => by
    obtain ⟨h1, h2⟩ := h
    subst h1
    subst h2
    exact hsu a oe pn hz hf)
/-- an own error class C over ValueError (through B), as the top left it -/
structure Err (K : PySem.W.Frag) (mg : Str → Option Value) (x : Str) (C B : Addr) : Prop where
  g : mg x = some (.ref C)
  kp : PySem.W.keepIn K (.ref C) = true
  ex : PySem.W.excIn K C [.type "ValueError", .type "Exception", .type "BaseException", .type "object"] "ValueError.__new__" = true
  bs : PySem.W.subIn K (.ref C) (.type "BaseException") = some true
  ty : PySem.W.typeIn K (.ref C) = some (.type "type")
  me : PySem.W.exmOne K (.ref C) (.ref C) = some true
  ec : ExcC K C
  k1 : PySem.W.kitOne K (.ref C) (.ref B) = some true
  k2 : PySem.W.kitOne K (.ref C) (.type "ValueError") = some true
theorem Err.mk' {X : Cx} {x m : Str} {C B : Addr} {j : Nat} {p p2 pos : Pos} (T : Err X.K X.mg x C B) (hg : Gl X x) (hdb : (x == ("__debug__" : Str)) = false := by decide) : PMk X (.Call (.Name x p) [.Constant (.str m) j p2] [] pos) (fun _ H Q => Q (.ref C) none H) :=
  pmk_own PySem.F.excBase_ValueError T.ex T.g T.kp (raises_own T.bs T.ty) hg hdb
/-- isinstance(e, T), e the error in hand -/
theorem ev_isE {K : PySem.W.Frag} {σ : L2.St} {H : Hp} {tx : TE} {D a : Addr} {i : Nat} {c : V} {cv : Value} {b : Bool} (h : σ[i]? = some (some (.ref a))) (hx : Ev tx σ H c) (hc : ∀ u, RelV c u → u = cv) (k : PySem.W.kitOne K (.ref D) cv = some b) : Ev (tCB (rIsE K D a) (tCons (tVar i) (tCons tx tNil))) σ H (.bl b) :=
  ev_cb (ea_cons (ev_var h) (ea_cons hx ea_nil)) fun H1 _ Q q => ⟨c, cv, b, rfl, hc, k, q H1 (Ex.refl H1)⟩
theorem cutA_from {α : Type} (xs : List α) (m : Nat) : cutA xs (some (m : Int)) none = xs.drop m := by
  unfold cutA
  rw [show HT.sIx xs.length 0 (some ((m : Nat) : Int)) = min m xs.length from HT.sIx_nat xs.length 0 m, HT.sIx_none]
  by_cases h : m ≤ xs.length
  · rw [Nat.min_eq_left h, ← List.length_drop, List.take_length]
  · rw [Nat.min_eq_right (by omega), List.drop_length, List.drop_eq_nil_of_le (by omega), List.take_nil]
theorem atI_getD {α : Type} {xs : List α} {i : Int} {d : α} (h0 : 0 ≤ i) (h1 : i < (xs.length : Int)) : atI xs i = some (xs.getD i.toNat d) := by
  obtain ⟨j, rfl⟩ := Int.eq_ofNat_of_zero_le h0
  have hj : j < xs.length := by omega
  refine atI_nat ?_
  rw [show ((j : Int)).toNat = j from rfl, List.getD_eq_getElem?_getD, List.getElem?_eq_getElem hj]
  rfl
section
variable {K : PySem.W.Frag} {σ : L2.St} {H H' : Hp} {ta tb te : TE} {ds es : List PyData}
theorem el_cat {xs ys : List V} (ha : EvL ta σ H xs) (hb : EvL tb σ H ys) (hl : xs.length + ys.length ≤ 100000) : EvL (tOp rCat ta tb) σ H (xs ++ ys) := fun H1 e Q q =>
  ha H1 e _ fun p H2 np e2 hp => hb H2 (e.trans e2) _ fun p' H3 np' e3 hp' => ⟨p, p', xs, ys, rfl, rfl, e3 _ _ hp, hp', sz_of hl, fun o ho => q o _ (fresh_back (e2.trans e3) ho) ((e2.trans e3).trans (Ex.new ho)) upd_same⟩
theorem rc_max2 {i j : Int} : RC (fun xs H Q => ∃ i j, xs = [.int i, .int j] ∧ Q (.int (if j > i then j else i)) H) [.int i, .int j] H (.int (if j > i then j else i)) := fun H1 _ Q q => ⟨i, j, rfl, q H1 (Ex.refl H1)⟩
theorem rc_min2 {i j : Int} : RC (fun xs H Q => ∃ i j, xs = [.int i, .int j] ∧ Q (.int (if j < i then j else i)) H) [.int i, .int j] H (.int (if j < i then j else i)) := fun H1 _ Q q => ⟨i, j, rfl, q H1 (Ex.refl H1)⟩
end
theorem kit_own {K : PySem.W.Frag} {t : Value} {B : Addr} (hd : PySem.W.hasDictIn K B = true) (ht : PySem.W.typeIn K (.ref B) = some (.type "type")) (hs : PySem.W.subIn K t (.ref B) = some true) : PySem.W.kitOne K t (.ref B) = some true := by
  obtain ⟨cd, hc, _⟩ := PySem.W.any_some hd
  unfold PySem.W.kitOne
  split
  · rfl
  · show (if ((PySem.W.clsIn K B).isSome && PySem.W.typeIn K (.ref B) == some (.type "type")) = true then PySem.W.subIn K t (.ref B) else none) = some true
    rw [hc, ht, if_pos (by rfl)]
    exact hs
theorem kit_blt {K : PySem.W.Frag} {t : Value} {n : String} (hm : PySem.W.kitMeta n = true) (hs : PySem.W.subIn K t (.type n) = some true) : PySem.W.kitOne K t (.type n) = some true := by
  unfold PySem.W.kitOne
  split
  · rfl
  · show (if PySem.W.kitMeta n = true then PySem.W.subIn K t (.type n) else none) = some true
    rw [if_pos hm]
    exact hs
theorem err_mk {K : PySem.W.Frag} {h : Heap} {mg : Str → Option Value} {x y : Str} {C B : Addr} (X : K.In h) (G : h.Ns mainGlobals mg) (a : PySem.W.nsIn K mainGlobals x = some (some (.ref C))) (b : PySem.W.nsIn K mainGlobals y = some (some (.ref B))) (kp : PySem.W.keepIn K (.ref C) = true)
    (ex : PySem.W.excIn K C [.type "ValueError", .type "Exception", .type "BaseException", .type "object"] "ValueError.__new__" = true) (bs : PySem.W.subIn K (.ref C) (.type "BaseException") = some true) (ty : PySem.W.typeIn K (.ref C) = some (.type "type")) (ss : PySem.W.subIn K (.ref C) (.ref C) = some true)
    (hg : PySem.W.findIn K (.ref C) "__getattribute__" = some (some (.builtin "BaseException.__getattribute__"))) (hk : PySem.W.findIn K (.ref C) "__getattr__" = some none) (hd : PySem.W.hasDictIn K C = true) (ha : PySem.W.findIn K (.ref C) "__class__" = some (some (.builtin "object.__class__")))
    (hn : PySem.W.specialIn K (.builtin "object.__class__") "__get__" = some (some (.builtin "getset_descriptor.__get__"))) (ht : PySem.W.takesIn K (.builtin "object.__class__") = some true) (hm : PySem.W.mroIn K C (.type "object") = some true)
    (dB : PySem.W.hasDictIn K B = true) (tB : PySem.W.typeIn K (.ref B) = some (.type "type")) (sb : PySem.W.subIn K (.ref C) (.ref B) = some true) (sv : PySem.W.subIn K (.ref C) (.type "ValueError") = some true) : Err K mg x C B ∧ mg y = some (.ref B) :=
  ⟨⟨PySem.W.mg_of X G a, kp, ex, bs, ty, PySem.W.exm_ref bs hd ty ss, ⟨hg, hk, bs, hd, ha, hn, ht, hm⟩, kit_own dB tB sb, kit_blt (by decide +kernel) sv⟩, PySem.W.mg_of X G b⟩
end Ap
set_option Elab.async false
set_option linter.all false
set_option maxRecDepth 100000
namespace Ap
open PySem PySem.Spec PyProof.Rows L2 Evl
mutual
inductive Dx (K : PySem.W.Frag) (H : Hp) : V → PyData → Prop
  | non : Dx K H .non .none
  | bl (b : Bool) : Dx K H (.bl b) (.bool b)
  | int (i : Int) : Dx K H (.int i) (.int i)
  | str (x : Str) : Dx K H (.str x) (.str x)
  | lst {a : Addr} {xs : List V} {ds : List PyData} : SqL K H a xs → DxAll K H xs ds → Dx K H (.ref a) (.list ds)
  | tup {a : Addr} {xs : List V} {ds : List PyData} : SqT K H a xs → DxAll K H xs ds → Dx K H (.ref a) (.tuple ds)
  | dic {a : Addr} {kvs : List (Key × V)} : H a = some (.dK kvs) → Dx K H (.ref a) (.dict [])
inductive DxAll (K : PySem.W.Frag) (H : Hp) : List V → List PyData → Prop
  | nil : DxAll K H [] []
  | cons {v : V} {vs : List V} {d : PyData} {ds : List PyData} : Dx K H v d → DxAll K H vs ds → DxAll K H (v :: vs) (d :: ds)
end
section
variable {K : PySem.W.Frag} {H H' : Hp}
mutual
theorem dx_mono (e : Ex H H') : ∀ (d : PyData) (v : V), Dx K H v d → Dx K H' v d
  | .none, _, h => by cases h; exact .non
  | .bool b, _, h => by cases h; exact .bl b
  | .int i, _, h => by cases h; exact .int i
  | .str x, _, h => by cases h; exact .str x
  | .list ds, _, h => by
    cases h with
    | lst hs ha => exact .lst (Evl.ex_l e hs) (dxa_mono e ds _ ha)
  | .tuple ds, _, h => by
    cases h with
    | tup hs ha => exact .tup (ex_t e hs) (dxa_mono e ds _ ha)
  | .dict _, _, h => by
    cases h with
    | dic h => exact .dic (e _ _ h)
theorem dxa_mono (e : Ex H H') : ∀ (ds : List PyData) (vs : List V), DxAll K H vs ds → DxAll K H' vs ds
  | [], _, h => by cases h; exact .nil
  | d :: ds, _, h => by
    cases h with
    | cons h1 h2 => exact .cons (dx_mono e d _ h1) (dxa_mono e ds _ h2)
end
theorem dxa_len : ∀ {vs : List V} {ds : List PyData}, DxAll K H vs ds → vs.length = ds.length
  | _, _, .nil => rfl
  | _, _, .cons _ h => by rw [List.length_cons, List.length_cons, dxa_len h]
theorem dxa_at : ∀ {vs : List V} {ds : List PyData} {i : Nat} {d : PyData}, DxAll K H vs ds → ds[i]? = some d → ∃ v, vs[i]? = some v ∧ Dx K H v d
  | _, _, i, d, .nil, h => by simp at h
  | _, _, 0, d, .cons h1 _, h => ⟨_, rfl, by
    have e := Option.some.inj (show some _ = some d from h)
    rw [← e]
    exact h1⟩
  | _, _, i + 1, d, .cons _ h2, h => by
    obtain ⟨v, e, q⟩ := dxa_at (i := i) h2 (by simpa using h)
    exact ⟨v, by simpa using e, q⟩
theorem dxa_atV : ∀ {vs : List V} {ds : List PyData} {i : Nat} {v : V}, DxAll K H vs ds → vs[i]? = some v → ∃ d, ds[i]? = some d ∧ Dx K H v d
  | _, _, i, v, .nil, h => by simp at h
  | _, _, 0, v, .cons h1 _, h => ⟨_, rfl, by
    have e := Option.some.inj (show some _ = some v from h)
    rw [← e]
    exact h1⟩
  | _, _, i + 1, v, .cons _ h2, h => by
    obtain ⟨d, e, q⟩ := dxa_atV (i := i) h2 (by simpa using h)
    exact ⟨d, by simpa using e, q⟩
theorem dxa_app : ∀ {vs ws : List V} {ds es : List PyData}, DxAll K H vs ds → DxAll K H ws es → DxAll K H (vs ++ ws) (ds ++ es)
  | _, _, _, _, .nil, h => h
  | _, _, _, _, .cons h1 h2, h => .cons h1 (dxa_app h2 h)
end
def EvX (K : PySem.W.Frag) (te : TE) (σ : L2.St) (H : Hp) (d : PyData) : Prop := ∀ H1, Ex H H1 → ∀ Q : VK, (∀ v H2, Ex H1 H2 → Dx K (ov H H1 H2) v d → Q v H2) → te σ H1 Q
def EvXs (K : PySem.W.Frag) (ta : TA) (σ : L2.St) (H : Hp) (ds : List PyData) : Prop := ∀ H1, Ex H H1 → ∀ Q : List V → Hp → Prop, (∀ vs H2, Ex H1 H2 → DxAll K (ov H H1 H2) vs ds → Q vs H2) → ta σ H1 Q
/-- a new list of data -/
def EvXN (K : PySem.W.Frag) (te : TE) (σ : L2.St) (H : Hp) (ds : List PyData) : Prop := ∀ H1, Ex H H1 → ∀ Q : VK, (∀ p xs H2, H1 p = none → Ex H1 H2 → H2 p = some (.lst xs) → DxAll K (ov H H1 H2) xs ds → Q (.ref p) H2) → te σ H1 Q
section
variable {K : PySem.W.Frag} {σ : L2.St} {H H' : Hp} {ta tb tc te : TE} {t u : TT} {x y z v w : V} {d e : PyData} {ds es : List PyData} {r : R2}
theorem ex_of (h : Ev te σ H v) (hd : Dx K H v d) : EvX K te σ H d := fun H1 e Q q => h H1 e Q fun H2 e2 => q v H2 e2 (dx_mono ov_base d v hd)
theorem ex_var {i : Nat} (h : σ[i]? = some (some v)) (hd : Dx K H v d) : EvX K (tVar i) σ H d := ex_of (ev_var h) hd
theorem ex_int {i : Int} (h : Ev te σ H (.int i)) : EvX K te σ H (.int i) := ex_of h (.int i)
theorem ex_str {s : Str} : EvX K (tC (.str s)) σ H (.str s) := ex_of ev_c (.str s)
theorem ex_bool {b : Bool} (h : Ev te σ H (.bl b)) : EvX K te σ H (.bool b) := ex_of h (.bl b)
theorem ex_non : EvX K (tC .non) σ H .none := ex_of ev_c .non
theorem EvX.mono (e : Ex H H') (h : EvX K te σ H d) : EvX K te σ H' d := fun H1 a Q q => h H1 (e.trans a) Q fun v H2 e2 hd => q v H2 e2 (dx_mono (fun b o hb => by
  unfold ov at hb ⊢
  cases h0 : H b with
  | some o' => rw [h0] at hb; rw [e b o' h0]; exact hb
  | none =>
    rw [h0] at hb
    cases h1 : H1 b with
    | some o' => rw [h1] at hb; cases hb
    | none =>
      rw [h1] at hb
      rw [fresh_back a h1]
      exact hb) d v hd)
theorem exs_nil : EvXs K tNil σ H [] := fun H1 _ _ q => q [] H1 (Ex.refl H1) .nil
theorem exs_cons {tr : TA} (h : EvX K te σ H d) (hr : EvXs K tr σ H ds) : EvXs K (tCons te tr) σ H (d :: ds) := fun H1 e Q q =>
  h H1 e _ fun v H2 e2 hv => hr H2 (e.trans e2) _ fun vs H3 e3 hs => q _ H3 (e2.trans e3) (.cons (dx_mono (ov_grow e3) d v hv) (dxa_mono (ov_later e2) ds vs hs))
theorem ex_tup {ta : TA} (h : EvXs K ta σ H ds) (hl : ds.length ≤ 100000) : EvX K (tTup ta) σ H (.tuple ds) := fun H1 e Q q =>
  h H1 e _ fun vs H2 e2 hs => ⟨by rw [dxa_len hs]; exact sz_of hl, fun p hp => q _ _ (e2.trans (Ex.new hp)) (.tup (st_of (ov_new e e2 hp)) (dxa_mono (ov_grow (Ex.new hp)) ds vs hs))⟩
theorem exn_lst {ta : TA} (h : EvXs K ta σ H ds) (hl : ds.length ≤ 100000) : EvXN K (tLst ta) σ H ds := fun H1 e Q q =>
  h H1 e _ fun vs H2 e2 hs => ⟨by rw [dxa_len hs]; exact sz_of hl, fun p hp => q p vs _ (fresh_back e2 hp) (e2.trans (Ex.new hp)) upd_same (dxa_mono (ov_grow (Ex.new hp)) ds vs hs)⟩
theorem ex_new (h : EvXN K te σ H ds) : EvX K te σ H (.list ds) := fun H1 e Q q => h H1 e _ fun p xs H2 np e2 hp hs => q _ H2 e2 (.lst (sq_of (by
  have h1 := fresh_back e np
  unfold ov
  rw [h1, np]
  exact hp)) hs)
theorem ex_ixL {i : Int} (ha : EvX K ta σ H (.list ds)) (hb : Ev tb σ H (.int i)) (h : atI ds i = some d) : EvX K (tOp (rIxL K) ta tb) σ H d := fun H1 e Q q =>
  ha H1 e _ fun v H2 e2 hv => hb H2 (e.trans e2) _ fun H3 e3 => by
    cases hv with
    | lst hs hd =>
      obtain ⟨j, hj, hx⟩ := atI_len (dxa_len hd) h
      obtain ⟨x, ex, dx⟩ := dxa_at hd hj
      exact ⟨_, _, i, x, rfl, rfl, Evl.ex_l ((ov_ex e e2).trans e3) hs, hx x ex, q x H3 (e2.trans e3) (dx_mono (ov_grow e3) d x dx)⟩
theorem exn_cat (ha : EvXN K ta σ H ds) (hb : EvXN K tb σ H es) (hl : ds.length + es.length ≤ 100000) : EvXN K (tOp rCat ta tb) σ H (ds ++ es) := fun H1 e Q q =>
  ha H1 e _ fun p xs H2 np e2 hp hs => hb H2 (e.trans e2) _ fun p' ys H3 np' e3 hp' ht =>
    ⟨p, p', xs, ys, rfl, rfl, e3 _ _ hp, hp', by rw [dxa_len hs, dxa_len ht]; exact sz_of hl, fun o ho => q o _ _ (fresh_back (e2.trans e3) ho) ((e2.trans e3).trans (Ex.new ho)) upd_same
      (dxa_app (dxa_mono (ov_grow (e3.trans (Ex.new ho))) ds xs hs) (dxa_mono ((ov_later e2).trans (ov_grow (Ex.new ho))) es ys ht))⟩
/-- a list that stands in the base, by its items -/
theorem exn_tup {a : Addr} {xs : List V} (ha : Ev ta σ H (.ref a)) (hs : SqL K H a xs) (hd : DxAll K H xs ds) : EvX K (tThen ta (kTup K)) σ H (.tuple ds) := fun H1 e Q q =>
  ha H1 e _ fun H2 e2 => .inl ⟨a, xs, rfl, Evl.ex_l (e.trans e2) hs, fun p hp => q _ _ (e2.trans (Ex.new hp)) (.tup (st_of (ov_new e e2 hp)) (dxa_mono ov_base ds xs hd))⟩
variable {D : Ends} {tz : TS} {i : Nat}
theorem dx_all {H2 : Hp} {v : V} {d : PyData} (e : Ex H H2) (h : Dx K (ov H H H2) v d) : Dx K H2 v d := dx_mono (ov_ex (Ex.refl H) e) d v h
theorem q_asgX (h : EvX K te σ H d) (k : ∀ v H1, Ex H H1 → Dx K H1 v d → tz D (σ.set i (some v)) H1) : tSeq (tAsg te (gName i)) tz D σ H := h H (Ex.refl H) _ fun v H1 e hv => k v H1 e (dx_mono (ov_ex (Ex.refl H) e) d v hv)
theorem q_asgXN (h : EvXN K te σ H ds) (k : ∀ p xs H1, H p = none → Ex H H1 → H1 p = some (.lst xs) → DxAll K H1 xs ds → tz D (σ.set i (some (.ref p))) H1) : tSeq (tAsg te (gName i)) tz D σ H :=
  h H (Ex.refl H) _ fun p xs H1 np e hp hs => k p xs H1 np e hp (dxa_mono (ov_ex (Ex.refl H) e) ds xs hs)
theorem s_retX (h : EvX K te σ H d) (k : ∀ v H1, Ex H H1 → Dx K (ov H H H1) v d → D.rt v H1) : tRet te D σ H := h H (Ex.refl H) _ k
end
end Ap
set_option Elab.async false
set_option linter.all false
set_option maxRecDepth 100000
set_option maxHeartbeats 2000000
set_option Elab.async false
set_option linter.all false
set_option maxRecDepth 100000
set_option maxHeartbeats 2000000
set_option Elab.async false
set_option linter.all false
set_option maxRecDepth 100000
namespace Ap
open PySem PySem.Spec PyProof.Rows L2 Evl
def tyN : PyData → String
  | .none => "NoneType"
  | .bool _ => "bool"
  | .int _ => "int"
  | .str _ => "str"
  | .list _ => "list"
  | .tuple _ => "tuple"
  | .dict _ => "dict"
theorem tyx_dx {K : PySem.W.Frag} {H : Hp} : ∀ {d : PyData} {v : V}, Dx K H v d → TyX K H v (.type (tyN d))
  | _, _, .non => .base .non
  | _, _, .bl b => .base (.bl b)
  | _, _, .int i => .base (.int i)
  | _, _, .str x => .base (.str x)
  | _, _, .lst hs _ => by
    rcases hs with (h | ⟨o, h⟩) | ⟨o, its, n, h, hc, _⟩
    · exact .base (.lst h)
    · exact .base (.frz h)
    · exact .kList h hc
  | _, _, .tup hs _ => by
    rcases hs with (h | ⟨o, h⟩) | ⟨o, its, n, h, hc, _⟩
    · exact .base (.tup h)
    · exact .fTuple h
    · exact .kTuple h hc
  | _, _, .dic h => .base (.dK h)
def isBoo : PyData → Bool
  | .bool _ => true
  | _ => false
def isStr : PyData → Bool
  | .str _ => true
  | _ => false
theorem kit_bool : ∀ d : PyData, kitB (tyN d) "bool" = some (isBoo d)
  | .none => (by decide +kernel : kitB "NoneType" "bool" = some false)
  | .bool _ => (by decide +kernel : kitB "bool" "bool" = some true)
  | .int _ => (by decide +kernel : kitB "int" "bool" = some false)
  | .str _ => (by decide +kernel : kitB "str" "bool" = some false)
  | .list _ => (by decide +kernel : kitB "list" "bool" = some false)
  | .tuple _ => (by decide +kernel : kitB "tuple" "bool" = some false)
  | .dict _ => (by decide +kernel : kitB "dict" "bool" = some false)
theorem kit_str : ∀ d : PyData, kitB (tyN d) "str" = some (isStr d)
  | .none => (by decide +kernel : kitB "NoneType" "str" = some false)
  | .bool _ => (by decide +kernel : kitB "bool" "str" = some false)
  | .int _ => (by decide +kernel : kitB "int" "str" = some false)
  | .str _ => (by decide +kernel : kitB "str" "str" = some true)
  | .list _ => (by decide +kernel : kitB "list" "str" = some false)
  | .tuple _ => (by decide +kernel : kitB "tuple" "str" = some false)
  | .dict _ => (by decide +kernel : kitB "dict" "str" = some false)
section
variable {K : PySem.W.Frag} {σ : L2.St} {H : Hp} {te : TE} {d : PyData} {T : String} {b : Bool}
theorem ev_isiX (h : EvX K te σ H d) (k : kitB (tyN d) T = some b) : Ev (tCB (rIsi K) (tCons te (tCons (tC (.ty T)) tNil))) σ H (.bl b) := fun H1 e Q q => h H1 e _ fun v H2 e2 hv =>
  ⟨v, .ty T, .type (tyN d), .type T, b, rfl, .ty T, tyx_dx (dx_mono (ov_ex e e2) d v hv), kit_ty k, q H2 e2⟩
end
/-- bounded: texts, lists and tuples of at most 1000, at most n deep -/
inductive Okd : Nat → PyData → Prop
  | non {n : Nat} : Okd n .none
  | bl {n : Nat} (b : Bool) : Okd n (.bool b)
  | int {n : Nat} (i : Int) : Okd n (.int i)
  | str {n : Nat} {x : Str} (h : x.length ≤ 1000) : Okd n (.str x)
  | dic {n : Nat} {kvs : List (PyData × PyData)} : Okd n (.dict kvs)
  | lst {n : Nat} {ds : List PyData} (h : ds.length ≤ 1000) (hs : ∀ d, d ∈ ds → Okd n d) : Okd (n + 1) (.list ds)
  | tup {n : Nat} {ds : List PyData} (h : ds.length ≤ 1000) (hs : ∀ d, d ∈ ds → Okd n d) : Okd (n + 1) (.tuple ds)
  | lsa {n : Nat} {ds : List PyData} (h : ds.length ≤ 1000) : Okd n (.list ds)
section
variable {K : PySem.W.Frag} {σ : L2.St} {H : Hp} {te tl : TE} {t : TT}
/-- [f(c) for c in text] -/
theorem el_lcS {j : Nat} {vs : List Nat} {z : Str} (v : Nat → V) (h : Ev tl σ H (.str z)) (hz : z.cps.size ≤ 40000) (hw : ∀ x, wipe ((wipe σ vs).set j (some x)) vs = wipe σ vs) (ht : ∀ (c : Nat) H1, Ex H H1 → EvT t ((wipe σ vs).set j (some (.str ⟨#[c]⟩))) H1 true)
    (he : ∀ (i c : Nat) H1, Ex H H1 → z.cps[i]? = some c → Ev te ((wipe σ vs).set j (some (.str ⟨#[c]⟩))) H1 (v i)) : EvL (tLc (iStr tl) (gName j) t te vs) σ H (given z.cps.size (fun _ => true) v) := fun H0 e Q q => h H0 e _ fun H1 e1 => ⟨z, rfl, fun Dl hD =>
  lc_it walk_str (Cw H1 (fun _ => true) v Dl) ⟨hD, Ex.new hD, upd_same⟩ (fun _ _ _ _ => trivial) (fun i x H2 H' hi p y => by
    obtain ⟨rfl, c, hc, rfl⟩ := y
    exact ⟨hw _, cw_turn p (by omega) (ht c H1 (e.trans e1)) (fun _ => he i c H1 (e.trans e1) hc)⟩) (fun H' p => q Dl H' (fresh_back e1 p.1) (e1.trans p.2.1) p.2.2)⟩
theorem ev_all {bs : List Bool} (h : EvL tl σ H (bs.map V.bl)) : Ev (tCB (rAll K) (tCons tl tNil)) σ H (.bl (bs.all id)) := fun H1 e Q q => h H1 e _ fun p H2 np e2 hp => ⟨p, bs, rfl, sq_of hp, q H2 e2⟩
theorem rc_lenS {z : Str} (h : z.length ≤ 100000) : RC (fun xs H Q => ∃ z, xs = [.str z] ∧ z.length ≤ sizeLine ∧ Q (.int z.length) H) [.str z] H (.int (z.length : Int)) := fun H1 _ Q q => ⟨z, rfl, sz_of h, q H1 (Ex.refl H1)⟩
theorem all_given (z : Str) (f : Nat → Bool) : ∃ bs : List Bool, given z.cps.size (fun _ => true) (fun i => V.bl (f (z.cps.getD i 0))) = bs.map V.bl ∧ bs.all id = z.cps.toList.all f := by
  refine ⟨z.cps.toList.map f, ?_, by rw [List.all_map]; rfl⟩
  unfold given
  rw [List.filter_eq_self.mpr (fun _ _ => rfl)]
  refine List.ext_getElem (by simp) (fun i h1 h2 => ?_)
  have h1 : i < z.cps.size := by simpa using h1
  simp [Array.getD, h1]
end
section
variable {K : PySem.W.Frag} {σ : L2.St} {H : Hp} {te tl : TE} {t : TT}
theorem given_map (ds : List PyData) (g : PyData → Bool) : given ds.length (fun _ => true) (fun i => V.bl (g (ds.getD i .none))) = (ds.map g).map V.bl := by
  unfold given
  rw [List.filter_eq_self.mpr (fun _ _ => rfl)]
  refine List.ext_getElem (by simp) (fun i h1 h2 => ?_)
  have h1 : i < ds.length := by simpa using h1
  simp [h1]
end
end Ap
set_option Elab.async false
set_option linter.all false
set_option maxRecDepth 100000
namespace Ap
open PySem PySem.Spec PyProof.Rows L2 Evl ClX
theorem Okd.mono {n m : Nat} {d : PyData} (h : Okd n d) : n ≤ m → Okd m d := by
  induction h generalizing m with
  | non => exact fun _ => .non
  | bl b => exact fun _ => .bl b
  | int i => exact fun _ => .int i
  | str h => exact fun _ => .str h
  | dic => exact fun _ => .dic
  | lst h hs ih =>
    intro hl
    obtain ⟨k, rfl⟩ : ∃ k, m = k + 1 := ⟨m - 1, by omega⟩
    exact .lst h fun d hd => ih d hd (by omega)
  | tup h hs ih =>
    intro hl
    obtain ⟨k, rfl⟩ : ∃ k, m = k + 1 := ⟨m - 1, by omega⟩
    exact .tup h fun d hd => ih d hd (by omega)
  | lsa h => exact fun _ => .lsa h
end Ap
set_option Elab.async false
set_option linter.all false
set_option maxRecDepth 100000
set_option Elab.async false
set_option linter.all false
set_option maxRecDepth 100000
set_option Elab.async false
set_option linter.all false
set_option maxRecDepth 100000
set_option Elab.async false
set_option linter.all false
set_option maxRecDepth 100000
set_option Elab.async false
set_option linter.all false
set_option maxRecDepth 100000
set_option maxHeartbeats 2000000
set_option Elab.async false
set_option linter.all false
set_option maxRecDepth 100000
set_option maxHeartbeats 2000000
set_option Elab.async false
set_option linter.all false
set_option maxRecDepth 100000
set_option maxHeartbeats 2000000
set_option Elab.async false
set_option linter.all false
set_option maxRecDepth 100000
set_option maxHeartbeats 2000000
namespace Ap
open PySem PySem.Spec PyProof.Rows L2 Evl
def lookS {α : Type} : List (Str × α) → Str → Option α
  | [], _ => none
  | p :: r, z => if p.1 = z then some p.2 else lookS r z
/-- a constant dict of texts to nested tuples -/
structure KdC (K : PySem.W.Frag) (w : World) (mg : Str → Option Value) (x : Str) (a : Addr) (L : List (Str × PyData)) : Prop where
  g : mg x = some (.ref a)
  D : ∃ es n, KDict K w a es n
  at_ : ∀ z, (∃ d v x, PySem.W.nsIn K a z = some (some v) ∧ lookS L z = some d ∧ RelV x v ∧ ∀ H, Dp K H x d) ∨ (PySem.W.nsIn K a z = some none ∧ lookS L z = none)
theorem KdC.dict {K : PySem.W.Frag} {w : World} {mg : Str → Option Value} {x : Str} {a : Addr} {L : List (Str × PyData)} (C : KdC K w mg x a L) : ∃ es n, KDict K w a es n := C.D
end Ap
set_option Elab.async false
set_option linter.all false
set_option maxRecDepth 100000
set_option maxHeartbeats 2000000
set_option Elab.async false
set_option linter.all false
set_option maxRecDepth 100000
set_option maxHeartbeats 2000000
namespace Ap
open PySem PySem.Spec PySem.Calls PyProof.Rows L2 Evl
section
variable {prog : Program} {w : World} {A : Around} {E : Value → Shared → Prop} {s : Shared}
theorem star_list {l : Addr} {items : Array Value} {n i : Nat} {Q : List Value → Shared → Prop} (hl : s.heap.IsList l items) (hh : A.handled = none) (hi : i < n) (hn : n ≤ items.size + 1) (hz : items.size ≤ 16384)
    (h : ∀ (h' : Heap) (tk : Nat), (∀ b o, s.heap.get? b = some o → h'.get? b = some o) → Q (items.toList.take i ++ [.ref h'.objs.size] ++ (items.toList.drop i).drop (items.size + 1 - n)) { s with heap := h'.push { cls := .type "list", data := .seq ((items.toList.drop i).take (items.size + 1 - n)).toArray }, toks := tk }) : wpAny (model prog w) A (unpackItems (.ref l) n (some i)) Q E s := by
  have hlt : l ≠ s.heap.objs.size := by obtain ⟨o, ho, _⟩ := hl; exact Nat.ne_of_lt (Heap.lt_size ho)
  unfold unpackItems
  refine wpAny_bind ?_
  unfold notIterableAtAll
  refine wpAny_bind (wpAny_specialOf hl.typeIs slot_list_iter.lookup ?_)
  refine wpAny_pure ?_
  simp only [Bool.false_eq_true, if_false]
  refine wpAny_bind (wpAny_holding (wpAny_pyIter_list hl ?_))
  refine wpAny_bind (wpAny_holding (PySem.W.kun_draw hlt i 0 _ _ ⟨_, Heap.get?_push_size _ rfl, rfl, rfl⟩ (hl.push _) (by omega) fun h₁ hit₁ hs₁ => ?_))
  have hl₁ : h₁.IsList l items := (hl.push _).extBut hs₁.extBut hlt
  rw [Nat.zero_add] at hit₁
  have hit₁' := hit₁
  obtain ⟨oi, hoi, _⟩ := hit₁'
  have hl₁' := hl₁
  obtain ⟨ol, hol, _⟩ := hl₁'
  rw [List.drop_zero]
  have hfl : (items.toList.take i).length = i := by rw [List.length_take, Array.length_toList]; omega
  rw [if_neg (show ¬ ((items.toList.take i).length < i) by rw [hfl]; omega)]
  refine wpAny_bind (wpAny_holding (PySem.W.kun_collect (s := { s with heap := h₁ }) (T := "list_iterator") (.inr (.inr (.inl rfl))) (Walks.list (A := A.in1) hh s.heap.objs.size l hlt items) (fun j u st => st.1.typeIs) (k := i) (by omega) ⟨hit₁, hl₁⟩ (Heap.lt_size hoi) (Heap.lt_size hol) (fun h₂ tk hk => ?_) (by rw [sizeLine_eq]; omega)))
  have hrl : (items.toList.drop i).length = items.size - i := by rw [List.length_drop, Array.length_toList]
  have hmid : (items.toList.drop i).length - (n - 1 - i) = items.size + 1 - n := by rw [hrl]; omega
  show wpAny _ _ (if (items.toList.drop i).length < n - 1 - i then _ else _) _ _ _
  rw [if_neg (by rw [hrl]; omega)]
  show wpAny _ _ (newList ((items.toList.drop i).take ((items.toList.drop i).length - (n - 1 - i))) >>= fun d => pure (items.toList.take i ++ [d] ++ (items.toList.drop i).drop ((items.toList.drop i).length - (n - 1 - i)))) _ _ _
  rw [hmid]
  have he : ∀ b o, s.heap.get? b = some o → h₂.get? b = some o := fun b o e => hk b o (Nat.ne_of_lt (Heap.lt_size e)) (hs₁.extBut b o (Nat.ne_of_lt (Heap.lt_size e)) (Heap.get?_push_of_some _ e))
  exact wpAny_bind (wpAny_newList (s := { s with heap := h₂, toks := tk }) (wpAny_pure (h h₂ tk he)) (by rw [List.length_take, hrl, sizeLine_eq]; omega))
end
section
variable {X : Cx} {pos : Pos}
theorem pgs_star {e : Expr} {es : List Expr} {t : TG} {u : TGs} {p : Pos} (h1 : PG X e t) (h2 : PGs X es u)
    (hs : (assignEach (.Starred e p :: es) X.env).map (·.2) = assign e X.env :: (assignEach es X.env).map (·.2) := by rfl) : PGs X (.Starred e p :: es) (gCons t u) := by
  refine ⟨fun pins s σ H vs us Q I r h => ?_⟩
  obtain ⟨v, vr, e1, h⟩ := h
  subst e1
  cases r with
  | cons r rr =>
    rw [hs]
    refine assignInOrder_cons (thn (h1.run pins s σ H _ _ _ I r h) fun _ s1 ⟨σ1, H1, I1, q1⟩ => ?_)
    exact h2.run pins s1 σ1 H1 _ _ Q I1 rr q1
/-- (a, *b, ..) = a list, the star at place i of n -/
def gStar (K : PySem.W.Frag) (n i : Nat) (t : TGs) : TG := fun v σ H Q => ∃ a xs, v = .ref a ∧ SqL K H a xs ∧ i < n ∧ n ≤ xs.length + 1 ∧ xs.length ≤ 16384 ∧ ∀ p, H p = none → t (xs.take i ++ [.ref p] ++ (xs.drop i).drop (xs.length + 1 - n)) σ (upd H p (.lst ((xs.drop i).take (xs.length + 1 - n)))) Q
theorem vals_take {xs : List V} {us : List Value} (r : Vals xs us) : ∀ n, Vals (xs.take n) (us.take n) := by
  induction r with
  | nil => intro n; rw [List.take_nil, List.take_nil]; exact .nil
  | cons a b ih =>
    intro n
    cases n with
    | zero => exact .nil
    | succ n => exact .cons a (ih n)
theorem vals_drop {xs : List V} {us : List Value} (r : Vals xs us) : ∀ n, Vals (xs.drop n) (us.drop n) := by
  induction r with
  | nil => intro n; rw [List.drop_nil, List.drop_nil]; exact .nil
  | cons a b ih =>
    intro n
    cases n with
    | zero => exact .cons a b
    | succ n => exact ih n
theorem vals_app {xs ys : List V} {us vs : List Value} (r : Vals xs us) (q : Vals ys vs) : Vals (xs ++ ys) (us ++ vs) := by
  induction r with
  | nil => exact q
  | cons a b ih => exact .cons a ih
theorem pg_star {es : List Expr} {k : Nat} {t : TGs} {n i : Nat} (hc : X.calm = true) (h : PGs X es t)
    (hn : (assignEach es X.env).length = n := by rfl) (hst : (assignEach es X.env).findIdx? (·.1) = some i := by rfl) : PG X (.Tuple es k pos) (gStar X.K n i t) := by
  refine ⟨fun pins s σ H v u Q I r hw => ?_⟩
  obtain ⟨a, xs, e1, hq, hi, hl, hz, hw⟩ := hw
  subst e1
  cases r
  obtain ⟨its, rv, pl, hsz⟩ := I.list hq
  have hlen : xs.length = its.length := rv.length
  rw [assign_Tuple]
  refine wpAny_bind (wpAny_standAt ?_)
  unfold unpack
  rw [hn, hst]
  refine wpAny_bind (wpAny_holding (star_list pl.isList (I.ok.hd hc) hi (by rw [List.size_toArray, ← hlen]; exact hl) (by rw [List.size_toArray, ← hlen]; exact hz) fun h' tk he => ?_))
  have I1 : Inv X pins σ H { s with heap := h', toks := tk } := I.kept (t' := tk) fun b o e => he b o e
  have hf : H h'.objs.size = none := I1.hok.fresh (Nat.le_refl _)
  have e2 : its.toArray.size + 1 - n = xs.length + 1 - n := by rw [List.size_toArray, hlen]
  rw [List.toList_toArray, e2]
  have I2 : Inv X pins σ (upd H h'.objs.size (.lst ((xs.drop i).take (xs.length + 1 - n)))) { s with heap := h'.push { cls := .type "list", data := .seq ((its.drop i).take (xs.length + 1 - n)).toArray }, toks := tk } :=
    I1.laid (t' := tk) (fun b u e => Heap.get?_push_of_some _ e) (Nat.le_refl _) ⟨sz_of (by rw [List.length_take, List.length_drop]; omega), _, 0, vals_take (vals_drop rv i) _, Heap.get?_push_size _ rfl⟩
  exact h.run pins _ σ _ _ _ Q I2 (vals_app (vals_app (vals_take rv i) (show Vals [V.ref h'.objs.size] [Value.ref h'.objs.size] from .cons rfl .nil)) (vals_drop (vals_drop rv i) _)) (hw _ hf)
end
end Ap
set_option Elab.async false
set_option linter.all false
set_option maxRecDepth 100000
namespace Ap
open PySem PySem.Spec PyProof.Rows L2 Evl
/-- the context bears the exception at a, of the own class D -/
def HasE (X : Cx) (D a : Addr) : Prop := ∃ oe : Obj, (a, oe) ∈ X.pn ∧ Zc (.ref D) none oe ∧ ∃ vs, oe.data = .fields vs
theorem hasE_suite {X : Cx} {D a : Addr} {oe : Obj} {pn : List (Addr × Obj)} (hz : Zc (.ref D) none oe) (hf : ∃ vs, oe.data = .fields vs) : HasE (X.suite a ((a, oe) :: pn)) D a := ⟨oe, List.mem_cons_self, hz, hf⟩
theorem HasE.inst {X : Cx} {D a : Addr} {pins : List (Addr × Obj)} {σ : L2.St} {H : Hp} {s : Shared} (c : HasE X D a) (I : Inv X pins σ H s) : ∃ oe, PySem.W.InstAt s.heap a oe D none := by
  obtain ⟨oe, hm, hz, vs, hv⟩ := c
  obtain ⟨hget, _⟩ := I.pin (a, oe) (List.mem_append_left _ hm)
  obtain ⟨oc, od, oda, osl⟩ := oe
  obtain ⟨h1, h2⟩ := hz
  dsimp only at h1 h2 hv
  subst h1 h2 hv
  exact ⟨_, hget, rfl, rfl, trivial⟩
/-- isinstance(e, c), one class | a tuple of classes -/
theorem call_isX {X : Cx} {D a : Addr} (C : ExcC X.K D) (c : HasE X D a) : CallR X (.builtin "isinstance") (rIsE X.K D a) := by
  intro pins s σ H xs us Q I r h
  obtain ⟨c', cv, b, rfl, hcv, e, q⟩ := h
  cases r with
  | cons rx rr =>
    cases rr with
    | cons rt rr =>
      cases rr
      cases rx
      have ec := hcv _ rt
      subst ec
      obtain ⟨oe, J⟩ := c.inst I
      exact PySem.W.kia_one (PySem.W.handS_kitx_exc C.hg C.hk C.hs C.hd C.ha C.hn C.ht C.hm) I.kIn J e (fun z => nomatch z) fun tk => ⟨.bl b, H, I.kept (t' := tk) fun _ _ z => z, rfl, q⟩
def rIsET (K : PySem.W.Frag) (D a : Addr) : List V → Hp → VK → Prop := fun xs H Q => ∃ (tp : Addr) (cs : List V) (us : List Value) (b : Bool), xs = [.ref a, .ref tp] ∧ H tp = some (.tup cs) ∧ Paired ClsV cs us ∧ PySem.W.kitAny K (.ref D) us = some b ∧ Q (.bl b) H
theorem call_isXT {X : Cx} {D a : Addr} (C : ExcC X.K D) (c : HasE X D a) : CallR X (.builtin "isinstance") (rIsET X.K D a) := by
  intro pins s σ H xs us Q I r h
  obtain ⟨tp, cs, ws, b, rfl, hT, k, e, q⟩ := h
  obtain ⟨u1, u2, rfl, r1, r2⟩ := vals2 r
  cases (show u2 = Value.ref tp from r2)
  cases (show u1 = Value.ref a from r1)
  obtain ⟨oe, J⟩ := c.inst I
  obtain ⟨_, its, rv, o, h1, h2, n, h3⟩ := (show ObjOk X.prog X.w H s.heap tp (.tup cs) from I.hok tp _ hT)
  have e3 := ClsV.all k rv
  subst e3
  obtain ⟨oc, od, dt, sl⟩ := o
  simp only at h2 h3
  subst h2 h3
  exact PySem.W.kia_tup (PySem.W.handS_kitx_exc C.hg C.hk C.hs C.hd C.ha C.hn C.ht C.hm) I.kIn J h1 e (fun z => nomatch z) fun tk => ⟨.bl b, H, I.kept (t' := tk) fun _ _ z => z, rfl, q⟩
/-- what such a def promises: a is where the exception stands, D its class -/
structure FnE (P : Program) (w : World) (K : PySem.W.Frag) (mg : Str → Option Value) (base : Heap) (D : Addr) (k : Nat) (f : Addr) (fd : FuncData) (ps : List Str) (sp : Addr → Sp) : Prop where
  len : ∀ a vs H Q E, sp a vs H Q E → vs.length = ps.length
  run : ∀ (A : Around) (outer : List Env) (s : Shared) (H : Hp) (args : Args) (us : List Value) (vs : List V) (Q : VK) (E : XK) (p : Addr × Obj), L2H.RoomH k A → Zc (.ref D) none p.2 → (∃ v, p.2.data = .fields v) → L2H.PinOk outer H s p → Env0 P w K mg base A outer s H → BindsTo s fd args (ps.zip us) → Vals vs us → sp p.1 vs H Q E →
    codeAny (model P w) A (.call (.ref f) args) (CR CX0 outer P w H s Q E) s
theorem FnE.mono {P : Program} {w : World} {K : PySem.W.Frag} {mg : Str → Option Value} {base : Heap} {D : Addr} {j k : Nat} {f : Addr} {fd : FuncData} {ps : List Str} {sp : Addr → Sp} (F : FnE P w K mg base D j f fd ps sp) (h : j ≤ k) : FnE P w K mg base D k f fd ps sp := ⟨F.len, fun A outer s H args us vs Q E p hr => F.run A outer s H args us vs Q E p (hr.mono h)⟩
section
variable {P : Program} {w : World} {K : PySem.W.Frag} {mg : Str → Option Value} {base : Heap}
theorem okE {D : Addr} {x qual : Str} {st : Stmt} {f : Addr} {fd : FuncData} {N ps : List Str} {k : Nat} {sp : Addr → Sp} (F : Fun K x qual st f fd) (S : FnScope N ps (defScope st)) (len : ∀ a vs H Q E, sp a vs H Q E → vs.length = ps.length)
    (hbody : ∀ (cdv : Value) (A : Around) (outer : List Env) (s : Shared) (H : Hp) (vs : List V) (Q : VK) (E : XK) (p : Addr × Obj), L2H.RoomH k (A.deeper (envOfC qual (defScope st) s.heap.objs.size f cdv)) → HasE (L2H.cxH CX0 P w K mg base N qual (defScope st) f cdv A outer s H E p) D p.1 → sp p.1 vs H Q E →
      ∃ t, PSs (L2H.cxH CX0 P w K mg base N qual (defScope st) f cdv A outer s H E p) (defBody st) t ∧ t { nx := fun _ H' => Q .non H', rt := Q } (start N vs) H) : FnE P w K mg base D (k + 1) f fd ps sp := by
  obtain ⟨oc, od, kV, doc, pm, an, cdv, ct, osl, rfl, lk, hcd⟩ := F.ex
  refine ⟨len, fun A outer s H args us vs Q E p hr hz hf hpin e0 hb r hsp => ?_⟩
  have hl := len _ _ _ _ _ hsp
  have KX : K.In s.heap := e0.mod.kin.keeps fun b o e => (e0.bs b o e).1
  have lim : s.heap.NoLimit := e0.mod.nolimit.keeps fun b o e => (e0.bs b o e).1
  have hkind : ∀ y ∈ ps.zip us, (defScope st).names.lookup y.1 = some .local ∨ ((defScope st).names.lookup y.1 = some .cell ∧ ((cellsFrom (s.heap.objs.size + 1) (defScope st).names []).lookup y.1).isSome = true) := fun ⟨n, v⟩ hy => by
    rcases S.par n (List.of_mem_zip hy).1 with q | q
    · exact .inl q
    · exact .inr ⟨q, PySem.W.cellsFrom_some _ _ _ (.inl q)⟩
  refine codeAny_call_function hr.depth (KX _ _ lk) rfl S.co S.gen rfl (PySem.W.codeRec_of KX hcd) (hb _ _ _ _ ?_)
  refine wpAny_newFunctionEnv_cells S.kind hkind fun env he s1 x => ?_
  subst he
  refine ⟨lim.keeps x.toInCall.keep, codeAny_func ?_⟩
  obtain ⟨t, ht, hq⟩ := hbody cdv A outer s H vs Q E p (hr.deeper _) ⟨p.2, by show p ∈ [p]; exact List.mem_singleton.mpr rfl, hz, hf⟩ hsp
  have I : Inv (L2H.cxH CX0 P w K mg base N qual (defScope st) f cdv A outer s H E p) [] (L2.start N vs) H s1 := L2H.inv_startH S hpin e0 hl r x
  refine wpAny_mono (ht.run [] s1 (L2.start N vs) H _ I hq) (fun fl s' hs => ?_) fun e s' hs => hs
  have fin : ∀ {σ' : L2.St} {H' : Hp} {v : V} {u : Value}, Inv (L2H.cxH CX0 P w K mg base N qual (defScope st) f cdv A outer s H E p) [] σ' H' s' → RelV v u → Q v H' → CE outer P w H s Q u s' :=
    fun {σ' H' v u} J rv q => ⟨v, H', J.os, J.bare, J.base, J.hok, rv, q⟩
  cases fl with
  | ret u =>
    obtain ⟨v, σ', H', J, rv, q⟩ := hs
    exact fin J rv q
  | next =>
    obtain ⟨σ', H', J, q⟩ := hs
    exact fin (v := V.non) (u := Value.none) J rfl q
  | brk =>
    obtain ⟨_, _, _, q⟩ := hs
    exact False.elim q
  | cont =>
    obtain ⟨_, _, _, q⟩ := hs
    exact False.elim q
end
section
variable {X : Cx} {k : Nat} {f D a : Addr} {fd : FuncData} {ps : List Str} {sp : Addr → Sp} {x : Str} {q pos : Pos} {e : Expr} {es : List Expr} {t : TA}
/-- f(e, ..) in the suite -/
theorem pe_callE (F : FnE X.prog X.w X.K X.mg X.base D k f fd ps sp) (hr : L2H.RoomH k X.A) (hc : HasE X D a) (hg : Gl X x) (hm : X.mg x = some (.ref f)) (hk : PySem.W.keepIn X.K (.ref f) = true) (hb : Binds X.K fd ps [])
    (ha : PA X (e :: es) t) (hdb : (x == ("__debug__" : Str)) = false := by decide) (he : starEach (e :: es) X.env = (false, eval e X.env) :: starEach es X.env := by rfl) (hpl : (backTo pos (starEach es X.env)).any (·.1) = false := by rfl) :
    PE X (.Call (.Name x q) (e :: es) [] pos) (tCall (sp a) [] E0 t) := by
  refine ⟨fun pins s σ H Q I h => ?_⟩
  refine wpAny_Call_Name_kw (ld_glob I hg hm ?_ hdb)
  refine PySem.W.callWith_K (h₀ := X.base) I.ok.mod.kin hk (thn (ha.run pos pins s σ H _ I h) fun us s1 ⟨vs, H1, I1, r, q⟩ => ⟨I1.kIn, ?_⟩) he hpl
  obtain ⟨oe, hp, hz, hf⟩ := hc
  have q : sp a vs H1 Q E0 := by
    have q2 : sp a (vs ++ []) H1 Q E0 := q
    rwa [List.append_nil] at q2
  have hl : us.length = ps.length := by rw [← r.length]; exact F.len _ _ _ _ _ q
  have b := hb s1 us I1.kIn (by rw [List.append_nil]; exact hl)
  rw [List.append_nil] at b
  have P1 := I1.pin (a, oe) (List.mem_append_left _ hp)
  have hpin : L2H.PinOk X.stack H1 s1 (a, oe) := ⟨P1.1, P1.2.1, fun hm => (List.mem_cons.mp (I1.stkSub a hm)).elim P1.2.2.1 P1.2.2.2.1, P1.2.2.2.2⟩
  refine wpAny_call (codeAny_mono (F.run X.A X.stack s1 H1 ⟨us, []⟩ us vs Q E0 (a, oe) hr hz hf hpin I1.env0 b r q) fun r s' hq => ?_)
  cases r with
  | error e => exact hq.elim
  | ok fl =>
    cases fl with
    | ret u => exact I1.after hq
    | next => exact False.elim hq
    | brk => exact False.elim hq
    | cont => exact False.elim hq
end
end Ap
set_option Elab.async false
set_option linter.all false
set_option maxRecDepth 100000
namespace Ap
open PySem PySem.Spec PyProof.Rows L2 Evl
section
variable {K : PySem.W.Frag} {σ : L2.St} {H H' : Hp} {ta tb tc te : TE} {t u : TT} {x y z v w : V}
theorem et_orF (h1 : EvT t σ H false) (h2 : EvT u σ H false) : EvT (tOr t u) σ H false := et_or (a := false) (b := false) h1 (fun _ => h2)
theorem et_andT (h1 : EvT t σ H true) (h2 : EvT u σ H true) : EvT (tAnd t u) σ H true := et_and (a := true) (b := true) h1 (fun _ => h2)
theorem et_nt (h : EvT t σ H true) : EvT (tNot t) σ H false := et_not h
theorem et_nf (h : EvT t σ H false) : EvT (tNot t) σ H true := et_not h
theorem ev_andT (h1 : Ev ta σ H (.bl true)) (h2 : Ev tb σ H (.bl true)) : Ev (tAndV ta tb) σ H (.bl true) := ev_andV (a := true) (b := true) h1 (fun _ => h2)
theorem ev_orF (h1 : Ev ta σ H (.bl false)) (h2 : Ev tb σ H (.bl false)) : Ev (tOrV ta tb) σ H (.bl false) := ev_orV (a := false) (b := false) h1 (fun _ => h2)
theorem ev_nt (h : Ev ta σ H (.bl true)) : Ev (tNotV ta) σ H (.bl false) := ev_notV h
theorem ev_nf (h : Ev ta σ H (.bl false)) : Ev (tNotV ta) σ H (.bl true) := ev_notV h
theorem rc_isiI : RC (rIsi K) [.int x', .ty "int"] H (.bl true) := rc_isi (X := "int") (fun _ => .base (.int _)) (by decide +kernel)
theorem rc_isiIB : RC (rIsi K) [.int x', .ty "bool"] H (.bl false) := rc_isi (X := "int") (fun _ => .base (.int _)) (by decide +kernel)
theorem rc_isiB : RC (rIsi K) [.bl x', .ty "bool"] H (.bl true) := rc_isi (X := "bool") (fun _ => .base (.bl _)) (by decide +kernel)
theorem rc_isiBI : RC (rIsi K) [.bl x', .ty "int"] H (.bl true) := rc_isi (X := "bool") (fun _ => .base (.bl _)) (by decide +kernel)
theorem rv_eqI {i j : Int} : RV rEq (.int i) (.int j) H (.bl (decide (i = j))) := by
  have h := rv_eq (x := .int i) (y := .int j) (H := H) rfl
  have e : decide (V.int i = V.int j) = decide (i = j) := by
    by_cases q : i = j
    · rw [decide_eq_true q, decide_eq_true (by rw [q])]
    · rw [decide_eq_false q, decide_eq_false (fun h => q (V.int.inj h))]
  rwa [e] at h
theorem rv_neI {i j : Int} : RV rNe (.int i) (.int j) H (.bl (!decide (i = j))) := by
  have h := rv_ne (x := .int i) (y := .int j) (H := H) rfl
  have e : decide (V.int i = V.int j) = decide (i = j) := by
    by_cases q : i = j
    · rw [decide_eq_true q, decide_eq_true (by rw [q])]
    · rw [decide_eq_false q, decide_eq_false (fun h => q (V.int.inj h))]
  rwa [e] at h
end
end Ap
set_option Elab.async false
set_option linter.all false
set_option maxRecDepth 100000
namespace Ap
open PySem PySem.Spec PyProof.Rows L2 Evl
structure MP where
  p : Hp → Hp → Prop
  m : ∀ B B' H H', Ex B B' → Ex H H' → p B H → p B' H'
end Ap
set_option Elab.async false
set_option linter.all false
set_option maxRecDepth 100000
namespace Ap
open PySem PySem.Spec PyProof.Rows L2 Evl
structure Rr where
  r : V → Hp → Prop
  m : ∀ {v : V} {B B' : Hp}, Ex B B' → r v B → r v B'
def isLst : PyData → Bool
  | .list _ => true
  | _ => false
theorem kit_lst : ∀ d : PyData, kitB (tyN d) "list" = some (isLst d)
  | .none => (by decide +kernel : kitB "NoneType" "list" = some false)
  | .bool _ => (by decide +kernel : kitB "bool" "list" = some false)
  | .int _ => (by decide +kernel : kitB "int" "list" = some false)
  | .str _ => (by decide +kernel : kitB "str" "list" = some false)
  | .list _ => (by decide +kernel : kitB "list" "list" = some true)
  | .tuple _ => (by decide +kernel : kitB "tuple" "list" = some false)
  | .dict _ => (by decide +kernel : kitB "dict" "list" = some false)
/-- bounded, and no dict within -/
inductive Okn : Nat → PyData → Prop
  | non {n : Nat} : Okn n .none
  | bl {n : Nat} (b : Bool) : Okn n (.bool b)
  | int {n : Nat} (i : Int) : Okn n (.int i)
  | str {n : Nat} (x : Str) : Okn n (.str x)
  | lst {n : Nat} {ds : List PyData} (h : ds.length ≤ 50000) (hs : ∀ d, d ∈ ds → Okn n d) : Okn (n + 1) (.list ds)
  | tup {n : Nat} {ds : List PyData} (h : ds.length ≤ 50000) (hs : ∀ d, d ∈ ds → Okn n d) : Okn (n + 1) (.tuple ds)
theorem Okn.mono {n m : Nat} {d : PyData} (h : Okn n d) : n ≤ m → Okn m d := by
  induction h generalizing m with
  | non => exact fun _ => .non
  | bl b => exact fun _ => .bl b
  | int i => exact fun _ => .int i
  | str x => exact fun _ => .str x
  | lst h hs ih =>
    intro hl
    obtain ⟨k, rfl⟩ : ∃ k, m = k + 1 := ⟨m - 1, by omega⟩
    exact .lst h fun d hd => ih d hd (by omega)
  | tup h hs ih =>
    intro hl
    obtain ⟨k, rfl⟩ : ∃ k, m = k + 1 := ⟨m - 1, by omega⟩
    exact .tup h fun d hd => ih d hd (by omega)
section
variable {K : PySem.W.Frag} {σ : L2.St} {H : Hp} {te ta tb : TE} {tr : TA} {v : V} {D : Ends} {tz : TS} {E : XK} {sp : Sp} {r : R2}
theorem go_cons {Q : List V → Hp → Prop} (h : Ev te σ H v) (k : ∀ H1, Ex H H1 → tr σ H1 fun xs H2 => Q (v :: xs) H2) : tCons te tr σ H Q := h H (Ex.refl H) _ k
theorem go_cons' {Q : List V → Hp → Prop} (h : te σ H fun v H1 => tr σ H1 fun xs H2 => Q (v :: xs) H2) : tCons te tr σ H Q := h
theorem go_nil {Q : List V → Hp → Prop} (h : Q [] H) : tNil σ H Q := h
theorem go_lst {Q : VK} (h : tr σ H fun xs H1 => xs.length ≤ sizeLine ∧ ∀ p, H1 p = none → Q (.ref p) (upd H1 p (.lst xs))) : tLst tr σ H Q := h
theorem go_call {Q : VK} (h : tr σ H fun vs H1 => sp (vs ++ []) H1 Q E) : tCall sp [] E tr σ H Q := h
theorem s_drop0 (h : te σ H fun _ H1 => D.nx σ H1) : tDrop te D σ H := h
end
end Ap
set_option Elab.async false
set_option linter.all false
set_option maxRecDepth 100000
set_option Elab.async false
set_option linter.all false
set_option maxRecDepth 100000
namespace Ap
open PySem PySem.Spec PyProof.Rows L2
/-- a tuple of no items among the constants -/
structure TupG (K : PySem.W.Frag) (mg : Str → Option Value) (x : Str) (a : Addr) : Prop where
  g : mg x = some (.ref a)
  l : ∃ o n, K.lookup a = some o ∧ o.cls = .type "tuple" ∧ o.data = .seq #[] n
theorem TupG.dp {K : PySem.W.Frag} {mg : Str → Option Value} {x : Str} {a : Addr} {H : Hp} (T : TupG K mg x a) : Dp K H (.ref a) (.tuple []) := by
  obtain ⟨o, n, h1, h2, h3⟩ := T.l
  exact .tup (.inr ⟨o, #[], n, h1, h2, h3, Nat.zero_le _, .nil⟩) .nil
end Ap
set_option Elab.async false
set_option linter.all false
set_option maxRecDepth 100000
namespace Ap
open PySem PySem.Spec PyProof.Rows L2 Evl PySem.W
section
variable {K : PySem.W.Frag} {σ : L2.St} {B H : Hp} {l : List MP} {ta td te tn : TE} {t : TT} {x y v : V} {R : Rr} {s : Addr} {D : Ends} {tz tu : TS} {i j : Nat} {n : Int} {E : XK}
theorem go_m1 {to : TE} {r : V → List V → Hp → VK → Prop} {z : Str} {Q : VK} (h : Ev to σ H (.str z)) (k : ∀ H1, Ex H H1 → te σ H1 fun y H2 => r (.str z) [y] H2 Q) : tM1 r to te σ H Q := h H (Ex.refl H) _ fun H1 e1 => ⟨⟨z, rfl⟩, k H1 e1⟩
variable {φ ψ χ : Int → Prop} {tb : TE} {tw : TS}
end
end Ap
set_option Elab.async false
set_option linter.all false
set_option maxRecDepth 100000
set_option maxHeartbeats 2000000
namespace Ap
open PySem PySem.Spec PyProof.Rows L2 Evl
open He (ga ma eqO eqO_ok ba frG frG_in FnV)
section
variable {K : PySem.W.Frag} {h : Heap} {mg : Str → Option Value}
theorem hf_g {x : Str} (c : bG K x = true) : PySem.W.nsIn K mainGlobals x = some (some (.ref (ga K x))) := eqO_ok c
theorem hf_free (X : K.In h) (G : h.Ns mainGlobals mg) {x : Str} (c : bFree K x = true) : mg x = none := PySem.W.mg_none_of X G (eqO_ok c)
theorem hf_int (X : K.In h) (G : h.Ns mainGlobals mg) {x : Str} {i : Int} (c : bInt K x i = true) : ∃ t, mg x = some (.int i t) := He.int_ok X G c
theorem hf_str (X : K.In h) (G : h.Ns mainGlobals mg) {x z : Str} (c : bStr K x z = true) : ∃ t, mg x = some (.str z t) := He.str_ok X G c
theorem hf_df (X : K.In h) (G : h.Ns mainGlobals mg) {x : Str} {st : Stmt} {ps : List Str} (c : bDf K x = true) (e : fnV K (ga K x) = fnD x x st)
    (hb : ∀ (kV doc pm : Value) (an : Option Addr) (cdv ct : Value) (us : List Value), us.length = ps.length → bindArgs (PySem.W.fnOf x x (defArgs st) (defBody st) (defScope st) .none kV doc pm an cdv ct) ⟨us, []⟩ = pure (ps.zip us)) : ∃ f fd, Df K mg x st ps f fd := by
  obtain ⟨c1, c2⟩ := ba c
  obtain ⟨c2, c3⟩ := ba c2
  obtain ⟨oc, od, osl, kV, doc, pm, an, cdv, ct, l, cc⟩ := hf_fn_got e c3
  exact df_mk X G (hf_g c1) l cc c2 hb
theorem hf_law (X : K.In h) (G : h.Ns mainGlobals mg) {st : Stmt} {fa : Addr} (hfa : mg "law" = some (.ref fa)) (c : bDf K "law" = true) (e : fnV K (ga K "law") = fnD "law" "law" st)
    (hb : ∀ (kV doc pm : Value) (an : Option Addr) (cdv ct : Value) (s : Shared) (v : Value), BindsTo s (PySem.W.fnOf "law" "law" (defArgs st) (defBody st) (defScope st) .none kV doc pm an cdv ct) ⟨[v], []⟩ [("script", v)]) :
    ∃ fd, (∀ (s : Shared) (v : Value), BindsTo s fd ⟨[v], []⟩ [("script", v)]) ∧ Fun K "law" "law" st fa fd := by
  obtain ⟨c1, c2⟩ := ba c
  obtain ⟨c2, c3⟩ := ba c2
  obtain ⟨oc, od, osl, kV, doc, pm, an, cdv, ct, l, cc⟩ := hf_fn_got e c3
  exact law_mk X G hfa (hf_g c1) l cc c2 hb
theorem hf_err (X : K.In h) (G : h.Ns mainGlobals mg) {x y : Str} (c : bErr K x y = true) : Err K mg x (ga K x) (ga K y) ∧ mg y = some (.ref (ga K y)) ∧ PySem.W.nsIn K mainGlobals x = some (some (.ref (ga K x))) := by
  obtain ⟨c1, c⟩ := ba c
  obtain ⟨c2, c⟩ := ba c
  obtain ⟨c3, c⟩ := ba c
  obtain ⟨c4, c⟩ := ba c
  obtain ⟨c5, c⟩ := ba c
  obtain ⟨c6, c⟩ := ba c
  obtain ⟨c7, c⟩ := ba c
  obtain ⟨c8, c⟩ := ba c
  obtain ⟨c9, c⟩ := ba c
  obtain ⟨c10, c⟩ := ba c
  obtain ⟨c11, c⟩ := ba c
  obtain ⟨c12, c⟩ := ba c
  obtain ⟨c13, c⟩ := ba c
  obtain ⟨c14, c⟩ := ba c
  obtain ⟨c15, c⟩ := ba c
  obtain ⟨c16, c⟩ := ba c
  obtain ⟨c17, c18⟩ := ba c
  obtain ⟨e1, e2⟩ := err_mk X G (hf_g c1) (hf_g c2) c3 c4 (of_decide_eq_true c5) (of_decide_eq_true c6) (of_decide_eq_true c7) (eqO_ok c8) (eqO_ok c9) c10 (eqO_ok c11) (eqO_ok c12) (of_decide_eq_true c13) (of_decide_eq_true c14) c15 (of_decide_eq_true c16) (of_decide_eq_true c17) (of_decide_eq_true c18)
  exact ⟨e1, e2, hf_g c1⟩
end
end Ap
set_option Elab.async false
set_option linter.all false
set_option maxRecDepth 100000
set_option maxHeartbeats 4000000
namespace Ap
open PySem PySem.Spec PyProof.Rows L2 Evl PySem.W
local macro_rules | `(tactic| walk_at "sq") => `(tactic| first | assumption | (refine Evl.ex_l (by assumption) ?_; walk_at "sq"))
local macro_rules | `(tactic| walk_at "st") => `(tactic| first | assumption | (refine Evl.ex_t (by assumption) ?_; walk_at "st"))
local macro_rules | `(tactic| walk_at "ev") => `(tactic| (repeat' (first
  | (with_reducible first
    | exact ev_c
    | refine' ev_var ?_
    | exact ea_nil
    | refine' ea_cons ?_ ?_
    | refine' ev_op ?_ ?_ ?_
    | refine' ev_chain ?_ ?_ ?_ ?_ ?_
    | refine' ev_un ?_ ?_
    | exact rv_I0
    | refine' rv_I ?_
    | refine' ev_cb ?_ ?_
    | refine' ev_call ?_ ?_
    | exact rc_int
    | exact rc_max2
    | exact rc_min2
    | exact ru_neg
    | exact rc_isiI
    | exact rc_isiIB
    | exact rc_isiB
    | exact rc_isiBI
    | exact rv_eqI
    | exact rv_neI
    | refine' et_test ?_
    | refine' et_B ?_)
  | ((with_reducible show _ = _); rfl)
  | ((with_reducible show SqL _ _ _ _); walk_at "sq")
  | ((with_reducible show SqT _ _ _ _); walk_at "st")
  | ((with_reducible show CPow _ _); exact ⟨by decide, by decide, by decide⟩)
  | ((with_reducible show CDiv _ _); first | exact ⟨by decide, by decide⟩ | exact ⟨by omega, by omega⟩)
  | ((with_reducible show CMul _ _); first | exact .inr (by decide) | exact .inl (by decide) | exact .inr ⟨by omega, by omega⟩ | exact .inl ⟨by omega, by omega⟩)
  | ((with_reducible show SpV (spDraw _) _ _ _); refine' spDrawI ?_ ?_)
  | ((with_reducible show SpV _ _ _ _); walk_at "sp")
  | ((with_reducible show RC _ _ _ _); refine' rc_len ?_)
  | ((with_reducible show RV _ _ _ _ _); first | exact rv_eq rfl | exact rv_ne rfl | (refine' rv_ixL ?hq ?eq; (case hq => walk_at "sq"); (case eq => rfl)))
  | ((with_reducible show _ ≤ _); first | decide | omega)
  | ((with_reducible show _ < _); first | decide | omega)
  | decide)))
local macro_rules | `(tactic| walk_at "bo") => `(tactic| first | rfl | exact decide_eq_true (by omega) | exact decide_eq_false (by omega) | (rw [decide_eq_true (by omega)]; done) | (rw [decide_eq_false (by omega)]; done) | (simp; omega) | (simp; done))
local macro_rules | `(tactic| walk_at "tf") => `(tactic| first
  | ((with_reducible refine' et_orF ?_ ?_) <;> walk_at "tf")
  | ((with_reducible refine' et_andT ?_ ?_) <;> walk_at "tf")
  | ((with_reducible refine' et_nt ?_) <;> walk_at "tf")
  | ((with_reducible refine' et_nf ?_) <;> walk_at "tf")
  | (refine' et_is ?c ?d; (case c => walk_at "ev"); (case d => walk_at "bo")))
local macro_rules | `(tactic| walk_at "vt") => `(tactic| first
  | ((with_reducible refine' ev_andT ?_ ?_) <;> walk_at "vt")
  | ((with_reducible refine' ev_orF ?_ ?_) <;> walk_at "vt")
  | ((with_reducible refine' ev_nt ?_) <;> walk_at "vt")
  | ((with_reducible refine' ev_nf ?_) <;> walk_at "vt")
  | (refine' ev_is ?c ?d; (case c => walk_at "ev"); (case d => first | rfl | (refine congrArg V.bl ?_; walk_at "bo"))))
def topS (i : Nat) : Stmt := PySem.Challenge.pw_appendhall_k25_paths_both_ways.main.body.getD i (.Pass ⟨0, 0, 0, 0⟩)
abbrev s_split_path : Stmt := topS 12
abbrev N_split_path : List Str := ["path", "ahead", "names"]
theorem sc_split_path : FnScope N_split_path ["path"] (defScope s_split_path) := ⟨rfl, rfl, rfl, by decide +kernel, rfl, by decide +kernel, by decide +kernel⟩
abbrev s_join_path : Stmt := topS 13
abbrev N_join_path : List Str := ["names"]
theorem sc_join_path : FnScope N_join_path ["names"] (defScope s_join_path) := ⟨rfl, rfl, rfl, by decide +kernel, rfl, by decide +kernel, by decide +kernel⟩
abbrev s_is_within : Stmt := topS 14
abbrev N_is_within : List Str := ["path", "other", "names", "outer"]
theorem sc_is_within : FnScope N_is_within ["path", "other"] (defScope s_is_within) := ⟨rfl, rfl, rfl, by decide +kernel, rfl, by decide +kernel, by decide +kernel⟩
abbrev s__are_names : Stmt := topS 15
abbrev N__are_names : List Str := ["things", "thing"]
theorem sc__are_names : FnScope N__are_names ["things"] (defScope s__are_names) := ⟨rfl, rfl, rfl, by decide +kernel, rfl, by decide +kernel, by decide +kernel⟩
abbrev s__is_name : Stmt := topS 16
abbrev N__is_name : List Str := ["thing", "char"]
theorem sc__is_name : FnScope N__is_name ["thing"] (defScope s__is_name) := ⟨rfl, rfl, rfl, by decide +kernel, rfl, by decide +kernel, by decide +kernel⟩
abbrev s__law_stream : Stmt := topS 18
abbrev N__law_stream : List Str := ["script", "many", "draws", "cell", "rest", "k", "mixed", "wide", "j"]
theorem sc__law_stream : FnScope N__law_stream ["script", "many"] (defScope s__law_stream) := ⟨rfl, rfl, rfl, by decide +kernel, rfl, by decide +kernel, by decide +kernel⟩
abbrev s__law_draw : Stmt := topS 19
abbrev N__law_draw : List Str := ["draws", "k"]
theorem sc__law_draw : FnScope N__law_draw ["draws", "k"] (defScope s__law_draw) := ⟨rfl, rfl, rfl, by decide +kernel, rfl, by decide +kernel, by decide +kernel⟩
abbrev s__law_good : Stmt := topS 20
abbrev N__law_good : List Str := ["name"]
theorem sc__law_good : FnScope N__law_good ["name"] (defScope s__law_good) := ⟨rfl, rfl, rfl, by decide +kernel, rfl, by decide +kernel, by decide +kernel⟩
abbrev s__law_name : Stmt := topS 21
abbrev N__law_name : List Str := ["draw", "signs", "name", "rest", "k"]
theorem sc__law_name : FnScope N__law_name ["draw"] (defScope s__law_name) := ⟨rfl, rfl, rfl, by decide +kernel, rfl, by decide +kernel, by decide +kernel⟩
abbrev s__law_near : Stmt := topS 22
abbrev N__law_near : List Str := ["name", "draw", "signs", "at", "sign"]
theorem sc__law_near : FnScope N__law_near ["name", "draw"] (defScope s__law_near) := ⟨rfl, rfl, rfl, by decide +kernel, rfl, by decide +kernel, by decide +kernel⟩
abbrev s__law_names : Stmt := topS 23
abbrev N__law_names : List Str := ["draws", "at", "names", "k", "draw"]
theorem sc__law_names : FnScope N__law_names ["draws", "at"] (defScope s__law_names) := ⟨rfl, rfl, rfl, by decide +kernel, rfl, by decide +kernel, by decide +kernel⟩
abbrev s__law_bad_path : Stmt := topS 24
abbrev N__law_bad_path : List Str := ["e"]
theorem sc__law_bad_path : FnScope N__law_bad_path ["e"] (defScope s__law_bad_path) := ⟨rfl, rfl, rfl, by decide +kernel, rfl, by decide +kernel, by decide +kernel⟩
abbrev s__law_split_raises : Stmt := topS 25
abbrev N__law_split_raises : List Str := ["thing", "e"]
theorem sc__law_split_raises : FnScope N__law_split_raises ["thing"] (defScope s__law_split_raises) := ⟨rfl, rfl, rfl, by decide +kernel, rfl, by decide +kernel, by decide +kernel⟩
abbrev s__law_join_raises : Stmt := topS 26
abbrev N__law_join_raises : List Str := ["thing", "e"]
theorem sc__law_join_raises : FnScope N__law_join_raises ["thing"] (defScope s__law_join_raises) := ⟨rfl, rfl, rfl, by decide +kernel, rfl, by decide +kernel, by decide +kernel⟩
abbrev s__law_within_raises : Stmt := topS 27
abbrev N__law_within_raises : List Str := ["path", "other", "e"]
theorem sc__law_within_raises : FnScope N__law_within_raises ["path", "other"] (defScope s__law_within_raises) := ⟨rfl, rfl, rfl, by decide +kernel, rfl, by decide +kernel, by decide +kernel⟩
abbrev s__law_spoilt_name : Stmt := topS 28
abbrev N__law_spoilt_name : List Str := ["name", "draw", "signs", "at", "sign", "rows"]
theorem sc__law_spoilt_name : FnScope N__law_spoilt_name ["name", "draw"] (defScope s__law_spoilt_name) := ⟨rfl, rfl, rfl, by decide +kernel, rfl, by decide +kernel, by decide +kernel⟩
abbrev s__law_spoilt_path : Stmt := topS 29
abbrev N__law_spoilt_path : List Str := ["names", "draw", "full", "at", "path", "name", "rows"]
theorem sc__law_spoilt_path : FnScope N__law_spoilt_path ["names", "draw"] (defScope s__law_spoilt_path) := ⟨rfl, rfl, rfl, by decide +kernel, rfl, by decide +kernel, by decide +kernel⟩
abbrev s__law_spoilt_names : Stmt := topS 30
abbrev N__law_spoilt_names : List Str := ["names", "draw", "full", "at", "name", "rows"]
theorem sc__law_spoilt_names : FnScope N__law_spoilt_names ["names", "draw"] (defScope s__law_spoilt_names) := ⟨rfl, rfl, rfl, by decide +kernel, rfl, by decide +kernel, by decide +kernel⟩
abbrev s__law_second : Stmt := topS 31
abbrev N__law_second : List Str := ["names", "draws", "draw", "other", "choice"]
theorem sc__law_second : FnScope N__law_second ["names", "draws"] (defScope s__law_second) := ⟨rfl, rfl, rfl, by decide +kernel, rfl, by decide +kernel, by decide +kernel⟩
abbrev s__law_text_is : Stmt := topS 32
abbrev N__law_text_is : List Str := ["actual", "due"]
theorem sc__law_text_is : FnScope N__law_text_is ["actual", "due"] (defScope s__law_text_is) := ⟨rfl, rfl, rfl, by decide +kernel, rfl, by decide +kernel, by decide +kernel⟩
abbrev s__law_list_is : Stmt := topS 33
abbrev N__law_list_is : List Str := ["actual", "due", "k"]
theorem sc__law_list_is : FnScope N__law_list_is ["actual", "due"] (defScope s__law_list_is) := ⟨rfl, rfl, rfl, by decide +kernel, rfl, by decide +kernel, by decide +kernel⟩
abbrev s__law_both_ways : Stmt := topS 34
abbrev N__law_both_ways : List Str := ["names", "path", "given", "told"]
theorem sc__law_both_ways : FnScope N__law_both_ways ["names"] (defScope s__law_both_ways) := ⟨rfl, rfl, rfl, by decide +kernel, rfl, by decide +kernel, by decide +kernel⟩
abbrev s__law_truth : Stmt := topS 35
abbrev N__law_truth : List Str := ["actual", "due"]
theorem sc__law_truth : FnScope N__law_truth ["actual", "due"] (defScope s__law_truth) := ⟨rfl, rfl, rfl, by decide +kernel, rfl, by decide +kernel, by decide +kernel⟩
abbrev s__law_within : Stmt := topS 36
abbrev N__law_within : List Str := ["names", "other", "path", "base"]
theorem sc__law_within : FnScope N__law_within ["names", "other"] (defScope s__law_within) := ⟨rfl, rfl, rfl, by decide +kernel, rfl, by decide +kernel, by decide +kernel⟩
abbrev s_law : Stmt := topS 37
abbrev N_law : List Str := ["script", "draws", "names", "other", "path", "things", "thing", "bad", "row"]
theorem sc_law : FnScope N_law ["script"] (defScope s_law) := ⟨rfl, rfl, rfl, by decide +kernel, rfl, by decide +kernel, by decide +kernel⟩
section
variable {P : Program} {w : World} {K : PySem.W.Frag} {mg : Str → Option Value} {base : Heap}
structure Glo (mg : Str → Option Value) : Prop where
  len : mg "len" = none
  int : mg "int" = none
  range : mg "range" = none
  isinstance : mg "isinstance" = none
  bool : mg "bool" = none
  tuple : mg "tuple" = none
  list : mg "list" = none
  str : mg "str" = none
  all : mg "all" = none
  ValueError : mg "ValueError" = none
abbrev NC : Str := Str.ofString ".-abcdefghijklmnopqrstuvwxyz0123456789"
def nmC (c : Nat) : Bool := !(Builtin.Str.occurrences NC ⟨#[c]⟩ 0 NC.length 1).isEmpty
def nmS (z : Str) : Bool := (decide ((1 : Int) ≤ (z.length : Int)) && decide ((z.length : Int) ≤ 12)) && (!(decide (V.str z = V.str ".") || decide (V.str z = V.str "..")) && z.cps.toList.all nmC)
def isNm : PyData → Bool
  | .str z => nmS z
  | _ => false
def spB (K : PySem.W.Frag) (n : Nat) (g : PyData → Bool) : Sp := fun vs H Q _ => ∃ (v : V) (d : PyData), vs = [v] ∧ Dx K H v d ∧ Okd n d ∧ RetV (.bl (g d)) H Q
theorem spB_v {H : Hp} {n : Nat} {g : PyData → Bool} {v : V} {d : PyData} (h : Dx K H v d) (ok : Okd n d) : SpV (spB K n g) [v] H (.bl (g d)) := fun H1 e Q q _ => ⟨v, d, rfl, dx_mono e _ _ h, ok, fun H2 e2 => q H2 e2⟩
theorem str_of {d : PyData} (h : isStr d = true) : ∃ x, d = .str x := by
  cases d <;> simp_all [isStr]
theorem bnot_t {b : Bool} (h : (!b) = true) : b = false := by
  cases b with
  | false => rfl
  | true => cases h
theorem bnot_f {b : Bool} (h : (!b) = false) : b = true := by
  cases b with
  | true => rfl
  | false => cases h
theorem ok_is_name {tM tC : Tok} {f : Addr} {fd : FuncData} (F : Fun K "_is_name" "_is_name" s__is_name f fd) (c__NAME_MOST : mg "_NAME_MOST" = some (.int 12 tM)) (c__NAME_CHARS : mg "_NAME_CHARS" = some (.str NC tC)) (T : Glo mg) : FnOk P w K mg base CX0 1 f fd ["thing"] (spB K 8 isNm) := by
  refine F.ok sc__is_name (fun vs H Q E h => ?_) (fun cdv A outer s H vs Q E hr h => ?_)
  · obtain ⟨v, d, rfl, _⟩ := h
    rfl
  · obtain ⟨v, d, rfl, hd, ok, q⟩ := h
    refine ⟨_, (pss_cons (ps_if (PW.pt (pw_or (pt_not (pt_val (pe_callB call_isi (by rfl) T.isinstance (by decide +kernel) (pa_cons (pv 0) (pa_cons (pe_bltn (v := .ty "str") (u := .type "str") (by rfl) T.str (by decide +kernel) rfl) pa_nil))))) (pw_or1 (pt_not (pt_chain op_le op_le pe_int (pe_callB call_len_str (by rfl) T.len PySem.boot_len (pa_cons (pv 0) pa_nil)) (pe_glob (v := .int 12) rfl c__NAME_MOST ⟨_, rfl⟩))))))
  (pss_one (ps_ret pe_bl))
  pss_nil)
  (pss_cons (ps_if (PW.pt (pw_or (pt_cmpR op_eq (pv 0) pe_str (nomark _)) (pw_or1 (pt_cmpR op_eq (pv 0) pe_str (nomark _)))))
  (pss_one (ps_ret pe_bl))
  pss_nil)
  (pss_one (ps_ret (pe_callB (cr_all rfl) (by rfl) T.all (by decide +kernel) (pa_cons (pe_lc (own := [("char", 1)]) (g := gName 1) rfl sc__is_name.nd (pi_str (pv 0)) (blkOk_by (N := N__is_name) (sc := defScope s__is_name) (by decide +kernel)) (fun _ _ _ _ _ => (pg_name (i := 1) sc__is_name.nd rfl (.inl rfl))) (fun _ _ _ _ _ => pts_nil) (fun _ _ _ _ _ => (pe_cmpR op_in_str (pv 1) (pe_glob (v := .str NC) rfl c__NAME_CHARS ⟨_, rfl⟩) (by rfl)))) pa_nil)))))), ?_⟩
    by_cases hS : isStr d = true
    · obtain ⟨z, rfl⟩ := str_of hS
      have hl : z.length ≤ 1000 := by
        cases ok
        assumption
      cases hd
      have q : RetV (.bl ((decide ((1 : Int) ≤ (z.length : Int)) && decide ((z.length : Int) ≤ 12)) && (!(decide (V.str z = V.str ".") || decide (V.str z = V.str "..")) && z.cps.toList.all nmC))) H Q := q
      refine q_when (b := !(decide ((1 : Int) ≤ (z.length : Int)) && decide ((z.length : Int) ≤ 12))) (et_is (et_or (a := false) (b := !(decide ((1 : Int) ≤ (z.length : Int)) && decide ((z.length : Int) ≤ 12))) (et_is (et_not (et_B (ev_isiX (K := K) (ex_var rfl (.str z)) (kit_str _)))) rfl) (fun _ => et_not (et_test (ev_chain ev_c (ev_cb (ea_cons (ev_var rfl) ea_nil) (rc_lenS (by omega))) rv_I0 ev_c rv_I0)))) (Bool.false_or _)) (fun hb H1 e1 => ?_) (fun hb H1 e1 => ?_)
      · rw [bnot_t hb, Bool.false_and] at q
        exact s_ret ev_c (fun H2 e2 => q H2 (e1.trans e2))
      · rw [bnot_f hb, Bool.true_and] at q
        refine q_when (b := decide (V.str z = V.str ".") || decide (V.str z = V.str "..")) (et_or (et_test (ev_op (ev_var rfl) ev_c (rv_eq rfl))) (fun _ => et_test (ev_op (ev_var rfl) ev_c (rv_eq rfl)))) (fun hb2 H2 e2 => ?_) (fun hb2 H2 e2 => ?_)
        · rw [hb2] at q
          exact s_ret ev_c (fun H3 e3 => q H3 ((e1.trans e2).trans e3))
        · rw [hb2] at q
          have q : RetV (.bl (z.cps.toList.all nmC)) H Q := q
          obtain ⟨bs, h1, h2⟩ := all_given z nmC
          rw [← h2] at q
          have hsz : z.cps.size ≤ 1000 := hl
          refine s_ret (ev_all (K := K) (bs := bs) (h1 ▸ el_lcS (fun i => V.bl (nmC (z.cps.getD i 0))) (ev_var rfl) (by omega) (fun _ => rfl) (fun c H1 e1 => et_nil) (fun i c H2 e2 hc => ?_))) (fun H3 e3 => q H3 ((e1.trans e2).trans e3))
          have hg : z.cps.getD i 0 = c := by
            rw [Array.getD_eq_getD_getElem?, hc]
            rfl
          rw [hg]
          exact ev_op (ev_var rfl) ev_c (fun H3 e3 Q q => ⟨_, _, rfl, rfl, q H3 (Ex.refl H3)⟩)
    · have hS : isStr d = false := by simpa using hS
      have : isNm d = false := by
        cases d <;> simp_all [isStr, isNm]
      rw [this] at q
      exact q_when (b := true) (et_is (et_or (a := true) (b := true) (et_is (et_not (et_B (ev_isiX (K := K) (ex_var rfl hd) (kit_str d)))) (by rw [hS]; rfl)) (fun h => nomatch h)) rfl) (fun hb H2 e2 => s_ret ev_c (fun H3 e3 => q H3 (e2.trans e3))) (fun hb => nomatch hb)
def areNm (ds : List PyData) : Bool := decide ((ds.length : Int) ≤ 6) && ds.all isNm
def spAre (K : PySem.W.Frag) : Sp := fun vs H Q _ => ∃ (a : Addr) (xs : List V) (ds : List PyData), vs = [.ref a] ∧ SqL K H a xs ∧ DxAll K H xs ds ∧ ds.length ≤ 1000 ∧ (∀ d ∈ ds, Okd 8 d) ∧ RetV (.bl (areNm ds)) H Q
theorem spAre_v {H : Hp} {a : Addr} {xs : List V} {ds : List PyData} (hs : SqL K H a xs) (hd : DxAll K H xs ds) (hl : ds.length ≤ 1000) (ok : ∀ d ∈ ds, Okd 8 d) : SpV (spAre K) [.ref a] H (.bl (areNm ds)) := fun H1 e Q q _ => ⟨a, xs, ds, rfl, ex_l e hs, dxa_mono e _ _ hd, hl, ok, fun H2 e2 => q H2 e2⟩
theorem ok_are_names {tM tC tN : Tok} {f f_n : Addr} {fd fd_n : FuncData} (F : Fun K "_are_names" "_are_names" s__are_names f fd) (D__is_name : Df K mg "_is_name" s__is_name ["thing"] f_n fd_n) (G__is_name : FnOk P w K mg base CX0 1 f_n fd_n ["thing"] (spB K 8 isNm)) (c_NAMES_MOST : mg "NAMES_MOST" = some (.int 6 tN)) (T : Glo mg) : FnOk P w K mg base CX0 2 f fd ["things"] (spAre K) := by
  refine F.ok sc__are_names (fun vs H Q E h => ?_) (fun cdv A outer s H vs Q E hr h => ?_)
  · obtain ⟨a, xs, ds, rfl, _⟩ := h
    rfl
  · obtain ⟨a, xs, ds, rfl, hs, hd, hl, ok, q⟩ := h
    refine ⟨_, (pss_one (ps_ret (pe_and (pe_cmpR op_le (pe_callB call_len_seq (by rfl) T.len PySem.boot_len (pa_cons (pv 0) pa_nil)) (pe_glob (v := .int 6) rfl c_NAMES_MOST ⟨_, rfl⟩) (nomark _)) (pe_one (pe_callB (cr_all rfl) (by rfl) T.all (by decide +kernel) (pa_cons (pe_lc (own := [("thing", 1)]) (g := gName 1) rfl sc__are_names.nd (pi_list (pv 0)) (blkOk_by (N := N__are_names) (sc := defScope s__are_names) (by decide +kernel)) (fun _ _ _ _ _ => (pg_name (i := 1) sc__are_names.nd rfl (.inl rfl))) (fun _ _ _ _ _ => pts_nil) (fun _ _ _ _ _ => (pe_call G__is_name (hr.mono (by decide)) (by rfl) D__is_name.g D__is_name.F.kp D__is_name.b .nil pass0 (pa_cons (pv 1) pa_nil)))) pa_nil)))))), ?_⟩
    have hyl := dxa_len hd
    have q : RetV (.bl (decide ((ds.length : Int) ≤ 6) && ds.all isNm)) H Q := q
    refine s_ret (ev_andV (a := decide ((ds.length : Int) ≤ 6)) (b := ds.all isNm) (ev_is (ev_op (ev_cb (ea_cons (ev_var rfl) ea_nil) (rc_len hs)) ev_c rv_I0) (by rw [hyl])) (fun _ => ?_)) q
    have hmap := given_map ds isNm
    refine ev_is (ev_all (K := K) (bs := ds.map isNm) (hmap ▸ hyl ▸ el_lcL (K := K) (fun _ => true) (fun i => V.bl (isNm (ds.getD i .none))) (ev_var rfl) hs (by omega) (fun _ => rfl) (fun i x H3 e3 _ => et_nil) (fun i x H3 e3 hx _ => ?_))) (by rw [List.all_map]; rfl)
    obtain ⟨di, hdi, hdx⟩ := dxa_atV hd hx
    rw [List.getD_eq_getElem?_getD, hdi]
    exact ev_call (ea_cons (ev_var rfl) ea_nil) (spB_v (dx_mono e3 _ _ hdx) (ok di (List.mem_of_getElem? hdi)))
/-- what split_path tells of a text -/
def splitP (z : Str) : Option (List Str) := if z = "/" then some [] else match Txt.split z "/" with
  | [] => none
  | a :: r => if (a = "" ∧ r ≠ []) ∧ areNm (r.map PyData.str) = true then some r else none
def splitD : PyData → Option (List Str)
  | .str z => splitP z
  | _ => none
def spSplit (K : PySem.W.Frag) (CB : Addr) : Sp := fun vs H Q E => ∃ (v : V) (d : PyData), vs = [v] ∧ Dx K H v d ∧ Okd 8 d ∧ (∀ r, splitD d = some r → ∀ p H1, H p = none → Ex H H1 → H1 p = some (.lst (r.map V.str)) → Q (.ref p) H1) ∧ (splitD d = none → ∀ H1, Ex H H1 → E (.ref CB) none H1)
theorem dx_strs {H : Hp} : ∀ (r : List Str), DxAll K H (r.map V.str) (r.map PyData.str)
  | [] => .nil
  | z :: r => .cons (.str z) (dx_strs r)
theorem r_do {σ : L2.St} {H : Hp} {D : Ends} {te : TE} (h : te σ H D.rt) : tRet te D σ H := h
theorem q_asgR {σ : L2.St} {H : Hp} {D : Ends} {tz : TS} {te : TE} {g : TG} (h : te σ H fun x H1 => g x σ H1 (tz D)) : tSeq (tAsg te g) tz D σ H := h
theorem gstar_go {n m i j : Nat} {t : TGs} {v : V} {σ : L2.St} {H : Hp} {Q : L2.St → Hp → Prop} (hn : n = m) (hi : i = j) (h : gStar K m j t v σ H Q) : gStar K n i t v σ H Q := by
  subst hn hi
  exact h
theorem sum_mem {l : List Nat} {n : Nat} (h : n ∈ l) : n ≤ l.sum := by
  induction l with
  | nil => cases h
  | cons a r ih =>
    rw [List.sum_cons]
    rcases List.mem_cons.mp h with rfl | h
    · omega
    · have := ih h; omega
theorem piece_le {z y : Str} (hy : 1 ≤ y.length) : (Txt.split z y).length ≤ z.length + 1 ∧ ∀ x ∈ Txt.split z y, x.length ≤ z.length := by
  have h := split_weight z y hy
  have h1 := split_pos z y
  refine ⟨by omega, fun x hx => ?_⟩
  have := sum_mem (List.mem_map.mpr ⟨x, hx, rfl⟩ : x.length ∈ (Txt.split z y).map (·.length))
  omega
theorem ok_split {tN tR : Tok} {f f_a C_BadPath Bx : Addr} {fd fd_a : FuncData} (F : Fun K "split_path" "split_path" s_split_path f fd) (D__are_names : Df K mg "_are_names" s__are_names ["things"] f_a fd_a) (G__are_names : FnOk P w K mg base CX0 2 f_a fd_a ["things"] (spAre K)) (E_BadPath : Err K mg "BadPath" C_BadPath Bx) (c__ROOT : mg "_ROOT" = some (.str "/" tR)) (T : Glo mg) : FnOk P w K mg base (L2.CX P w) 3 f fd ["path"] (spSplit K C_BadPath) := by
  refine F.okX sc_split_path (fun vs H Q E h => ?_) (fun cdv A outer s H vs Q E hr h => ?_)
  · obtain ⟨v, d, rfl, _⟩ := h
    rfl
  · obtain ⟨v, d, rfl, hd, ok, q1, q2⟩ := h
    refine ⟨_, (pss_cons (ps_if (pt_not (pt_val (pe_callB call_isi (by rfl) T.isinstance (by decide +kernel) (pa_cons (pv 0) (pa_cons (pe_bltn (v := .ty "str") (u := .type "str") (by rfl) T.str (by decide +kernel) rfl) pa_nil)))))
  (pss_one (ps_raise rfl (takes_of rfl rfl rfl rfl) (Err.mk' E_BadPath rfl)))
  pss_nil)
  (pss_cons (ps_if (pt_cmpR op_eq (pv 0) (pe_glob (v := .str "/") rfl c__ROOT ⟨_, rfl⟩) (nomark _))
  (pss_one (ps_ret (pe_lst pa_nil)))
  pss_nil)
  (pss_cons (ps_asg (pe_split (pv 0) pe_str) (pg_star (by rfl) (pgs_cons (pg_name (i := 1) sc_split_path.nd rfl (.inl rfl)) (pgs_star (pg_name (i := 2) sc_split_path.nd rfl (.inl rfl)) pgs_nil))))
  (pss_cons (ps_if (PW.pt (pw_or (pt_cmpR op_ne (pv 1) pe_str (nomark _)) (pw_or (pt_not (pt_truth (pv 2) (by intro _; rfl))) (pw_or1 (pt_not (pt_val (pe_call G__are_names (hr.mono (by decide)) (by rfl) D__are_names.g D__are_names.F.kp D__are_names.b .nil pass0 (pa_cons (pv 2) pa_nil))))))))
  (pss_one (ps_raise rfl (takes_of rfl rfl rfl rfl) (Err.mk' E_BadPath rfl)))
  pss_nil)
  (pss_one (ps_ret (pv 2))))))), ?_⟩
    by_cases hS : isStr d = true
    · obtain ⟨z, rfl⟩ := str_of hS
      have hl : z.length ≤ 1000 := by
        cases ok
        assumption
      cases hd
      refine q_when (b := false) (et_is (et_not (et_B (ev_isiX (K := K) (ex_var rfl (.str z)) (kit_str _)))) rfl) (fun hb => nomatch hb) (fun _ H1 e1 => ?_)
      refine q_when (b := decide (V.str z = V.str "/")) (et_test (ev_op (ev_var rfl) ev_c (rv_eq rfl))) (fun hb H2 e2 => ?_) (fun hb H2 e2 => ?_)
      · have hz : z = "/" := V.str.inj (of_decide_eq_true hb)
        refine r_do (go_lst (go_nil ⟨by show 0 ≤ sizeLine; decide, fun p hp => q1 [] ?_ p _ (fresh_back (e1.trans e2) hp) ((e1.trans e2).trans (Ex.new hp)) upd_same⟩))
        show splitP z = some []
        unfold splitP
        rw [if_pos hz]
      · have hz : z ≠ "/" := fun h => by rw [h, decide_eq_true rfl] at hb; cases hb
        obtain ⟨hpl, hpm⟩ := piece_le (z := z) (y := "/") (by decide)
        have hsp : splitP z = match Txt.split z "/" with
          | [] => none
          | a :: r => if (a = "" ∧ r ≠ []) ∧ areNm (r.map PyData.str) = true then some r else none := by
          unfold splitP
          first
          | exact if_neg hz
          | (rw [if_neg hz]; cases Txt.split z "/" <;> rfl)
        have hpos := split_pos z "/"
        generalize hps : Txt.split z "/" = ps at hpl hpm hsp hpos
        cases ps with
        | nil => exact absurd hpos (by decide)
        | cons a r =>
          have hsp : splitP z = if (a = "" ∧ r ≠ []) ∧ areNm (r.map PyData.str) = true then some r else none := hsp
          have hrl : r.length ≤ 1000 := by rw [List.length_cons] at hpl; omega
          refine q_asgR (go_m1 (ev_var rfl) fun H3 e3 => ev_c H3 (Ex.refl H3) _ fun H4 e4 => ⟨z, "/", rfl, rfl, rfl, sz_of (by omega), ?_⟩)
          rw [hps]
          intro l hl4
          refine gstar_go (m := 2) (j := 1) rfl rfl ?_
          refine ⟨l, (a :: r).map V.str, rfl, sq_of upd_same, by decide, by rw [List.length_map, List.length_cons]; omega, by rw [List.length_map, List.length_cons]; omega, fun p hp => ?_⟩
          have hx1 : ((a :: r).map V.str).take 1 ++ [V.ref p] ++ (((a :: r).map V.str).drop 1).drop (((a :: r).map V.str).length + 1 - 2) = [V.str a, .ref p] := by
            rw [List.map_cons, List.length_cons, List.length_map]
            show [V.str a] ++ [V.ref p] ++ (r.map V.str).drop (r.length + 1 + 1 - 2) = _
            rw [show r.length + 1 + 1 - 2 = r.length by omega, List.drop_eq_nil_of_le (by rw [List.length_map]; exact Nat.le_refl _)]
            rfl
          have hx2 : (((a :: r).map V.str).drop 1).take (((a :: r).map V.str).length + 1 - 2) = r.map V.str := by
            rw [List.map_cons, List.length_cons, List.length_map]
            show (r.map V.str).take (r.length + 1 + 1 - 2) = _
            rw [show r.length + 1 + 1 - 2 = r.length by omega, List.take_of_length_le (by rw [List.length_map]; exact Nat.le_refl _)]
          rw [hx1, hx2]
          have e14 := (e1.trans e2).trans (e3.trans e4)
          have eAll : Ex H (upd (upd H4 l (.lst ((a :: r).map V.str))) p (.lst (r.map V.str))) := e14.trans ((Ex.new hl4).trans (Ex.new hp))
          have hpn : H p = none := fresh_back (e14.trans (Ex.new hl4)) hp
          have hpz : (upd (upd H4 l (.lst ((a :: r).map V.str))) p (.lst (r.map V.str))) p = some (.lst (r.map V.str)) := upd_same
          generalize (upd (upd H4 l (.lst ((a :: r).map V.str))) p (.lst (r.map V.str))) = H5 at eAll hpz
          refine ⟨.str a, _, rfl, .ref p, _, rfl, rfl, ?_⟩
          refine q_when (b := !decide (V.str a = V.str "") || (r.isEmpty || !areNm (r.map PyData.str))) (et_or (et_test (ev_op (ev_var rfl) ev_c (rv_ne rfl))) (fun _ => et_or (et_is (et_not (a := !r.isEmpty) (fun H6 e6 Q' q' => (show Ev (tVar 2) _ _ (.ref p) from ev_var rfl) H6 e6 _ fun H7 e7 => ⟨!r.isEmpty, (show TruV K (.ref p) H7 (!r.isEmpty) from .inl ⟨r.map V.str, sq_of ((e6.trans e7) _ _ hpz), by cases r <;> rfl⟩), q' H7 e7⟩)) (Bool.not_not _)) (fun _ => et_not (et_B (ev_call (ea_cons (ev_var rfl) ea_nil) (spAre_v (sq_of hpz) (dx_strs r) (by rw [List.length_map]; omega) (fun d hd => by
            obtain ⟨x, hx, rfl⟩ := List.mem_map.mp hd
            exact .str (by have := hpm x (List.mem_cons_of_mem _ hx); omega)))))))) (fun hb H6 e6 => ?_) (fun hb H6 e6 => ?_)
          · refine q2 ?_ H6 (eAll.trans e6)
            show splitP z = none
            rw [hsp, if_neg]
            intro ⟨⟨h1, h2⟩, h3⟩
            rw [h1, decide_eq_true rfl, h3] at hb
            cases r with
            | nil => exact h2 rfl
            | cons _ _ => cases hb
          · refine s_ret (ev_var rfl) fun H7 e7 => q1 r ?_ p H7 hpn (eAll.trans (e6.trans e7)) ((e6.trans e7) _ _ hpz)
            show splitP z = some r
            rw [hsp, if_pos]
            obtain ⟨h1, h2⟩ := Bool.or_eq_false_iff.mp hb
            obtain ⟨h2, h3⟩ := Bool.or_eq_false_iff.mp h2
            exact ⟨⟨V.str.inj (of_decide_eq_true (bnot_f h1)), fun h => by rw [h] at h2; cases h2⟩, bnot_f h3⟩
    · have hS : isStr d = false := by simpa using hS
      refine q_when (b := true) (et_is (et_not (et_B (ev_isiX (K := K) (ex_var rfl hd) (kit_str d)))) (by rw [hS]; rfl)) (fun _ H1 e1 => q2 ?_ H1 e1) (fun hb => nomatch hb)
      cases d <;> first | rfl | cases hS
def strD : PyData → Str
  | .str z => z
  | _ => ""
def joinP (ds : List Str) : Str := "/" ++ Txt.join "/" ds
def joinD : PyData → Option Str
  | .list ds => if areNm ds = true then some (joinP (ds.map strD)) else none
  | _ => none
def FlatOk (d : PyData) : Prop := ∀ ds, d = .list ds → ds.length ≤ 1000 ∧ ∀ x ∈ ds, Okd 8 x
def spJoin (K : PySem.W.Frag) (CB : Addr) : Sp := fun vs H Q E => ∃ (v : V) (d : PyData), vs = [v] ∧ Dx K H v d ∧ FlatOk d ∧ (∀ z, joinD d = some z → RetV (.str z) H Q) ∧ (joinD d = none → ∀ H1, Ex H H1 → E (.ref CB) none H1)
theorem nmS_len {z : Str} (h : nmS z = true) : z.length ≤ 12 := by
  obtain ⟨h1, _⟩ := Bool.and_eq_true_iff.mp h
  obtain ⟨_, h2⟩ := Bool.and_eq_true_iff.mp h1
  have := of_decide_eq_true h2
  omega
theorem nm_strs {H : Hp} : ∀ {xs : List V} {ds : List PyData}, DxAll K H xs ds → ds.all isNm = true → xs = (ds.map strD).map V.str ∧ ((ds.map strD).map (·.length)).sum ≤ 12 * ds.length
  | _, _, .nil, _ => ⟨rfl, Nat.le_refl _⟩
  | _, _, .cons (v := v) (vs := vs) (d := d) (ds := ds) h hs, ha => by
    rw [List.all_cons] at ha
    obtain ⟨h1, h2⟩ := Bool.and_eq_true_iff.mp ha
    obtain ⟨i1, i2⟩ := nm_strs hs h2
    cases d with
    | str z =>
      cases h
      have := nmS_len (z := z) h1
      refine ⟨by rw [i1]; rfl, ?_⟩
      rw [List.map_cons, List.map_cons, List.sum_cons, List.length_cons]
      show z.length + _ ≤ _
      omega
    | _ => cases h1
theorem lst_of {d : PyData} (h : isLst d = true) : ∃ x, d = .list x := by
  cases d <;> first | exact ⟨_, rfl⟩ | cases h
theorem ok_join {tN tR : Tok} {f f_a C_BadPath Bx : Addr} {fd fd_a : FuncData} (F : Fun K "join_path" "join_path" s_join_path f fd) (D__are_names : Df K mg "_are_names" s__are_names ["things"] f_a fd_a) (G__are_names : FnOk P w K mg base CX0 2 f_a fd_a ["things"] (spAre K)) (E_BadPath : Err K mg "BadPath" C_BadPath Bx) (c__ROOT : mg "_ROOT" = some (.str "/" tR)) (T : Glo mg) : FnOk P w K mg base (L2.CX P w) 3 f fd ["names"] (spJoin K C_BadPath) := by
  refine F.okX sc_join_path (fun vs H Q E h => ?_) (fun cdv A outer s H vs Q E hr h => ?_)
  · obtain ⟨v, d, rfl, _⟩ := h
    rfl
  · obtain ⟨v, d, rfl, hd, ok, q1, q2⟩ := h
    refine ⟨_, (pss_cons (ps_if (PW.pt (pw_or (pt_not (pt_val (pe_callB call_isi (by rfl) T.isinstance (by decide +kernel) (pa_cons (pv 0) (pa_cons (pe_bltn (v := .ty "list") (u := .type "list") (by rfl) T.list (by decide +kernel) rfl) pa_nil))))) (pw_or1 (pt_not (pt_val (pe_call G__are_names (hr.mono (by decide)) (by rfl) D__are_names.g D__are_names.F.kp D__are_names.b .nil pass0 (pa_cons (pv 0) pa_nil)))))))
  (pss_one (ps_raise rfl (takes_of rfl rfl rfl rfl) (Err.mk' E_BadPath rfl)))
  pss_nil)
  (pss_one (ps_ret (pe_op op_add_str (pe_glob (v := .str "/") rfl c__ROOT ⟨_, rfl⟩) (pe_join pe_str (pv 0)))))), ?_⟩
    by_cases hS : isLst d = true
    · obtain ⟨ds, rfl⟩ := lst_of hS
      obtain ⟨hl, ho⟩ := ok ds rfl
      obtain ⟨a, xs, rfl, hs, hx⟩ : ∃ a xs, v = .ref a ∧ SqL K H a xs ∧ DxAll K H xs ds := by
        cases hd with
        | lst h1 h2 => exact ⟨_, _, rfl, h1, h2⟩
      refine q_when (b := !areNm ds) (et_is (et_or (et_not (et_B (ev_isiX (K := K) (ex_var rfl (.lst hs hx)) (kit_lst _)))) (fun _ => et_not (et_B (ev_call (ea_cons (ev_var rfl) ea_nil) (spAre_v hs hx hl ho))))) (by show (!true || !areNm ds) = _; rfl)) (fun hb H1 e1 => q2 (by show (if areNm ds = true then _ else _) = _; rw [if_neg (by rw [bnot_t hb]; decide)]) H1 e1) (fun hb H1 e1 => ?_)
      have hb : areNm ds = true := bnot_f hb
      obtain ⟨n1, n2⟩ := Bool.and_eq_true_iff.mp hb
      have n1 := of_decide_eq_true n1
      obtain ⟨i1, i2⟩ := nm_strs hx n2
      have q := q1 (joinP (ds.map strD)) (by show (if areNm ds = true then _ else _) = _; rw [if_pos hb])
      refine s_ret (v := .str (joinP (ds.map strD))) ?_ (fun H2 e2 => q H2 (e1.trans e2))
      have hjl : (Txt.join "/" (ds.map strD)).length ≤ 400 := by
        have h : Weighs (ds.map strD) 78 := by
          unfold Weighs
          rw [List.length_map]
          omega
        have := len_join_le (sep := "/") h (by decide)
        omega
      have h1 : (Str.ofString "/").length = 1 := by decide +kernel
      have hsz : (Str.ofString "/").length + (Txt.join "/" (ds.map strD)).length ≤ 100000 := by omega
      refine ev_op ev_c (y := .str (Txt.join "/" (ds.map strD))) (fun H2 e2 Q2 k2 => go_m1 (show Ev (tC (.str "/")) _ _ (.str "/") from ev_c) fun H3 e3 => (show Ev (tVar 0) _ _ (.ref a) from ev_var rfl) H3 (Ex.refl H3) _ fun H4 e4 => ⟨_, a, ds.map strD, rfl, rfl, .inl (i1 ▸ ex_l (e1.trans (e2.trans (e3.trans e4))) hs), ?_, k2 H4 (e3.trans e4)⟩) (fun H2 e2 Q2 k2 => ⟨_, _, rfl, rfl, sz_of (hsz), k2 H2 (Ex.refl H2)⟩)
      rw [List.length_map]
      show _ + _ * 1 ≤ _
      omega
    · have hS : isLst d = false := by simpa using hS
      refine q_when (b := true) (et_is (et_or (a := true) (b := true) (et_is (et_not (et_B (ev_isiX (K := K) (ex_var rfl hd) (kit_lst d)))) (by rw [hS]; rfl)) (fun h => nomatch h)) rfl) (fun _ H1 e1 => q2 ?_ H1 e1) (fun hb => nomatch hb)
      cases d <;> first | rfl | cases hS
theorem cutA_to25 {α : Type} (xs : List α) (m : Nat) : cutA xs none (some (m : Int)) = xs.take m := by
  unfold cutA
  rw [show HT.sIx xs.length xs.length (some ((m : Nat) : Int)) = min m xs.length from HT.sIx_nat xs.length _ m, HT.sIx_none, List.drop_zero, Nat.sub_zero]
  by_cases h : m ≤ xs.length
  · rw [Nat.min_eq_left h]
  · rw [Nat.min_eq_right (by omega), List.take_length, List.take_of_length_le (by omega)]
theorem nmC_eq (c : Nat) : nmC c = decide (c ∈ NC.cps.toList) := StrLaws.found_one NC c
theorem NC_lt : ∀ c ∈ NC.cps.toList, c < 0x110000 := by decide +kernel
theorem nm_ok {z : Str} (h : nmS z = true) : PyData.strOk z = true := by
  obtain ⟨_, h2⟩ := Bool.and_eq_true_iff.mp h
  obtain ⟨_, h3⟩ := Bool.and_eq_true_iff.mp h2
  show z.cps.all (· < 0x110000) = true
  rw [← Array.all_toList]
  refine List.all_eq_true.mpr fun c hc => ?_
  have := List.all_eq_true.mp h3 c hc
  rw [nmC_eq] at this
  exact decide_eq_true (NC_lt c (of_decide_eq_true this))
theorem nms_of {r : List Str} (h : areNm (r.map PyData.str) = true) : r.length ≤ 6 ∧ ∀ z ∈ r, nmS z = true := by
  obtain ⟨h1, h2⟩ := Bool.and_eq_true_iff.mp h
  have h1 := of_decide_eq_true h1
  rw [List.length_map] at h1
  refine ⟨by omega, fun z hz => ?_⟩
  exact List.all_eq_true.mp h2 _ (List.mem_map.mpr ⟨z, hz, rfl⟩)
theorem split_nm {d : PyData} {r : List Str} (h : splitD d = some r) : r.length ≤ 6 ∧ ∀ z ∈ r, nmS z = true := by
  cases d with
  | str z =>
    have h : splitP z = some r := h
    unfold splitP at h
    by_cases hz : z = "/"
    · rw [if_pos hz] at h
      cases h
      exact ⟨Nat.zero_le _, fun _ h => nomatch h⟩
    · rw [if_neg hz] at h
      cases hs : Txt.split z "/" with
      | nil => rw [hs] at h; cases h
      | cons a q =>
        rw [hs] at h
        have h : (if (a = "" ∧ q ≠ []) ∧ areNm (q.map PyData.str) = true then some q else none) = some r := h
        by_cases hc : (a = "" ∧ q ≠ []) ∧ areNm (q.map PyData.str) = true
        · rw [if_pos hc] at h
          cases h
          exact nms_of hc.2
        · rw [if_neg hc] at h
          cases h
  | _ => cases h
theorem dp_strs {H : Hp} : ∀ (r : List Str), DpAll K H (r.map V.str) (r.map PyData.str)
  | [] => .nil
  | z :: r => .cons (.str z) (dp_strs r)
theorem sds_nm {r : List Str} (h : ∀ z ∈ r, nmS z = true) : Sds 1 (r.map PyData.str) := fun d hd => by
  obtain ⟨z, hz, rfl⟩ := List.mem_map.mp hd
  exact sd_str (nm_ok (h z hz))
theorem eqv_strs : ∀ (r o : List Str), PyData.eqvAll (r.map PyData.str) (o.map PyData.str) = decide (r = o)
  | [], [] => rfl
  | [], _ :: _ => rfl
  | _ :: _, [] => rfl
  | x :: r, y :: o => by
    show ((x == y) && PyData.eqvAll (r.map PyData.str) (o.map PyData.str)) = _
    rw [eqv_strs r o]
    by_cases h : x = y
    · subst h
      simp
    · simp [h]
def withinB (r o : List Str) : Bool := decide (r.take o.length = o)
def spWithin (K : PySem.W.Frag) (CB : Addr) : Sp := fun vs H Q E => ∃ (v u : V) (d e : PyData), vs = [v, u] ∧ Dx K H v d ∧ Okd 8 d ∧ Dx K H u e ∧ Okd 8 e ∧ (∀ r o, splitD d = some r → splitD e = some o → RetV (.bl (withinB r o)) H Q) ∧ ((splitD d = none ∨ splitD e = none) → ∀ H1, Ex H H1 → E (.ref CB) none H1)
theorem go_cS {σ : L2.St} {H : Hp} {sp : Sp} {E : L2.St → XK} {t : L2.TA} {Q : VK} (h : t σ H fun vs H1 => sp vs H1 Q (E σ)) : tCallS sp E t σ H Q := h
theorem ok_within {f f_s C_BadPath : Addr} {fd fd_s : FuncData} (F : Fun K "is_within" "is_within" s_is_within f fd) (D_split_path : Df K mg "split_path" s_split_path ["path"] f_s fd_s) (G_split_path : FnOk P w K mg base (L2.CX P w) 3 f_s fd_s ["path"] (spSplit K C_BadPath)) (T : Glo mg) : FnOk P w K mg base (L2.CX P w) 4 f fd ["path", "other"] (spWithin K C_BadPath) := by
  refine F.okX sc_is_within (fun vs H Q E h => ?_) (fun cdv A outer s H vs Q E hr h => ?_)
  · obtain ⟨v, u, d, e, rfl, _⟩ := h
    rfl
  · obtain ⟨v, u, d, e, rfl, hd, ok, hu, ou, q1, q2⟩ := h
    refine ⟨_, (pss_cons (ps_set (i := 2) sc_is_within.nd rfl (.inl rfl) (pe_callS G_split_path (hr.mono (by decide)) (by rfl) D_split_path.g D_split_path.F.kp D_split_path.b (fun σ => passAt (takes_of rfl rfl rfl rfl) σ) (pa_cons (pv 0) pa_nil)))
  (pss_cons (ps_set (i := 3) sc_is_within.nd rfl (.inl rfl) (pe_callS G_split_path (hr.mono (by decide)) (by rfl) D_split_path.g D_split_path.F.kp D_split_path.b (fun σ => passAt (takes_of rfl rfl rfl rfl) σ) (pa_cons (pv 1) pa_nil)))
  (pss_one (ps_ret (pe_cmpR (op_eqD hr.units) (pe_slice sl_list (pv 2) po_none (po_some (pe_callB call_len_seq (by rfl) T.len PySem.boot_len (pa_cons (pv 3) pa_nil)))) (pv 3) (nomark _)))))), ?_⟩
    refine q_asgR (go_cS (ea_cons (x := v) (ev_var rfl) ea_nil H (Ex.refl H) _ fun H1 e1 => ⟨v, d, rfl, dx_mono e1 _ _ hd, ok, fun r h p H2 np e2 hp => ?_, fun h H2 e2 => q2 (.inl h) H2 (e1.trans e2)⟩))
    refine q_asgR (go_cS (ea_cons (x := u) (ev_var rfl) ea_nil H2 (Ex.refl H2) _ fun H3 e3 => ⟨u, e, rfl, dx_mono ((e1.trans e2).trans e3) _ _ hu, ou, fun o ho p2 H4 np2 e4 hp2 => ?_, fun h H4 e4 => q2 (.inr h) H4 ((e1.trans e2).trans (e3.trans e4))⟩))
    have q := q1 r o h ho
    have hp : H4 p = some (.lst (r.map V.str)) := (e3.trans e4) _ _ hp
    have s1 := (split_nm h).2
    have s2 := (split_nm ho).2
    refine s_ret (v := .bl (withinB r o)) (ev_is (ev_eqD (K := K) (n := 2) (m := 2) (d := .list ((r.take o.length).map PyData.str)) (e := .list (o.map PyData.str)) (ed_is (ed_new (en_slL (ed_var rfl (.lst (sq_of hp) (dp_strs r))) eo_none (eo_some (ev_lenD (ed_var rfl (.lst (sq_of hp2) (dp_strs o))))))) (by rw [cutA_to25, List.length_map, List.map_take])) (ed_var rfl (.lst (sq_of hp2) (dp_strs o))) (sd_list (sds_nm fun z hz => s1 z (List.mem_of_mem_take hz))) (sd_list (sds_nm s2)) (by decide) (by decide)) (congrArg V.bl (eqv_strs _ _))) (fun H5 e5 => q H5 (((e1.trans e2).trans (e3.trans e4)).trans e5))
abbrev T24 : Int := (10 : Int) ^ (24 : Int).toNat
def DrW (ds : List Int) : Prop := ∀ d ∈ ds, 0 ≤ d ∧ d < T24
theorem DrW.app {ds : List Int} {d : Int} (h : DrW ds) (h0 : 0 ≤ d) (h1 : d < T24) : DrW (ds ++ [d]) := fun e he => by
  rcases List.mem_append.mp he with he | he
  · exact h e he
  · rw [List.mem_singleton.mp he]
    exact ⟨h0, h1⟩
theorem t24_pos : (0 : Int) < T24 := by decide
def DWW (H0 : Hp) (l : Addr) (m : Nat) (H' : Hp) : Prop := H0 l = none ∧ Ex H0 H' ∧ ∃ ds : List Int, H' l = some (.lst (ds.map V.int)) ∧ DrW ds ∧ ds.length ≤ m
theorem DWW.app {H0 H1 H2 : Hp} {l : Addr} {m : Nat} {ds : List Int} {d : Int} (n : H0 l = none) (e : Ex H0 H1) (D : DrW ds) (hl : ds.length ≤ m) (h0 : 0 ≤ d) (h1 : d < T24) (e2 : Ex H1 H2) : DWW H0 l (m + 1) (upd H2 l (.lst (ds.map V.int ++ [V.int d]))) :=
  ⟨n, Ex.mut (e.trans e2) n, ds ++ [d], by rw [upd_same, List.map_append]; rfl, D.app h0 h1, by rw [List.length_append, List.length_singleton]; omega⟩
theorem ev_t24 {σ : L2.St} {H : Hp} : Ev (tOp (rI CPow fun i j => V.int (i ^ j.toNat)) (tC (V.int 10)) (tC (V.int 24))) σ H (.int T24) := ev_op ev_c ev_c (rv_I ⟨by decide, by decide, by decide⟩)
def spStreamW (K : PySem.W.Frag) : Sp := fun vs H Q _ => ∃ (a : Addr) (ns : List Int) (m : Nat), vs = [.ref a, .int (m : Int)] ∧ SqL K H a (ns.map V.int) ∧ ns.length ≤ 63 ∧ m ≤ 1000 ∧
  ∀ ds : List Int, DrW ds → ds.length ≤ m + 60 → RetL (ds.map V.int) H Q
theorem ok_streamW {f : Addr} {fd : FuncData} {k : Nat} (F : Fun K "_law_stream" "_law_stream" s__law_stream f fd) (T : Glo mg) : FnOk P w K mg base CX0 (k + 1) f fd ["script", "many"] (spStreamW K) := by
  refine F.ok sc__law_stream (fun vs H Q E h => ?_) (fun cdv A outer s H vs Q E hr h => ?_)
  · obtain ⟨a, ns, m, rfl, _⟩ := h
    rfl
  · obtain ⟨a, ns, m, rfl, hS, hn, hm, q⟩ := h
    refine ⟨_, (pss_cons (ps_set (i := 2) sc__law_stream.nd rfl (.inl rfl) (pe_lst pa_nil))
  (pss_cons (ps_for PassesOwn.never rfl (pi_list (pv 0)) (pg_name (i := 3) sc__law_stream.nd rfl (.inl rfl))
  (pss_cons (ps_if (pt_cmpR op_ge (pe_callB call_len_seq (by rfl) T.len PySem.boot_len (pa_cons (pv 2) pa_nil)) (pv 1) (nomark _))
  (pss_one ps_break)
  pss_nil)
  (pss_one (ps_if (pt_cmpR op_ge (pv 3) (pe_op op_pow pe_int pe_int) (nomark _))
  (pss_cons (ps_set (i := 4) sc__law_stream.nd rfl (.inl rfl) (pv 3))
  (pss_one (ps_for PassesOwn.never rfl (pi_range1 (by rfl) T.range (pa_cons pe_int pa_nil)) (pg_name (i := 5) sc__law_stream.nd rfl (.inl rfl))
  (pss_one (ps_if (pt_cmpR op_gt (pv 4) pe_int (nomark _))
  (pss_cons (ps_expr (pe_bm PySem.F.plainAttrs_list PySem.F.slot_list_append PySem.F.type_list_append mt_append (pv 2) (pa_cons (pe_op op_mod (pe_callTy call_int1 (by rfl) T.int (by decide +kernel) (pa_cons (pv 4) pa_nil)) (pe_op op_pow pe_int pe_int)) pa_nil)))
  (pss_one (ps_set (i := 4) sc__law_stream.nd rfl (.inl rfl) (pe_op op_fdivW (pv 4) (pe_op op_pow pe_int pe_int)))))
  pss_nil)))))
  (pss_cons (ps_set (i := 6) sc__law_stream.nd rfl (.inl rfl) (pe_op op_mod (pe_callTy call_int1 (by rfl) T.int (by decide +kernel) (pa_cons (pe_op op_add (pe_op op_add (pe_op op_mul (pv 3) pe_int) (pe_op op_mul (pe_callB call_len_seq (by rfl) T.len PySem.boot_len (pa_cons (pv 2) pa_nil)) pe_int)) pe_int) pa_nil)) pe_int))
  (pss_one (ps_for PassesOwn.never rfl (pi_range1 (by rfl) T.range (pa_cons pe_int pa_nil)) (pg_name (i := 5) sc__law_stream.nd rfl (.inl rfl))
  (pss_cons (ps_set (i := 7) sc__law_stream.nd rfl (.inl rfl) pe_int)
  (pss_cons (ps_for PassesOwn.never rfl (pi_range1 (by rfl) T.range (pa_cons pe_int pa_nil)) (pg_name (i := 8) sc__law_stream.nd rfl (.inl rfl))
  (pss_cons (ps_set (i := 6) sc__law_stream.nd rfl (.inl rfl) (pe_op op_mod (pe_callTy call_int1 (by rfl) T.int (by decide +kernel) (pa_cons (pe_op op_add (pe_op op_add (pe_op op_add (pe_op op_mul (pv 6) pe_int) (pe_op op_mul pe_int (pv 5))) (pe_op op_mul pe_int (pv 8))) pe_int) pa_nil)) pe_int))
  (pss_one (ps_set (i := 7) sc__law_stream.nd rfl (.inl rfl) (pe_op op_add (pe_op op_mul (pv 7) pe_int) (pv 6))))))
  (pss_one (ps_expr (pe_bm PySem.F.plainAttrs_list PySem.F.slot_list_append PySem.F.type_list_append mt_append (pv 2) (pa_cons (pe_op op_mod (pe_callTy call_int1 (by rfl) T.int (by decide +kernel) (pa_cons (pe_op op_fdiv (pv 7) pe_int) pa_nil)) (pe_op op_pow pe_int pe_int)) pa_nil)))))))))))))
  (pss_one (ps_ret (pv 2))))), ?_⟩
    refine' q_asgL (xs := []) (el_lst ea_nil (by decide)) (fun l H1 nl e1 h1 => ?_)
    have hS1 : SqL K H1 a (ns.map V.int) := ex_l e1 hS
    refine' q_forLn (a := a) (xs := ns.map V.int) (ev_var rfl) hS1 (fun i σ' H' => ∃ y3 y4 y5 y6 y7 y8, σ' = [some (.ref a), some (.int (m : Int)), some (.ref l), y3, y4, y5, y6, y7, y8] ∧ DWW H l (m + 60) H') (fun H2 e2 => ?_) (fun i σ' H' _ p => ?_) (fun i x σ' H' hx p => ?_) (fun σ' H' p => ?_)
    · exact ⟨none, none, none, none, none, none, rfl, nl, e1.trans e2, [], e2 l _ h1, (fun _ h => nomatch h), Nat.zero_le _⟩
    · obtain ⟨_, _, _, _, _, _, _, _, e, _⟩ := p
      exact ex_l e hS
    · obtain ⟨y3, y4, y5, y6, y7, y8, rfl, n, e, ds, hd, D, hl⟩ := p
      obtain ⟨c, rfl⟩ : ∃ c, x = V.int c := by
        rw [List.getElem?_map] at hx
        cases h : ns[i]? with
        | none => rw [h] at hx; cases hx
        | some c => rw [h] at hx; exact ⟨c, (Option.some.inj hx).symm⟩
      have hL : SqL K H' l (ds.map V.int) := sq_of hd
      refine' q_when ?c (fun hb H2 e2 => ?_) (fun hb H2 e2 => ?_)
      case c => walk_at "ev"
      · -- break
        refine s_ret (ev_var rfl) fun H3 e3 => ?_
        exact q ds D hl l H3 n ((e.trans e2).trans e3) (e3 l _ (e2 l _ hd))
      · have hb := of_decide_eq_false hb
        rw [List.length_map] at hb
        have hlt : ds.length < m := by omega
        have hd2 := e2 l _ hd
        have E2 := e.trans e2
        refine' s_if ?c (fun hc H3 e3 => ?_) (fun hc H3 e3 => ?_)
        case c => walk_at "ev"
        · -- a great one
          refine' q_asg (ev_var rfl) (fun H4 e4 => ?_)
          refine' s_forR1 (n := 60) (ea_cons ev_c ea_nil) (by decide) (fun i σ' H' => ∃ (r : Int) (y5 : Option V), σ' = [some (.ref a), some (.int (m : Int)), some (.ref l), some (.int c), some (.int r), y5, y6, y7, y8] ∧ DWW H l (m + i) H') (fun H5 e5 => ⟨c, _, rfl, n, ((E2.trans e3).trans e4).trans e5, ds, e5 l _ (e4 l _ (e3 l _ hd2)), D, by omega⟩) (fun i σ' H' hi p => ?_) (fun σ' H' p => ?_)
          · obtain ⟨r, z5, rfl, n', e', ds', hd', D', hl'⟩ := p
            have hL' : SqL K H' l (ds'.map V.int) := sq_of hd'
            refine' s_when ?c (fun hb H6 e6 => ?_) (fun hb H6 e6 => ?_)
            case c => walk_at "ev"
            · refine' q_app (l := l) (xs := ds'.map V.int) (v := .int (r % T24)) (e6 l _ hd') (ev_var rfl) ?c (by rw [List.length_map]; omega) (fun H7 e7 => ?_)
              case c => exact ev_op (ev_cb (ea_cons (ev_var rfl) ea_nil) rc_int) ev_t24 (rv_I t24_pos)
              refine' s_asg (v := .int (r / T24)) ?c (fun H8 e8 => ?_)
              case c => exact ev_op (ev_var rfl) ev_t24 (rv_I (wide_div (b := 80) t24_pos (by decide) (by decide) (by decide)))
              obtain ⟨_, k2, k3⟩ := DWW.app n' (e'.trans e6) D' hl' (Int.emod_nonneg r (Int.ne_of_gt t24_pos)) (Int.emod_lt_of_pos r t24_pos) e7
              obtain ⟨ds8, k4, k5, k6⟩ := k3
              exact ⟨r / T24, _, rfl, n', k2.trans e8, ds8, e8 l _ k4, k5, k6⟩
            · exact ⟨r, _, rfl, n', e'.trans e6, ds', e6 l _ hd', D', by omega⟩
          · obtain ⟨r, z5, rfl, w⟩ := p
            exact ⟨_, _, _, _, _, _, rfl, w⟩
        · -- a plain one
          refine' q_asg ?c (fun H4 e4 => ?_)
          case c =>
            have hL3 : SqL K H3 l (ds.map V.int) := sq_of (e3 l _ hd2)
            refine' ev_op (ev_cb (ea_cons (ev_op (ev_op (ev_op (ev_var rfl) ev_c (rv_I (.inr (by decide)))) (ev_op (ev_cb (ea_cons (ev_var rfl) ea_nil) (rc_len hL3)) ev_c (rv_I (.inr (by decide)))) rv_I0) ev_c rv_I0) ea_nil) rc_int) ev_c (rv_I (by decide))
          refine' s_forR1 (n := 4) (ea_cons ev_c ea_nil) (by decide) (fun i σ' H' => ∃ (r : Int) (y5 y7 y8 : Option V), σ' = [some (.ref a), some (.int (m : Int)), some (.ref l), some (.int c), y4, y5, some (.int r), y7, y8] ∧ DWW H l (m + i) H') (fun H5 e5 => ⟨_, _, _, _, rfl, n, ((E2.trans e3).trans e4).trans e5, ds, e5 l _ (e4 l _ (e3 l _ hd2)), D, by omega⟩) (fun i σ' H' hi p => ?_) (fun σ' H' p => ?_)
          · obtain ⟨r, z5, z7, z8, rfl, n', e', ds', hd', D', hl'⟩ := p
            refine' q_asg ev_c (fun H6 e6 => ?_)
            refine' q_forR1 (n := 3) (ea_cons ev_c ea_nil) (by decide) (fun j σ' H' => ∃ (r g : Int) (y8 : Option V), σ' = [some (.ref a), some (.int (m : Int)), some (.ref l), some (.int c), y4, some (.int ((i : Nat) : Int)), some (.int r), some (.int g), y8] ∧ Ex H6 H') (fun H7 e7 => ⟨_, _, _, rfl, e7⟩) (fun j σ' H' hj p => ?_) (fun σ' H7 p => ?_)
            · obtain ⟨r, g, y8, rfl, ee⟩ := p
              refine' q_asg ?c (fun H8 e8 => ?_)
              case c =>
                refine' ev_op (ev_cb (ea_cons (ev_op (ev_op (ev_op (ev_op (ev_var rfl) ev_c (rv_I (.inr (by decide)))) (ev_op ev_c (ev_var rfl) (rv_I (.inl (by decide)))) rv_I0) (ev_op ev_c (ev_var rfl) (rv_I (.inl (by decide)))) rv_I0) ev_c rv_I0) ea_nil) rc_int) ev_c (rv_I (by decide))
              refine' s_asg ?c (fun H9 e9 => ?_)
              case c => exact ev_op (ev_op (ev_var rfl) ev_c (rv_I (.inr (by decide)))) (ev_var rfl) rv_I0
              exact ⟨_, _, _, rfl, ee.trans (e8.trans e9)⟩
            · obtain ⟨r, g, y8, rfl, ee⟩ := p
              have ee := e6.trans ee
              refine s_app (l := l) (xs := ds'.map V.int) (ee l _ hd') (ev_var rfl) (ev_op (ev_cb (ea_cons (ev_op (ev_var rfl) ev_c (rv_I ⟨by decide, by decide⟩)) ea_nil) rc_int) ev_t24 (rv_I t24_pos)) (by rw [List.length_map]; omega) (fun H8 e8 => ?_)
              exact ⟨_, _, _, _, rfl, DWW.app n' (e'.trans ee) D' hl' (Int.emod_nonneg _ (Int.ne_of_gt t24_pos)) (Int.emod_lt_of_pos _ t24_pos) e8⟩
          · obtain ⟨r, z5, z7, z8, rfl, n', e', ds', hd', D', hl'⟩ := p
            exact ⟨_, _, _, _, _, _, rfl, n', e', ds', hd', D', by have : (4 : Int).toNat = 4 := rfl; omega⟩
    · obtain ⟨y3, y4, y5, y6, y7, y8, rfl, n, e, ds, hd, D, hl⟩ := p
      refine s_ret (ev_var rfl) fun H3 e3 => ?_
      exact q ds D hl l H3 n (e.trans e3) (e3 l _ hd)
theorem ok_draw {f : Addr} {fd : FuncData} {k : Nat} (F : Fun K "_law_draw" "_law_draw" s__law_draw f fd) (T : Glo mg) : FnOk P w K mg base CX0 (k + 1) f fd ["draws", "k"] (spDraw K) := by
  refine F.ok sc__law_draw (fun vs H Q E h => ?_) (fun cdv A outer s H vs Q E hr h => ?_)
  · obtain ⟨a, ds, k, rfl, _⟩ := h
    rfl
  · obtain ⟨a, ds, k, rfl, hS, q⟩ := h
    refine ⟨_, (pss_cons (ps_if (pt_cmpR op_lt (pv 1) (pe_callB call_len_seq (by rfl) T.len PySem.boot_len (pa_cons (pv 0) pa_nil)) (nomark _))
  (pss_one (ps_ret (pe_ix ix_list (pv 0) (pv 1) (fun _ _ => rfl))))
  pss_nil)
  (pss_one (ps_ret pe_int))), ?_⟩
    refine' q_when ?c (fun hb H1 e1 => ?_) (fun hb H1 e1 => ?_)
    case c => walk_at "ev"
    · have hb := of_decide_eq_true hb
      rw [List.length_map] at hb
      have hk : k < ds.length := by omega
      refine s_ret (v := .int (drw ds k)) (ev_op (ev_var rfl) (ev_var rfl) (rv_ixL (ex_l e1 hS) ?_)) fun H2 e2 => q _ (e1.trans e2)
      have e0 : (ds.map V.int)[k]? = some (.int (drw ds k)) := by
        rw [List.getElem?_map, List.getElem?_eq_getElem hk]
        unfold drw
        rw [List.getD_eq_getElem?_getD, List.getElem?_eq_getElem hk]
        rfl
      exact atI_nat e0
    · have hb := of_decide_eq_false hb
      rw [List.length_map] at hb
      refine s_ret ev_c fun H2 e2 => ?_
      have e0 : drw ds k = 0 := by
        unfold drw
        rw [List.getD_eq_getElem?_getD, List.getElem?_eq_none (by omega)]
        rfl
      rw [← e0]
      exact q _ (e1.trans e2)
abbrev SG : Str := Str.ofString "abcdefghijklmnopqrstuvwxyz0123456789-."
theorem SG_ok : ∀ c ∈ SG.cps.toList, c ∈ NC.cps.toList := by decide +kernel
theorem SG_len : SG.cps.toList.length = 38 := by decide +kernel
def sgn (i : Int) : Nat := SG.cps.toList.getD i.toNat 0
theorem sg_at {i : Int} (h0 : 0 ≤ i) (h1 : i < 38) : atI SG.cps.toList i = some (sgn i) ∧ nmC (sgn i) = true := by
  have hl : i.toNat < SG.cps.toList.length := by rw [SG_len]; omega
  have hg : sgn i = SG.cps.toList[i.toNat] := by
    unfold sgn
    rw [List.getD_eq_getElem?_getD, List.getElem?_eq_getElem hl]
    rfl
  have t := atI_nat (List.getElem?_eq_getElem hl)
  rw [Int.toNat_of_nonneg h0, ← hg] at t
  refine ⟨t, ?_⟩
  rw [nmC_eq, hg]
  exact decide_eq_true (SG_ok _ (List.getElem_mem hl))
/-- signs of names only, at most 12 -/
def pc (z : Str) : Prop := z.length ≤ 12 ∧ z.cps.toList.all nmC = true
def goodS (z : Str) : Str := if z = "" ∨ z = "." ∨ z = ".." then z ++ "a" else z
theorem ne_nil {z : Str} (h : z ≠ "") : 1 ≤ z.length := by
  refine Nat.pos_of_ne_zero fun h0 => h ?_
  have : z.cps.size = 0 := h0
  have e : z.cps = #[] := Array.eq_empty_of_size_eq_zero this
  cases z
  cases e
  rfl
theorem good_nm {z : Str} (h : pc z) : nmS (goodS z) = true := by
  unfold goodS
  by_cases h1 : z = ""
  · rw [if_pos (.inl h1), h1]
    decide +kernel
  · by_cases h2 : z = "."
    · rw [if_pos (.inr (.inl h2)), h2]
      decide +kernel
    · by_cases h3 : z = ".."
      · rw [if_pos (.inr (.inr h3)), h3]
        decide +kernel
      · rw [if_neg (fun h => h.elim h1 (fun h => h.elim h2 h3))]
        have := ne_nil h1
        have hl := h.1
        unfold nmS
        rw [h.2, decide_eq_true (by omega), decide_eq_true (by omega), decide_eq_false (fun e => h2 (V.str.inj e)), decide_eq_false (fun e => h3 (V.str.inj e))]
        rfl
def spGood : Sp := fun vs H Q _ => ∃ z : Str, vs = [.str z] ∧ z.length ≤ 1000 ∧ RetV (.str (goodS z)) H Q
theorem spGood_v {H : Hp} {z : Str} (h : z.length ≤ 1000) : SpV spGood [.str z] H (.str (goodS z)) := fun H1 _ Q q _ => ⟨z, rfl, h, fun H2 e2 => q H2 e2⟩
theorem ok_good {f : Addr} {fd : FuncData} {k : Nat} (F : Fun K "_law_good" "_law_good" s__law_good f fd) (T : Glo mg) : FnOk P w K mg base CX0 (k + 1) f fd ["name"] spGood := by
  refine F.ok sc__law_good (fun vs H Q E h => ?_) (fun cdv A outer s H vs Q E hr h => ?_)
  · obtain ⟨a, rfl, _⟩ := h
    rfl
  · obtain ⟨z, rfl, hz, q⟩ := h
    refine ⟨_, (pss_cons (ps_if (PW.pt (pw_or (pt_cmpR op_eq (pv 0) pe_str (nomark _)) (pw_or (pt_cmpR op_eq (pv 0) pe_str (nomark _)) (pw_or1 (pt_cmpR op_eq (pv 0) pe_str (nomark _))))))
  (pss_one (ps_ret (pe_op op_add_str (pv 0) pe_str)))
  pss_nil)
  (pss_one (ps_ret (pv 0)))), ?_⟩
    have h1 : (Str.ofString "a").length = 1 := by decide +kernel
    have hsz : z.length + (Str.ofString "a").length ≤ 100000 := by omega
    refine q_when (b := decide (V.str z = V.str "") || (decide (V.str z = V.str ".") || decide (V.str z = V.str ".."))) (et_or (et_test (ev_op (ev_var rfl) ev_c (rv_eq rfl))) (fun _ => et_or (et_test (ev_op (ev_var rfl) ev_c (rv_eq rfl))) (fun _ => et_test (ev_op (ev_var rfl) ev_c (rv_eq rfl))))) (fun hb H1 e1 => ?_) (fun hb H1 e1 => ?_)
    · have hg : goodS z = z ++ "a" := by
        unfold goodS
        rw [if_pos]
        rcases Bool.or_eq_true_iff.mp hb with h | h
        · exact .inl (V.str.inj (of_decide_eq_true h))
        · rcases Bool.or_eq_true_iff.mp h with h | h
          · exact .inr (.inl (V.str.inj (of_decide_eq_true h)))
          · exact .inr (.inr (V.str.inj (of_decide_eq_true h)))
      rw [hg] at q
      exact s_ret (ev_op (y := .str "a") (ev_var rfl) ev_c (fun H2 e2 Q2 k2 => ⟨_, _, rfl, rfl, sz_of hsz, k2 H2 (Ex.refl H2)⟩)) (fun H2 e2 => q H2 (e1.trans e2))
    · have hg : goodS z = z := by
        unfold goodS
        rw [if_neg]
        obtain ⟨h1, h2⟩ := Bool.or_eq_false_iff.mp hb
        obtain ⟨h2, h3⟩ := Bool.or_eq_false_iff.mp h2
        exact fun h => h.elim (fun h => of_decide_eq_false h1 (by rw [h])) (fun h => h.elim (fun h => of_decide_eq_false h2 (by rw [h])) (fun h => of_decide_eq_false h3 (by rw [h])))
      rw [hg] at q
      exact s_ret (ev_var rfl) (fun H2 e2 => q H2 (e1.trans e2))
theorem pc_one {z : Str} {c : Nat} (h : z.cps.toList.all nmC = true) (hc : nmC c = true) : (z ++ (⟨#[c]⟩ : Str)).cps.toList.all nmC = true := by
  show (z.cps ++ #[c]).toList.all nmC = true
  rw [Array.toList_append, List.all_append, h]
  show (true && ((nmC c && true))) = true
  rw [hc]
  rfl
def nmF : Nat → Str → Int → Str
  | 0, z, _ => z
  | n + 1, z, r => nmF n (z ++ (⟨#[sgn (r % 38)]⟩ : Str)) (r / 38)
def nameS (d : Int) : Str := goodS (nmF (1 + d % 12).toNat "" (d / 12))
theorem sgn_ok (r : Int) : nmC (sgn (r % 38)) = true := (sg_at (Int.emod_nonneg r (show (38 : Int) ≠ 0 by decide)) (Int.emod_lt_of_pos r (show (0 : Int) < 38 by decide))).2
theorem nmF_len : ∀ (n : Nat) (z : Str) (r : Int), (nmF n z r).length = z.length + n
  | 0, _, _ => rfl
  | n + 1, z, r => by
    show (nmF n _ _).length = _
    rw [nmF_len n, Str.length_append]
    show z.length + 1 + n = _
    omega
theorem nmF_all : ∀ (n : Nat) (z : Str) (r : Int), z.cps.toList.all nmC = true → (nmF n z r).cps.toList.all nmC = true
  | 0, _, _, h => h
  | n + 1, z, r, h => nmF_all n _ _ (pc_one h (sgn_ok r))
theorem nmF_pc (d : Int) : pc (nmF (1 + d % 12).toNat "" (d / 12)) := by
  have m0 : 0 ≤ d % 12 := Int.emod_nonneg d (by decide)
  have m1 : d % 12 < 12 := Int.emod_lt_of_pos d (by decide)
  refine ⟨?_, nmF_all _ _ _ rfl⟩
  rw [nmF_len]
  show 0 + _ ≤ _
  omega
theorem name_nm (d : Int) : nmS (nameS d) = true := good_nm (nmF_pc d)
def spName : Sp := fun vs H Q _ => ∃ d : Int, vs = [.int d] ∧ RetV (.str (nameS d)) H Q
theorem spName_v {H : Hp} {d : Int} : SpV spName [.int d] H (.str (nameS d)) := fun H1 _ Q q _ => ⟨d, rfl, fun H2 e2 => q H2 e2⟩
theorem ok_name {f f_g : Addr} {fd fd_g : FuncData} (F : Fun K "_law_name" "_law_name" s__law_name f fd) (D__law_good : Df K mg "_law_good" s__law_good ["name"] f_g fd_g) (G__law_good : FnOk P w K mg base CX0 1 f_g fd_g ["name"] spGood) (T : Glo mg) : FnOk P w K mg base CX0 2 f fd ["draw"] spName := by
  refine F.ok sc__law_name (fun vs H Q E h => ?_) (fun cdv A outer s H vs Q E hr h => ?_)
  · obtain ⟨a, rfl, _⟩ := h
    rfl
  · obtain ⟨d, rfl, q⟩ := h
    refine ⟨_, (pss_cons (ps_set (i := 1) sc__law_name.nd rfl (.inl rfl) pe_str)
  (pss_cons (ps_set (i := 2) sc__law_name.nd rfl (.inl rfl) pe_str)
  (pss_cons (ps_set (i := 3) sc__law_name.nd rfl (.inl rfl) (pe_op op_fdiv (pv 0) pe_int))
  (pss_cons (ps_for PassesOwn.never rfl (pi_range1 (by rfl) T.range (pa_cons (pe_op op_add pe_int (pe_op op_mod (pe_callTy call_int1 (by rfl) T.int (by decide +kernel) (pa_cons (pv 0) pa_nil)) pe_int)) pa_nil)) (pg_name (i := 4) sc__law_name.nd rfl (.inl rfl))
  (pss_cons (ps_set (i := 2) sc__law_name.nd rfl (.inl rfl) (pe_op op_add_str (pv 2) (pe_ix ix_str (pv 1) (pe_op op_mod (pe_callTy call_int1 (by rfl) T.int (by decide +kernel) (pa_cons (pv 3) pa_nil)) pe_int) (fun _ _ => rfl))))
  (pss_one (ps_set (i := 3) sc__law_name.nd rfl (.inl rfl) (pe_op op_fdiv (pv 3) pe_int)))))
  (pss_one (ps_ret (pe_call G__law_good (hr.mono (by decide)) (by rfl) D__law_good.g D__law_good.F.kp D__law_good.b .nil pass0 (pa_cons (pv 2) pa_nil)))))))), ?_⟩
    refine q_asg ev_c fun H1 e1 => q_asg ev_c fun H2 e2 => ?_
    refine q_asg (ev_op (ev_var rfl) ev_c (rv_I ⟨by decide, by decide⟩)) fun H3 e3 => ?_
    have m0 : 0 ≤ d % 12 := Int.emod_nonneg d (by decide)
    have m1 : d % 12 < 12 := Int.emod_lt_of_pos d (by decide)
    refine q_forR1 (n := 1 + d % 12) (ea_cons (ev_op ev_c (ev_op (ev_cb (ea_cons (ev_var rfl) ea_nil) rc_int) ev_c (rv_I (by decide))) rv_I0) ea_nil) ⟨by omega, by omega⟩ (fun i σ' H' => ∃ (z : Str) (r : Int) (y : Option V), σ' = [some (.int d), some (.str SG), some (.str z), some (.int r), y] ∧ z.length = i ∧ nmF ((1 + d % 12).toNat - i) z r = nmF (1 + d % 12).toNat "" (d / 12) ∧ Ex H3 H') (fun H4 e4 => ⟨"", _, _, rfl, rfl, rfl, e4⟩) (fun i σ' H' hi p => ?_) (fun σ' H' p => ?_)
    · obtain ⟨z, r, y, rfl, hl, ha, e⟩ := p
      obtain ⟨hc, hn⟩ := sg_at (Int.emod_nonneg r (show (38 : Int) ≠ 0 by decide)) (Int.emod_lt_of_pos r (show (0 : Int) < 38 by decide))
      have hlen : (z ++ (⟨#[sgn (r % 38)]⟩ : Str)).length = i + 1 := by
        rw [Str.length_append, hl]
        rfl
      refine q_asg (v := .str (z ++ (⟨#[sgn (r % 38)]⟩ : Str))) (ev_op (y := .str ⟨#[sgn (r % 38)]⟩) (ev_var rfl) (ev_op (ev_var rfl) (ev_op (ev_cb (ea_cons (ev_var rfl) ea_nil) rc_int) ev_c (rv_I (by decide))) (rv_ixS (w := SG) (by decide +kernel) hc)) (fun H2 e2 Q2 k2 => ⟨_, _, rfl, rfl, sz_of (by rw [← Str.length_append, hlen]; omega), k2 H2 (Ex.refl H2)⟩)) fun H5 e5 => ?_
      refine s_asg (ev_op (ev_var rfl) ev_c (rv_I ⟨by decide, by decide⟩)) fun H6 e6 => ?_
      refine ⟨_, _, _, rfl, hlen, ?_, e.trans (e5.trans e6)⟩
      rw [← ha, show (1 + d % 12).toNat - i = ((1 + d % 12).toNat - (i + 1)) + 1 by omega]
      rfl
    · obtain ⟨z, r, y, rfl, hl, ha, e⟩ := p
      rw [Nat.sub_self] at ha
      have ha : z = nmF (1 + d % 12).toNat "" (d / 12) := ha
      subst ha
      have hp := (nmF_pc d).1
      exact s_ret (ev_call (ea_cons (ev_var rfl) ea_nil) (spGood_v (by omega))) (fun H7 e7 => q H7 ((e1.trans (e2.trans e3)).trans (e.trans e7)))
theorem ev_slS {σ : L2.St} {H : Hp} {te : TE} {z : Str} {tl th : TO} {lo hi : Option Int} (h : Ev te σ H (.str z)) (h1 : EvO tl σ H lo) (h2 : EvO th σ H hi) (hl : z.length ≤ 100000) : Ev (tSl rSlS te tl th) σ H (.str (cutS z lo hi)) := fun H1 e _ q =>
  h H1 e _ fun H2 e2 => h1 H2 (e.trans e2) _ fun H3 e3 => h2 H3 ((e.trans e2).trans e3) _ fun H4 e4 => ⟨z, rfl, sz_of hl, q H4 (e2.trans (e3.trans e4))⟩
theorem rv_addS {x y : Str} {H : Hp} (h : x.length + y.length ≤ 100000) : RV (fun x y H Q => ∃ i j, x = V.str i ∧ y = V.str j ∧ i.length + j.length ≤ sizeLine ∧ Q (V.str (i ++ j)) H) (.str x) (.str y) H (.str (x ++ y)) := fun H1 _ _ q => ⟨_, _, rfl, rfl, sz_of h, q H1 (Ex.refl H1)⟩
theorem cut_to (z : Str) (n : Nat) : (cutS z none (some (n : Int))).cps.toList = z.cps.toList.take n := by
  have hl : z.length = z.cps.toList.length := Array.length_toList.symm
  unfold cutS
  rw [HT.sIx_none, HT.sIx_nat]
  show (z.cps.toList.drop 0).take (min n z.length - 0) = _
  rw [List.drop_zero, Nat.sub_zero, hl, ← List.take_eq_take_min]
theorem cut_from (z : Str) (n : Nat) : (cutS z (some (n : Int)) none).cps.toList = z.cps.toList.drop n := by
  have hl : z.length = z.cps.toList.length := Array.length_toList.symm
  unfold cutS
  rw [HT.sIx_none, HT.sIx_nat]
  show (z.cps.toList.drop (min n z.length)).take (z.length - min n z.length) = _
  by_cases h : n ≤ z.length
  · rw [Nat.min_eq_left h, List.take_of_length_le (by rw [List.length_drop]; omega)]
  · rw [Nat.min_eq_right (by omega), Nat.sub_self, List.take_zero, List.drop_eq_nil_of_le (by omega)]
def nearT (z : Str) (d : Int) : Str := cutS z none (some (d % (z.length : Int))) ++ (⟨#[sgn (d / 12 % 38)]⟩ : Str) ++ cutS z (some (d % (z.length : Int) + 1)) none
def nearS (z : Str) (d : Int) : Str := goodS (nearT z d)
theorem nm_pc {z : Str} (h : nmS z = true) : pc z ∧ 1 ≤ z.length := by
  obtain ⟨h1, h2⟩ := Bool.and_eq_true_iff.mp h
  obtain ⟨h1, h3⟩ := Bool.and_eq_true_iff.mp h1
  obtain ⟨_, h4⟩ := Bool.and_eq_true_iff.mp h2
  have h1 := of_decide_eq_true h1
  have h3 := of_decide_eq_true h3
  exact ⟨⟨by omega, h4⟩, by omega⟩
theorem near_pc {z : Str} (d : Int) (h : nmS z = true) : pc (nearT z d) := by
  obtain ⟨⟨h1, h2⟩, h3⟩ := nm_pc h
  have m0 : 0 ≤ d % (z.length : Int) := Int.emod_nonneg d (by omega)
  have m1 : d % (z.length : Int) < z.length := Int.emod_lt_of_pos d (by omega)
  obtain ⟨k, hk⟩ : ∃ k : Nat, d % (z.length : Int) = (k : Int) := ⟨_, (Int.toNat_of_nonneg m0).symm⟩
  have hl : z.length = z.cps.toList.length := Array.length_toList.symm
  have e : (nearT z d).cps.toList = (z.cps.toList.take k ++ [sgn (d / 12 % 38)]) ++ z.cps.toList.drop (k + 1) := by
    unfold nearT
    rw [hk]
    show (((cutS z none (some (k : Int))).cps ++ #[sgn (d / 12 % 38)]) ++ (cutS z (some ((k + 1 : Nat) : Int)) none).cps).toList = _
    rw [Array.toList_append, Array.toList_append, cut_to, cut_from]
  refine ⟨?_, ?_⟩
  · rw [show (nearT z d).length = (nearT z d).cps.toList.length from Array.length_toList.symm, e, List.length_append, List.length_append, List.length_take, List.length_drop, List.length_singleton]
    omega
  · rw [e, List.all_append, List.all_append]
    have t1 : (z.cps.toList.take k).all nmC = true := List.all_eq_true.mpr fun c hc => List.all_eq_true.mp h2 c (List.mem_of_mem_take hc)
    have t2 : (z.cps.toList.drop (k + 1)).all nmC = true := List.all_eq_true.mpr fun c hc => List.all_eq_true.mp h2 c (List.mem_of_mem_drop hc)
    rw [t1, t2]
    show (true && (nmC _ && true) && true) = true
    rw [sgn_ok]
    rfl
theorem near_nm {z : Str} (d : Int) (h : nmS z = true) : nmS (nearS z d) = true := good_nm (near_pc d h)
def spNear : Sp := fun vs H Q _ => ∃ (z : Str) (d : Int), vs = [.str z, .int d] ∧ nmS z = true ∧ RetV (.str (nearS z d)) H Q
theorem spNear_v {H : Hp} {z : Str} {d : Int} (h : nmS z = true) : SpV spNear [.str z, .int d] H (.str (nearS z d)) := fun H1 _ Q q _ => ⟨z, d, rfl, h, fun H2 e2 => q H2 e2⟩
theorem ok_near {f f_g : Addr} {fd fd_g : FuncData} (F : Fun K "_law_near" "_law_near" s__law_near f fd) (D__law_good : Df K mg "_law_good" s__law_good ["name"] f_g fd_g) (G__law_good : FnOk P w K mg base CX0 1 f_g fd_g ["name"] spGood) (T : Glo mg) : FnOk P w K mg base CX0 2 f fd ["name", "draw"] spNear := by
  refine F.ok sc__law_near (fun vs H Q E h => ?_) (fun cdv A outer s H vs Q E hr h => ?_)
  · obtain ⟨a, b, rfl, _⟩ := h
    rfl
  · obtain ⟨z, d, rfl, hz, q⟩ := h
    refine ⟨_, (pss_cons (ps_set (i := 2) sc__law_near.nd rfl (.inl rfl) pe_str)
  (pss_cons (ps_set (i := 3) sc__law_near.nd rfl (.inl rfl) (pe_op op_mod (pe_callTy call_int1 (by rfl) T.int (by decide +kernel) (pa_cons (pv 1) pa_nil)) (pe_callB call_len_str (by rfl) T.len PySem.boot_len (pa_cons (pv 0) pa_nil))))
  (pss_cons (ps_set (i := 4) sc__law_near.nd rfl (.inl rfl) (pe_ix ix_str (pv 2) (pe_op op_mod (pe_callTy call_int1 (by rfl) T.int (by decide +kernel) (pa_cons (pe_op op_fdiv (pv 1) pe_int) pa_nil)) pe_int) (fun _ _ => rfl)))
  (pss_one (ps_ret (pe_call G__law_good (hr.mono (by decide)) (by rfl) D__law_good.g D__law_good.F.kp D__law_good.b .nil pass0 (pa_cons (pe_op op_add_str (pe_op op_add_str (pe_slice sl_str (pv 0) po_none (po_some (pv 3))) (pv 4)) (pe_slice sl_str (pv 0) (po_some (pe_op op_add (pv 3) pe_int)) po_none)) pa_nil))))))), ?_⟩
    obtain ⟨⟨h1, h2⟩, h3⟩ := nm_pc hz
    have hp := (near_pc d hz).1
    have c1 := cutS_length z none (some (d % (z.length : Int)))
    have c2 := cutS_length z (some (d % (z.length : Int) + 1)) none
    refine q_asg ev_c fun H1 e1 => ?_
    refine q_asg (ev_op (ev_cb (ea_cons (ev_var rfl) ea_nil) rc_int) (ev_cb (ea_cons (ev_var rfl) ea_nil) (rc_lenS (by omega))) (rv_I (by show (0 : Int) < (z.length : Int); omega))) fun H2 e2 => ?_
    refine q_asg (ev_op (ev_var rfl) (ev_op (ev_cb (ea_cons (ev_op (ev_var rfl) ev_c (rv_I ⟨by decide, by decide⟩)) ea_nil) rc_int) ev_c (rv_I (by decide))) (rv_ixS (w := SG) (by decide +kernel) (sg_at (i := d / 12 % 38) (Int.emod_nonneg _ (show (38 : Int) ≠ 0 by decide)) (Int.emod_lt_of_pos _ (show (0 : Int) < 38 by decide))).1)) fun H3 e3 => ?_
    refine s_ret (ev_call (vs := [.str (nearT z d)]) (ea_cons (ev_op (ev_op (ev_slS (ev_var rfl) eo_none (eo_some (ev_var rfl)) (by omega)) (ev_var rfl) (rv_addS ?_)) (ev_slS (ev_var rfl) (eo_some (ev_op (ev_var rfl) ev_c rv_I0)) eo_none (by omega)) (rv_addS ?_)) ea_nil) (spGood_v (by omega))) (fun H7 e7 => q H7 ((e1.trans (e2.trans e3)).trans e7))
    · show _ + 1 ≤ _
      omega
    · rw [Str.length_append]
      show _ + 1 + _ ≤ _
      omega
def nmAt (ds : List Int) (k j : Nat) : Str := if j = 0 then nameS (drw ds k) else if drw ds (k + j) % 2 = 1 then nearS (nameS (drw ds k)) (drw ds (k + j) / 2) else nameS (drw ds (k + j) / 2)
def namesS (ds : List Int) (k : Nat) : List Str := (List.range 6).map (nmAt ds k)
theorem nmAt_nm (ds : List Int) (k j : Nat) : nmS (nmAt ds k j) = true := by
  unfold nmAt
  split
  · exact name_nm _
  · split
    · exact near_nm _ (name_nm _)
    · exact name_nm _
theorem namesS_ok (ds : List Int) (k : Nat) : (namesS ds k).length = 6 ∧ ∀ z ∈ namesS ds k, nmS z = true := by
  refine ⟨by unfold namesS; rw [List.length_map, List.length_range], fun z hz => ?_⟩
  obtain ⟨j, _, rfl⟩ := List.mem_map.mp hz
  exact nmAt_nm ds k j
def spNames (K : PySem.W.Frag) : Sp := fun vs H Q _ => ∃ (a : Addr) (ds : List Int) (k : Nat), vs = [.ref a, .int (k : Int)] ∧ SqL K H a (ds.map V.int) ∧ RetL ((namesS ds k).map V.str) H Q
theorem ok_names {f f_n f_r f_d : Addr} {fd fd_n fd_r fd_d : FuncData} (F : Fun K "_law_names" "_law_names" s__law_names f fd) (D__law_name : Df K mg "_law_name" s__law_name ["draw"] f_n fd_n) (G__law_name : FnOk P w K mg base CX0 2 f_n fd_n ["draw"] spName) (D__law_near : Df K mg "_law_near" s__law_near ["name", "draw"] f_r fd_r) (G__law_near : FnOk P w K mg base CX0 2 f_r fd_r ["name", "draw"] spNear) (D__law_draw : Df K mg "_law_draw" s__law_draw ["draws", "k"] f_d fd_d) (G__law_draw : FnOk P w K mg base CX0 1 f_d fd_d ["draws", "k"] (spDraw K)) (T : Glo mg) : FnOk P w K mg base CX0 3 f fd ["draws", "at"] (spNames K) := by
  refine F.ok sc__law_names (fun vs H Q E h => ?_) (fun cdv A outer s H vs Q E hr h => ?_)
  · obtain ⟨a, ds, k, rfl, _⟩ := h
    rfl
  · obtain ⟨a, ds, k, rfl, hS, q⟩ := h
    refine ⟨_, (pss_cons (ps_set (i := 2) sc__law_names.nd rfl (.inl rfl) (pe_lst (pa_cons (pe_call G__law_name (hr.mono (by decide)) (by rfl) D__law_name.g D__law_name.F.kp D__law_name.b .nil pass0 (pa_cons (pe_call G__law_draw (hr.mono (by decide)) (by rfl) D__law_draw.g D__law_draw.F.kp D__law_draw.b .nil pass0 (pa_cons (pv 0) (pa_cons (pv 1) pa_nil))) pa_nil)) pa_nil)))
  (pss_cons (ps_for PassesOwn.never rfl (pi_range2 (by rfl) T.range (pa_cons pe_int (pa_cons pe_int pa_nil))) (pg_name (i := 3) sc__law_names.nd rfl (.inl rfl))
  (pss_cons (ps_set (i := 4) sc__law_names.nd rfl (.inl rfl) (pe_call G__law_draw (hr.mono (by decide)) (by rfl) D__law_draw.g D__law_draw.F.kp D__law_draw.b .nil pass0 (pa_cons (pv 0) (pa_cons (pe_op op_add (pv 1) (pv 3)) pa_nil))))
  (pss_one (ps_if (pt_cmpR op_eq (pe_op op_mod (pe_callTy call_int1 (by rfl) T.int (by decide +kernel) (pa_cons (pv 4) pa_nil)) pe_int) pe_int (nomark _))
  (pss_one (ps_expr (pe_bm PySem.F.plainAttrs_list PySem.F.slot_list_append PySem.F.type_list_append mt_append (pv 2) (pa_cons (pe_call G__law_near (hr.mono (by decide)) (by rfl) D__law_near.g D__law_near.F.kp D__law_near.b .nil pass0 (pa_cons (pe_ix ix_list (pv 2) pe_int (fun _ _ => rfl)) (pa_cons (pe_op op_fdiv (pv 4) pe_int) pa_nil))) pa_nil))))
  (pss_one (ps_expr (pe_bm PySem.F.plainAttrs_list PySem.F.slot_list_append PySem.F.type_list_append mt_append (pv 2) (pa_cons (pe_call G__law_name (hr.mono (by decide)) (by rfl) D__law_name.g D__law_name.F.kp D__law_name.b .nil pass0 (pa_cons (pe_op op_fdiv (pv 4) pe_int) pa_nil)) pa_nil))))))))
  (pss_one (ps_ret (pv 2))))), ?_⟩
    refine q_asgL (xs := [V.str (nmAt ds k 0)]) (el_lst (ea_cons (ev_call (ea_cons (ev_call (ea_cons (ev_var rfl) (ea_cons (ev_var rfl) ea_nil)) (spDraw_v hS rfl)) ea_nil) spName_v) ea_nil) (by show 1 ≤ 100000; decide)) (fun l H1 nl e1 h1 => ?_)
    refine q_forR2 (lo := 1) (n := 6) (ea_cons ev_c (ea_cons ev_c ea_nil)) (by decide) (fun i σ' H' => ∃ y3 y4 : Option V, σ' = [some (.ref a), some (.int (k : Int)), some (.ref l), y3, y4] ∧ Ex H H' ∧ H' l = some (.lst (((List.range (i + 1)).map (nmAt ds k)).map V.str)) ∧ i ≤ 5) (fun H2 e2 => ⟨_, _, rfl, e1.trans e2, e2 l _ h1, by omega⟩) (fun i σ' H' hi p => ?_) (fun σ' H' p => ?_)
    · obtain ⟨y3, y4, rfl, e, hl, _⟩ := p
      have hi5 : i + 1 ≤ 5 := by omega
      have hlen : (((List.range (i + 1)).map (nmAt ds k)).map V.str).length = i + 1 := by rw [List.length_map, List.length_map, List.length_range]
      have hnx : ((List.range (i + 1)).map (nmAt ds k)).map V.str ++ [V.str (nmAt ds k (i + 1))] = ((List.range (i + 1 + 1)).map (nmAt ds k)).map V.str := by
        rw [List.range_succ (n := i + 1), List.map_append, List.map_append]
        rfl
      have h0 : atI (((List.range (i + 1)).map (nmAt ds k)).map V.str) 0 = some (V.str (nmAt ds k 0)) := by
        refine atI_nat (j := 0) ?_
        rw [List.getElem?_map, List.getElem?_map, List.getElem?_range (by omega)]
        rfl
      refine q_asg (v := .int (drw ds (k + (i + 1)))) (ev_call (ea_cons (ev_var rfl) (ea_cons (ev_op (ev_var rfl) (ev_var rfl) rv_I0) ea_nil)) (spDraw_v (ex_l e hS) (by show (k : Int) + (1 + (i : Int)) = ((k + (i + 1) : Nat) : Int); omega))) fun H3 e3 => ?_
      have hl3 := e3 l _ hl
      refine s_if (b := decide (V.int (drw ds (k + (i + 1)) % 2) = V.int 1)) (et_test (ev_op (ev_op (ev_cb (ea_cons (ev_var rfl) ea_nil) rc_int) ev_c (rv_I (by decide))) ev_c (rv_eq rfl))) (fun hb H4 e4 => ?_) (fun hb H4 e4 => ?_)
      · have hb := V.int.inj (of_decide_eq_true hb)
        refine s_app (l := l) (v := .str (nmAt ds k (i + 1))) (e4 l _ hl3) (ev_var rfl) ?_ (by rw [hlen]; omega) (fun H5 e5 => ⟨_, _, rfl, Ex.mut (e.trans (e3.trans (e4.trans e5))) nl, by rw [upd_same, hnx], hi5⟩)
        refine ev_is (ev_call (ea_cons (ev_op (ev_var rfl) ev_c (rv_ixL (sq_of (e4 l _ hl3)) h0)) (ea_cons (ev_op (ev_var rfl) ev_c (rv_I ⟨by decide, by decide⟩)) ea_nil)) (spNear_v (nmAt_nm ds k 0))) ?_
        show V.str _ = V.str (if i + 1 = 0 then _ else _)
        rw [if_neg (by omega), if_pos hb]
        rfl
      · have hb : ¬ drw ds (k + (i + 1)) % 2 = 1 := fun h => of_decide_eq_false hb (by rw [h])
        refine s_app (l := l) (v := .str (nmAt ds k (i + 1))) (e4 l _ hl3) (ev_var rfl) ?_ (by rw [hlen]; omega) (fun H5 e5 => ⟨_, _, rfl, Ex.mut (e.trans (e3.trans (e4.trans e5))) nl, by rw [upd_same, hnx], hi5⟩)
        refine ev_is (ev_call (ea_cons (ev_op (ev_var rfl) ev_c (rv_I ⟨by decide, by decide⟩)) ea_nil) spName_v) ?_
        show V.str _ = V.str (if i + 1 = 0 then _ else _)
        rw [if_neg (by omega), if_neg hb]
    · obtain ⟨y3, y4, rfl, e, hl, _⟩ := p
      exact s_ret (ev_var rfl) (fun H7 e7 => q l H7 nl (e.trans e7) (e7 l _ hl))
def spTextIs : Sp := fun vs H Q _ => ∃ z : Str, vs = [.str z, .str z] ∧ RetV (.bl true) H Q
theorem spTextIs_v {H : Hp} {z : Str} : SpV spTextIs [.str z, .str z] H (.bl true) := fun H1 _ Q q _ => ⟨z, rfl, fun H2 e2 => q H2 e2⟩
theorem ok_text_is {f : Addr} {fd : FuncData} (F : Fun K "_law_text_is" "_law_text_is" s__law_text_is f fd) (T : Glo mg) : FnOk P w K mg base CX0 1 f fd ["actual", "due"] spTextIs := by
  refine F.ok sc__law_text_is (fun vs H Q E h => ?_) (fun cdv A outer s H vs Q E hr h => ?_)
  · obtain ⟨a, rfl, _⟩ := h
    rfl
  · obtain ⟨z, rfl, q⟩ := h
    refine ⟨_, (pss_one (ps_ret (pe_and (pe_callB call_isi (by rfl) T.isinstance (by decide +kernel) (pa_cons (pv 0) (pa_cons (pe_bltn (v := .ty "str") (u := .type "str") (by rfl) T.str (by decide +kernel) rfl) pa_nil))) (pe_one (pe_cmpR op_eq (pv 0) (pv 1) (nomark _)))))), ?_⟩
    exact s_ret (ev_is (ev_andV (a := true) (b := decide (V.str z = V.str z)) (ev_isiX (K := K) (ex_var rfl (.str z)) (kit_str _)) (fun _ => ev_op (ev_var rfl) (ev_var rfl) (rv_eq rfl))) (by rw [decide_eq_true rfl]; rfl)) q
def spTruth : Sp := fun vs H Q _ => ∃ b : Bool, vs = [.bl b, .bl b] ∧ RetV (.bl true) H Q
theorem spTruth_v {H : Hp} {b : Bool} : SpV spTruth [.bl b, .bl b] H (.bl true) := fun H1 _ Q q _ => ⟨b, rfl, fun H2 e2 => q H2 e2⟩
theorem ok_truth {f : Addr} {fd : FuncData} (F : Fun K "_law_truth" "_law_truth" s__law_truth f fd) (T : Glo mg) : FnOk P w K mg base CX0 1 f fd ["actual", "due"] spTruth := by
  refine F.ok sc__law_truth (fun vs H Q E h => ?_) (fun cdv A outer s H vs Q E hr h => ?_)
  · obtain ⟨a, rfl, _⟩ := h
    rfl
  · obtain ⟨b, rfl, q⟩ := h
    refine ⟨_, (pss_one (ps_ret (pe_and (pe_callB call_isi (by rfl) T.isinstance (by decide +kernel) (pa_cons (pv 0) (pa_cons (pe_bltn (v := .ty "bool") (u := .type "bool") (by rfl) T.bool (by decide +kernel) rfl) pa_nil))) (pe_one (pe_cmpR op_eq (pv 0) (pv 1) (nomark _)))))), ?_⟩
    exact s_ret (ev_is (ev_andV (a := true) (b := decide (V.bl b = V.bl b)) (ev_isiX (K := K) (ex_var rfl (.bl b)) (kit_bool _)) (fun _ => ev_op (ev_var rfl) (ev_var rfl) (rv_eq rfl))) (by rw [decide_eq_true rfl]; rfl)) q
def spListIs (K : PySem.W.Frag) : Sp := fun vs H Q _ => ∃ (p r : Addr) (zs : List Str), vs = [.ref p, .ref r] ∧ SqL K H p (zs.map V.str) ∧ SqL K H r (zs.map V.str) ∧ zs.length ≤ 1000 ∧ RetV (.bl true) H Q
theorem spListIs_v {H : Hp} {p r : Addr} {zs : List Str} (h1 : SqL K H p (zs.map V.str)) (h2 : SqL K H r (zs.map V.str)) (hl : zs.length ≤ 1000) : SpV (spListIs K) [.ref p, .ref r] H (.bl true) := fun H1 e Q q _ => ⟨p, r, zs, rfl, ex_l e h1, ex_l e h2, hl, fun H2 e2 => q H2 e2⟩
theorem ok_list_is {f f_t : Addr} {fd fd_t : FuncData} (F : Fun K "_law_list_is" "_law_list_is" s__law_list_is f fd) (D__law_text_is : Df K mg "_law_text_is" s__law_text_is ["actual", "due"] f_t fd_t) (G__law_text_is : FnOk P w K mg base CX0 1 f_t fd_t ["actual", "due"] spTextIs) (T : Glo mg) : FnOk P w K mg base CX0 2 f fd ["actual", "due"] (spListIs K) := by
  refine F.ok sc__law_list_is (fun vs H Q E h => ?_) (fun cdv A outer s H vs Q E hr h => ?_)
  · obtain ⟨p, r, zs, rfl, _⟩ := h
    rfl
  · obtain ⟨p, r, zs, rfl, hp, hr2, hl, q⟩ := h
    refine ⟨_, (pss_cons (ps_if (PW.pt (pw_or (pt_not (pt_val (pe_callB call_isi (by rfl) T.isinstance (by decide +kernel) (pa_cons (pv 0) (pa_cons (pe_bltn (v := .ty "list") (u := .type "list") (by rfl) T.list (by decide +kernel) rfl) pa_nil))))) (pw_or1 (pt_cmpR op_ne (pe_callB call_len_seq (by rfl) T.len PySem.boot_len (pa_cons (pv 0) pa_nil)) (pe_callB call_len_seq (by rfl) T.len PySem.boot_len (pa_cons (pv 1) pa_nil)) (nomark _)))))
  (pss_one (ps_ret pe_bl))
  pss_nil)
  (pss_cons (ps_for PassesOwn.never rfl (pi_range1 (by rfl) T.range (pa_cons (pe_callB call_len_seq (by rfl) T.len PySem.boot_len (pa_cons (pv 1) pa_nil)) pa_nil)) (pg_name (i := 2) sc__law_list_is.nd rfl (.inl rfl))
  (pss_one (ps_if (pt_not (pt_val (pe_call G__law_text_is (hr.mono (by decide)) (by rfl) D__law_text_is.g D__law_text_is.F.kp D__law_text_is.b .nil pass0 (pa_cons (pe_ix ix_list (pv 0) (pv 2) (fun _ _ => rfl)) (pa_cons (pe_ix ix_list (pv 1) (pv 2) (fun _ _ => rfl)) pa_nil)))))
  (pss_one (ps_ret pe_bl))
  pss_nil)))
  (pss_one (ps_ret pe_bl)))), ?_⟩
    have hzl : (zs.map V.str).length = zs.length := List.length_map _
    refine q_when (b := false) (et_is (et_or (a := false) (b := !decide (V.int ((zs.map V.str).length : Int) = V.int ((zs.map V.str).length : Int))) (et_is (et_not (et_B (ev_isiX (K := K) (ex_var rfl (.lst hp (dx_strs zs))) (kit_lst _)))) rfl) (fun _ => et_test (ev_op (ev_cb (ea_cons (ev_var rfl) ea_nil) (rc_len hp)) (ev_cb (ea_cons (ev_var rfl) ea_nil) (rc_len hr2)) (rv_ne rfl)))) (by rw [decide_eq_true rfl]; rfl)) (fun hb => nomatch hb) (fun _ H1 e1 => ?_)
    refine q_forR1 (n := ((zs.map V.str).length : Int)) (ea_cons (ev_cb (ea_cons (ev_var rfl) ea_nil) (rc_len (ex_l e1 hr2))) ea_nil) ⟨by omega, by omega⟩ (fun i σ' H' => ∃ y : Option V, σ' = [some (.ref p), some (.ref r), y] ∧ Ex H H') (fun H2 e2 => ⟨_, rfl, e1.trans e2⟩) (fun i σ' H' hi pp => ?_) (fun σ' H' pp => ?_)
    · obtain ⟨y, rfl, e⟩ := pp
      have hi : i < zs.length := by omega
      have ha : atI (zs.map V.str) (i : Int) = some (V.str zs[i]) := atI_nat (by rw [List.getElem?_map, List.getElem?_eq_getElem hi]; rfl)
      exact s_when (b := false) (et_is (et_not (et_B (ev_call (ea_cons (ev_op (ev_var rfl) (ev_var rfl) (rv_ixL (ex_l e hp) ha)) (ea_cons (ev_op (ev_var rfl) (ev_var rfl) (rv_ixL (ex_l e hr2) ha)) ea_nil)) spTextIs_v))) rfl) (fun hb => nomatch hb) (fun _ H2 e2 => ⟨_, rfl, e.trans e2⟩)
    · obtain ⟨y, rfl, e⟩ := pp
      exact s_ret ev_c (fun H7 e7 => q H7 (e.trans e7))
theorem nmC_slash : nmC 47 = false := by
  rw [nmC_eq]
  decide +kernel
theorem nm_noslash {z : Str} (h : nmS z = true) : 47 ∉ TL.tl z := fun hm => by
  have := List.all_eq_true.mp (nm_pc h).1.2 47 hm
  rw [nmC_slash] at this
  cases this
theorem areNm_of {r : List Str} (h6 : r.length ≤ 6) (h : ∀ z ∈ r, nmS z = true) : areNm (r.map PyData.str) = true := by
  unfold areNm
  rw [List.length_map, decide_eq_true (by omega), Bool.true_and]
  refine List.all_eq_true.mpr fun d hd => ?_
  obtain ⟨z, hz, rfl⟩ := List.mem_map.mp hd
  exact h z hz
theorem tj_cons (sep a : Str) (l : List Str) : Txt.join sep (a :: l) = Str.join sep (a :: l) := by
  show PySem.Builtin.Str.glued sep (a :: l) = _
  rw [StrLaws.glued_eq_join]
theorem split_joinP {r : List Str} (h6 : r.length ≤ 6) (h : ∀ z ∈ r, nmS z = true) : splitP (joinP r) = some r := by
  cases r with
  | nil =>
    have e : joinP [] = "/" := by decide +kernel
    rw [e]
    unfold splitP
    rw [if_pos rfl]
  | cons a q =>
    have e0 : ((Str.ofString "") ++ (Str.ofString "/") : Str) = Str.ofString "/" := by decide +kernel
    have e : joinP (a :: q) = Txt.join "/" (Str.ofString "" :: a :: q) := by
      unfold joinP
      rw [tj_cons, tj_cons]
      show Str.ofString "/" ++ Str.join "/" (a :: q) = (Str.ofString "" ++ Str.ofString "/") ++ Str.join "/" (a :: q)
      rw [e0]
    have sp : Txt.split (joinP (a :: q)) "/" = Str.ofString "" :: a :: q := by
      rw [e]
      refine TL.split_join (y := "/") (s := 47) (S := []) rfl (by decide +kernel) (fun h => nomatch h) (fun p hp => ?_)
      rcases List.mem_cons.mp hp with rfl | hp
      · decide +kernel
      · exact nm_noslash (h p hp)
    have hne : joinP (a :: q) ≠ "/" := fun he => by
      have h1 := congrArg Str.length he
      have h2 : (Str.ofString "/").length = 1 := by decide +kernel
      have h3 := len_join_ge_sum "/" (a :: q)
      have h4 := (nm_pc (h a (List.mem_cons_self))).2
      rw [List.map_cons, List.sum_cons] at h3
      have h5 : (joinP (a :: q)).length = (Str.ofString "/").length + (Txt.join "/" (a :: q)).length := Str.length_append _ _
      omega
    unfold splitP
    rw [if_neg hne, sp]
    show (if (Str.ofString "" = Str.ofString "" ∧ a :: q ≠ []) ∧ areNm ((a :: q).map PyData.str) = true then some (a :: q) else none) = _
    rw [if_pos ⟨⟨rfl, fun h => nomatch h⟩, areNm_of h6 h⟩]
theorem join_strs {r : List Str} (h6 : r.length ≤ 6) (h : ∀ z ∈ r, nmS z = true) : joinD (.list (r.map PyData.str)) = some (joinP r) := by
  show (if areNm (r.map PyData.str) = true then some (joinP ((r.map PyData.str).map strD)) else none) = _
  rw [if_pos (areNm_of h6 h), List.map_map]
  have : (strD ∘ PyData.str) = id := rfl
  rw [this, List.map_id]
theorem sum_nm : ∀ {r : List Str}, (∀ z ∈ r, nmS z = true) → (r.map (·.length)).sum ≤ 12 * r.length
  | [], _ => Nat.le_refl _
  | z :: r, h => by
    have := sum_nm (r := r) fun x hx => h x (List.mem_cons_of_mem _ hx)
    have h1 := nmS_len (h z List.mem_cons_self)
    rw [List.map_cons, List.sum_cons, List.length_cons]
    omega
theorem joinP_len {r : List Str} (h6 : r.length ≤ 6) (hn : ∀ z ∈ r, nmS z = true) : (Str.ofString "/").length + (Txt.join "/" r).length ≤ 400 := by
  have h : Weighs r 78 := by
    unfold Weighs
    have := sum_nm hn
    omega
  have := len_join_le (sep := "/") h (by decide)
  have h1 : (Str.ofString "/").length = 1 := by decide +kernel
  omega
theorem joinP_len2 {r : List Str} (h6 : r.length ≤ 6) (hn : ∀ z ∈ r, nmS z = true) : (joinP r).length ≤ 1000 := by
  have := joinP_len h6 hn
  have h5 : (joinP r).length = (Str.ofString "/").length + (Txt.join "/" r).length := Str.length_append _ _
  omega
theorem ev_joinP {σ : L2.St} {H : Hp} {te : TE} {a : Addr} {r : List Str} (he : Ev te σ H (.ref a)) (hs : SqL K H a (r.map V.str)) (h6 : r.length ≤ 6) (hn : ∀ z ∈ r, nmS z = true) : Ev (tOp (fun x y H Q => ∃ i j, x = V.str i ∧ y = V.str j ∧ i.length + j.length ≤ sizeLine ∧ Q (V.str (i ++ j)) H) (tC (.str "/"))
    (tM1 (fun x xs H Q => ∃ a p, ∃ ys : List Str, x = .str a ∧ xs = [.ref p] ∧ (SqL K H p (ys.map V.str) ∨ SqT K H p (ys.map V.str)) ∧ (ys.map (·.length)).sum + ys.length * a.length ≤ 16777216 ∧ Q (.str (Txt.join a ys)) H) (tC (.str "/")) te)) σ H (.str (joinP r)) := by
  refine ev_op ev_c (y := .str (Txt.join "/" r)) (fun H2 e2 Q2 k2 => go_m1 (show Ev (tC (.str "/")) _ _ (.str "/") from ev_c) fun H3 e3 => he H3 (e2.trans e3) _ fun H4 e4 => ⟨_, a, r, rfl, rfl, .inl (ex_l (e2.trans (e3.trans e4)) hs), ?_, k2 H4 (e3.trans e4)⟩) (rv_addS (by have := joinP_len h6 hn; omega))
  have := sum_nm hn
  show _ + _ * 1 ≤ _
  omega
theorem spJoin_v {C a : Addr} {H : Hp} {r : List Str} (hs : SqL K H a (r.map V.str)) (h6 : r.length ≤ 6) (hn : ∀ z ∈ r, nmS z = true) : SpV (spJoin K C) [.ref a] H (.str (joinP r)) := fun H1 e Q q E => ⟨.ref a, .list (r.map PyData.str), rfl, .lst (ex_l e hs) (dx_strs r), (fun ds h => by
    cases h
    refine ⟨by rw [List.length_map]; omega, fun x hx => ?_⟩
    obtain ⟨z, hz, rfl⟩ := List.mem_map.mp hx
    exact .str (by have := nmS_len (hn z hz); omega)), (fun z h => by
    rw [join_strs h6 hn] at h
    cases h
    exact fun H2 e2 => q H2 e2), fun h => by
    rw [join_strs h6 hn] at h
    cases h⟩
theorem spSplit_l {C : Addr} {H : Hp} {r : List Str} (h6 : r.length ≤ 6) (hn : ∀ z ∈ r, nmS z = true) : SpL (spSplit K C) [.str (joinP r)] H (r.map V.str) := fun H1 e Q q E => ⟨.str (joinP r), .str (joinP r), rfl, .str _, .str (joinP_len2 h6 hn), (fun r' h p H2 np e2 hp => by
    have h : splitP (joinP r) = some r' := h
    rw [split_joinP h6 hn] at h
    cases h
    exact q p H2 np e2 hp), fun h => by
    have h : splitP (joinP r) = none := h
    rw [split_joinP h6 hn] at h
    cases h⟩
def spBoth (K : PySem.W.Frag) : Sp := fun vs H Q _ => ∃ (a : Addr) (r : List Str), vs = [.ref a] ∧ SqL K H a (r.map V.str) ∧ r.length ≤ 6 ∧ (∀ z ∈ r, nmS z = true) ∧ RetV (.bl true) H Q
theorem ok_both {f f_t f_l f_j f_s C_BadPath : Addr} {fd fd_t fd_l fd_j fd_s : FuncData} (F : Fun K "_law_both_ways" "_law_both_ways" s__law_both_ways f fd) (D__law_text_is : Df K mg "_law_text_is" s__law_text_is ["actual", "due"] f_t fd_t) (G__law_text_is : FnOk P w K mg base CX0 1 f_t fd_t ["actual", "due"] spTextIs) (D__law_list_is : Df K mg "_law_list_is" s__law_list_is ["actual", "due"] f_l fd_l) (G__law_list_is : FnOk P w K mg base CX0 2 f_l fd_l ["actual", "due"] (spListIs K))
    (D_join_path : Df K mg "join_path" s_join_path ["names"] f_j fd_j) (G_join_path : FnOk P w K mg base (L2.CX P w) 3 f_j fd_j ["names"] (spJoin K C_BadPath)) (D_split_path : Df K mg "split_path" s_split_path ["path"] f_s fd_s) (G_split_path : FnOk P w K mg base (L2.CX P w) 3 f_s fd_s ["path"] (spSplit K C_BadPath)) (T : Glo mg) : FnOk P w K mg base CX0 5 f fd ["names"] (spBoth K) := by
  refine F.ok sc__law_both_ways (fun vs H Q E h => ?_) (fun cdv A outer s H vs Q E hr h => ?_)
  · obtain ⟨a, r, rfl, _⟩ := h
    rfl
  · obtain ⟨a, r, rfl, hS, h6, hn, q⟩ := h
    refine ⟨_, (pss_cons (ps_set (i := 1) sc__law_both_ways.nd rfl (.inl rfl) (pe_op op_add_str pe_str (pe_join pe_str (pv 0))))
  (pss_cons (ps_set (i := 2) sc__law_both_ways.nd rfl (.inl rfl) (pe_callTy call_list_of (by rfl) T.list (by decide +kernel) (pa_cons (pv 0) pa_nil)))
  (pss_cons (ps_if (PW.pt (pw_or (pt_not (pt_val (pe_call G__law_text_is (hr.mono (by decide)) (by rfl) D__law_text_is.g D__law_text_is.F.kp D__law_text_is.b .nil pass0 (pa_cons (pe_call G_join_path (hr.mono (by decide)) (by rfl) D_join_path.g D_join_path.F.kp D_join_path.b .nil passL (pa_cons (pv 2) pa_nil)) (pa_cons (pv 1) pa_nil))))) (pw_or1 (pt_not (pt_val (pe_call G__law_list_is (hr.mono (by decide)) (by rfl) D__law_list_is.g D__law_list_is.F.kp D__law_list_is.b .nil pass0 (pa_cons (pv 2) (pa_cons (pv 0) pa_nil))))))))
  (pss_one (ps_ret pe_bl))
  pss_nil)
  (pss_cons (ps_set (i := 3) sc__law_both_ways.nd rfl (.inl rfl) (pe_call G_split_path (hr.mono (by decide)) (by rfl) D_split_path.g D_split_path.F.kp D_split_path.b .nil passL (pa_cons (pv 1) pa_nil)))
  (pss_cons (ps_if (pt_not (pt_val (pe_call G__law_list_is (hr.mono (by decide)) (by rfl) D__law_list_is.g D__law_list_is.F.kp D__law_list_is.b .nil pass0 (pa_cons (pv 3) (pa_cons (pv 0) pa_nil)))))
  (pss_one (ps_ret pe_bl))
  pss_nil)
  (pss_cons (ps_expr (pe_bm PySem.F.plainAttrs_list PySem.F.slot_list_append PySem.F.type_list_append mt_append (pv 3) (pa_cons pe_str pa_nil)))
  (pss_one (ps_ret (pe_and (pe_call G__law_list_is (hr.mono (by decide)) (by rfl) D__law_list_is.g D__law_list_is.F.kp D__law_list_is.b .nil pass0 (pa_cons (pe_call G_split_path (hr.mono (by decide)) (by rfl) D_split_path.g D_split_path.F.kp D_split_path.b .nil passL (pa_cons (pv 1) pa_nil)) (pa_cons (pv 0) pa_nil))) (pe_one (pe_call G__law_text_is (hr.mono (by decide)) (by rfl) D__law_text_is.g D__law_text_is.F.kp D__law_text_is.b .nil pass0 (pa_cons (pe_call G_join_path (hr.mono (by decide)) (by rfl) D_join_path.g D_join_path.F.kp D_join_path.b .nil passL (pa_cons (pe_callTy call_list_of (by rfl) T.list (by decide +kernel) (pa_cons (pv 0) pa_nil)) pa_nil)) (pa_cons (pv 1) pa_nil))))))))))))), ?_⟩
    have hl6 : r.length ≤ 1000 := by omega
    refine q_asg (ev_joinP (K := K) (ev_var rfl) hS h6 hn) fun H1 e1 => ?_
    refine q_asgL (el_list (K := K) (ev_var rfl) (ex_l e1 hS)) fun g H2 ng e2 hg => ?_
    have E2 := e1.trans e2
    refine q_when (b := false) (et_is (et_or (a := false) (b := false) (et_is (et_not (et_B (ev_call (ea_cons (ev_call (ea_cons (ev_var rfl) ea_nil) (spJoin_v (sq_of hg) h6 hn)) (ea_cons (ev_var rfl) ea_nil)) spTextIs_v))) rfl) (fun _ => et_is (et_not (et_B (ev_call (ea_cons (ev_var rfl) (ea_cons (ev_var rfl) ea_nil)) (spListIs_v (sq_of hg) (ex_l E2 hS) hl6)))) rfl)) rfl) (fun hb => nomatch hb) fun _ H3 e3 => ?_
    refine q_asgL (el_call (ea_cons (ev_var rfl) ea_nil) (spSplit_l h6 hn)) fun t H4 nt e4 ht => ?_
    have E4 := E2.trans (e3.trans e4)
    refine q_when (b := false) (et_is (et_not (et_B (ev_call (ea_cons (ev_var rfl) (ea_cons (ev_var rfl) ea_nil)) (spListIs_v (sq_of ht) (ex_l E4 hS) hl6)))) rfl) (fun hb => nomatch hb) fun _ H5 e5 => ?_
    refine q_app (l := t) (xs := r.map V.str) (v := .str "x") (e5 _ _ ht) (ev_var rfl) ev_c (by rw [List.length_map]; omega) fun H6 e6 => ?_
    have E6 : Ex H (upd H6 t (.lst (r.map V.str ++ [V.str "x"]))) := Ex.mut ((E4.trans e5).trans e6) (fresh_back (E2.trans e3) nt)
    generalize (upd H6 t (.lst (r.map V.str ++ [V.str "x"]))) = H7 at E6
    refine s_ret (ev_is (ev_andV (a := true) (b := true) ?_ (fun _ => ?_)) rfl) (fun H8 e8 => q H8 (E6.trans e8))
    · exact fun Hx ex Qx qx => (el_call (ea_cons (ev_var rfl) ea_nil) (spSplit_l (C := C_BadPath) h6 hn)) Hx ex _ fun t2 Ha nt2 ea ht2 => (show Ev (tVar 0) _ _ (.ref a) from ev_var rfl) Ha (Ex.refl Ha) _ fun Hb eb => ⟨t2, a, r, rfl, ex_l eb (sq_of ht2), ex_l (E6.trans (ex.trans (ea.trans eb))) hS, hl6, fun Hc ec => qx Hc (ea.trans (eb.trans ec))⟩
    · intro Hx ex Qx qx
      show tCB (rListS K) (tCons (tVar 0) tNil) _ Hx (fun x H1 => spJoin K C_BadPath [x] H1 (fun y H2 => tVar 1 _ H2 fun z H3 => spTextIs [y, z] H3 Qx E0) E0)
      exact (el_list (K := K) (ev_var rfl) (ex_l E6 hS)) Hx ex _ fun l Ha nl ea hl => spJoin_v (sq_of hl) h6 hn Ha (Ex.refl Ha) _ (fun Hb eb => (show Ev (tVar 1) _ _ (.str (joinP r)) from ev_var rfl) Hb (Ex.refl Hb) _ fun Hc ec => ⟨joinP r, rfl, fun Hd ed => qx Hd (ea.trans (eb.trans (ec.trans ed)))⟩) E0
def spWith (K : PySem.W.Frag) : Sp := fun vs H Q _ => ∃ (a b : Addr) (r o : List Str), vs = [.ref a, .ref b] ∧ SqL K H a (r.map V.str) ∧ r.length ≤ 6 ∧ (∀ z ∈ r, nmS z = true) ∧ SqL K H b (o.map V.str) ∧ o.length ≤ 6 ∧ (∀ z ∈ o, nmS z = true) ∧ RetV (.bl true) H Q
theorem spWithin_v {C : Addr} {H : Hp} {r o : List Str} (h6 : r.length ≤ 6) (hn : ∀ z ∈ r, nmS z = true) (o6 : o.length ≤ 6) (on : ∀ z ∈ o, nmS z = true) : SpV (spWithin K C) [.str (joinP r), .str (joinP o)] H (.bl (withinB r o)) := fun H1 e Q q E => ⟨.str (joinP r), .str (joinP o), .str (joinP r), .str (joinP o), rfl, .str _, .str (joinP_len2 h6 hn), .str _, .str (joinP_len2 o6 on), (fun r' o' h h' => by
    have h : splitP (joinP r) = some r' := h
    have h' : splitP (joinP o) = some o' := h'
    rw [split_joinP h6 hn] at h
    rw [split_joinP o6 on] at h'
    cases h
    cases h'
    exact fun H2 e2 => q H2 e2), fun h => by
    have h : splitP (joinP r) = none ∨ splitP (joinP o) = none := h
    rw [split_joinP h6 hn, split_joinP o6 on] at h
    rcases h with h | h <;> cases h⟩
theorem ok_lawin {f f_t f_w C_BadPath : Addr} {fd fd_t fd_w : FuncData} (F : Fun K "_law_within" "_law_within" s__law_within f fd) (D__law_truth : Df K mg "_law_truth" s__law_truth ["actual", "due"] f_t fd_t) (G__law_truth : FnOk P w K mg base CX0 1 f_t fd_t ["actual", "due"] spTruth) (D_is_within : Df K mg "is_within" s_is_within ["path", "other"] f_w fd_w) (G_is_within : FnOk P w K mg base (L2.CX P w) 4 f_w fd_w ["path", "other"] (spWithin K C_BadPath)) (T : Glo mg) : FnOk P w K mg base CX0 6 f fd ["names", "other"] (spWith K) := by
  refine F.ok sc__law_within (fun vs H Q E h => ?_) (fun cdv A outer s H vs Q E hr h => ?_)
  · obtain ⟨a, b, r, o, rfl, _⟩ := h
    rfl
  · obtain ⟨a, b, r, o, rfl, hS, h6, hn, hb, o6, on, q⟩ := h
    refine ⟨_, (pss_cons (ps_set (i := 2) sc__law_within.nd rfl (.inl rfl) (pe_op op_add_str pe_str (pe_join pe_str (pv 0))))
  (pss_cons (ps_set (i := 3) sc__law_within.nd rfl (.inl rfl) (pe_op op_add_str pe_str (pe_join pe_str (pv 1))))
  (pss_cons (ps_if (pt_not (pt_val (pe_call G__law_truth (hr.mono (by decide)) (by rfl) D__law_truth.g D__law_truth.F.kp D__law_truth.b .nil pass0 (pa_cons (pe_call G_is_within (hr.mono (by decide)) (by rfl) D_is_within.g D_is_within.F.kp D_is_within.b .nil passL (pa_cons (pv 2) (pa_cons (pv 3) pa_nil))) (pa_cons (pe_cmpR (op_eqD hr.units) (pe_slice sl_list (pv 0) po_none (po_some (pe_callB call_len_seq (by rfl) T.len PySem.boot_len (pa_cons (pv 1) pa_nil)))) (pv 1) (nomark _)) pa_nil)))))
  (pss_one (ps_ret pe_bl))
  pss_nil)
  (pss_cons (ps_if (pt_not (pt_val (pe_call G__law_truth (hr.mono (by decide)) (by rfl) D__law_truth.g D__law_truth.F.kp D__law_truth.b .nil pass0 (pa_cons (pe_call G_is_within (hr.mono (by decide)) (by rfl) D_is_within.g D_is_within.F.kp D_is_within.b .nil passL (pa_cons (pv 3) (pa_cons (pv 2) pa_nil))) (pa_cons (pe_cmpR (op_eqD hr.units) (pe_slice sl_list (pv 1) po_none (po_some (pe_callB call_len_seq (by rfl) T.len PySem.boot_len (pa_cons (pv 0) pa_nil)))) (pv 0) (nomark _)) pa_nil)))))
  (pss_one (ps_ret pe_bl))
  pss_nil)
  (pss_cons (ps_if (PW.pt (pw_or (pt_not (pt_val (pe_call G__law_truth (hr.mono (by decide)) (by rfl) D__law_truth.g D__law_truth.F.kp D__law_truth.b .nil pass0 (pa_cons (pe_call G_is_within (hr.mono (by decide)) (by rfl) D_is_within.g D_is_within.F.kp D_is_within.b .nil passL (pa_cons (pv 2) (pa_cons (pv 2) pa_nil))) (pa_cons pe_bl pa_nil))))) (pw_or1 (pt_not (pt_val (pe_call G__law_truth (hr.mono (by decide)) (by rfl) D__law_truth.g D__law_truth.F.kp D__law_truth.b .nil pass0 (pa_cons (pe_call G_is_within (hr.mono (by decide)) (by rfl) D_is_within.g D_is_within.F.kp D_is_within.b .nil passL (pa_cons (pv 2) (pa_cons pe_str pa_nil))) (pa_cons pe_bl pa_nil))))))))
  (pss_one (ps_ret pe_bl))
  pss_nil)
  (pss_one (ps_ret (pe_call G__law_truth (hr.mono (by decide)) (by rfl) D__law_truth.g D__law_truth.F.kp D__law_truth.b .nil pass0 (pa_cons (pe_call G_is_within (hr.mono (by decide)) (by rfl) D_is_within.g D_is_within.F.kp D_is_within.b .nil passL (pa_cons pe_str (pa_cons (pv 2) pa_nil))) (pa_cons (pe_cmpR (op_eqD hr.units) (pv 0) (pe_lst pa_nil) (nomark _)) pa_nil)))))))))), ?_⟩
    have root : (Str.ofString "/") = joinP [] := by decide +kernel
    have eqs : ∀ {H1 : Hp} {σ : L2.St} {t1 t2 : TE} {a b : Addr} {r o : List Str}, Ev t1 σ H1 (.ref a) → SqL K H1 a (r.map V.str) → (∀ z ∈ r, nmS z = true) → Ev t2 σ H1 (.ref b) → SqL K H1 b (o.map V.str) → (∀ z ∈ o, nmS z = true) → Ev (tOp (rEqD K) (tSl (rSlL K) t1 tNoPart (tPart (tCB (fun xs H Q => ∃ p ys, xs = [.ref p] ∧ (SqL K H p ys ∨ SqT K H p ys) ∧ Q (.int ys.length) H) (tCons t2 tNil)))) t2) σ H1 (.bl (withinB r o)) := fun ht hS hn hu hb on =>
      ev_is (ev_eqD (K := K) (n := 2) (m := 2) (ed_is (ed_new (en_slL (ed_of ht (.lst hS (dp_strs _))) eo_none (eo_some (ev_lenD (ed_of hu (.lst hb (dp_strs _))))))) (by rw [cutA_to25, List.length_map, ← List.map_take])) (ed_of hu (.lst hb (dp_strs _))) (sd_list (sds_nm fun z hz => hn z (List.mem_of_mem_take hz))) (sd_list (sds_nm on)) (by decide) (by decide)) (congrArg V.bl (eqv_strs _ _))
    refine q_asg (ev_joinP (K := K) (ev_var rfl) hS h6 hn) fun H1 e1 => ?_
    refine q_asg (ev_joinP (K := K) (ev_var rfl) (ex_l e1 hb) o6 on) fun H2 e2 => ?_
    have E2 := e1.trans e2
    refine q_when (b := false) (et_is (et_not (et_B (ev_call (ea_cons (ev_call (ea_cons (ev_var rfl) (ea_cons (ev_var rfl) ea_nil)) (spWithin_v h6 hn o6 on)) (ea_cons (eqs (ev_var rfl) (ex_l E2 hS) hn (ev_var rfl) (ex_l E2 hb) on) ea_nil)) spTruth_v))) rfl) (fun hb => nomatch hb) fun _ H3 e3 => ?_
    have E3 := E2.trans e3
    refine q_when (b := false) (et_is (et_not (et_B (ev_call (ea_cons (ev_call (ea_cons (ev_var rfl) (ea_cons (ev_var rfl) ea_nil)) (spWithin_v o6 on h6 hn)) (ea_cons (eqs (ev_var rfl) (ex_l E3 hb) on (ev_var rfl) (ex_l E3 hS) hn) ea_nil)) spTruth_v))) rfl) (fun hb => nomatch hb) fun _ H4 e4 => ?_
    have E4 := E3.trans e4
    have wself : withinB r r = true := by unfold withinB; rw [List.take_length]; exact decide_eq_true rfl
    have wroot : withinB r [] = true := rfl
    refine q_when (b := false) (et_is (et_or (a := false) (b := false) (et_is (et_not (et_B (ev_call (ea_cons (ev_is (ev_call (ea_cons (ev_var rfl) (ea_cons (ev_var rfl) ea_nil)) (spWithin_v h6 hn h6 hn)) (congrArg V.bl wself)) (ea_cons ev_c ea_nil)) spTruth_v))) rfl) (fun _ => et_is (et_not (et_B (ev_call (ea_cons (ev_is (ev_call (ea_cons (ev_var rfl) (ea_cons (ev_is (v := .str "/") ev_c (congrArg V.str root)) ea_nil)) (spWithin_v h6 hn (o := []) (Nat.zero_le _) (fun _ h => nomatch h))) (congrArg V.bl wroot)) (ea_cons ev_c ea_nil)) spTruth_v))) rfl)) rfl) (fun hb => nomatch hb) fun _ H5 e5 => ?_
    have E5 := E4.trans e5
    refine s_ret (ev_call (ea_cons (ev_call (ea_cons (ev_is (v := .str "/") ev_c (congrArg V.str root)) (ea_cons (ev_var rfl) ea_nil)) (spWithin_v (r := []) (Nat.zero_le _) (fun _ h => nomatch h) h6 hn)) (ea_cons ?_ ea_nil)) spTruth_v) (fun H8 e8 => q H8 (E5.trans e8))
    refine ev_is (ev_eqD (K := K) (n := 2) (m := 2) (d := .list (r.map PyData.str)) (e := .list []) (ed_of (ev_var rfl) (.lst (ex_l E5 hS) (dp_strs r))) (ed_new fun H1 e Q q => (el_lst (vs := []) ea_nil (by decide)) H1 e Q fun p H2 np e2 hp => q p [] H2 np e2 hp .nil) (sd_list (sds_nm hn)) (sd_list sds_nil) (by decide) (by decide)) (congrArg V.bl ?_)
    cases r <;> rfl
theorem q_seq0 {σ : L2.St} {H : Hp} {D : Ends} {ts tz : TS} (h : ts { D with nx := tz D } σ H) : tSeq ts tz D σ H := h
theorem room_mark {k : Nat} {A : Around} {v : Option Value} (r : Room k A) : L2H.RoomH k (A.mark v) := ⟨r.dp, r.un⟩
theorem ev_isET {σ : L2.St} {H : Hp} {tx : TE} {D a : Addr} {i : Nat} {cs : List V} {us : List Value} {b : Bool} (h : σ[i]? = some (some (.ref a))) (hx : EvU tx σ H cs) (hc : Paired ClsV cs us) (k : PySem.W.kitAny K (.ref D) us = some b) : Ev (tCB (rIsET K D a) (tCons (tVar i) (tCons tx tNil))) σ H (.bl b) := fun H1 e Q q =>
  ⟨.ref a, h, hx H1 e _ fun p H2 np e2 hp => ⟨p, cs, us, b, rfl, hp, hc, k, q H2 e2⟩⟩
theorem kit_self {t : Value} : PySem.W.kitOne K t t = some true := if_pos (beq_self_eq_true t)
def spBE (a : Addr) : Sp := fun vs H Q _ => vs = [.ref a] ∧ RetV (.bl true) H Q
theorem ok_badpath {f C_BadPath Bx C_BadCommand C_BadValue C_BadWords C_Unknown : Addr} {fd : FuncData} (F : Fun K "_law_bad_path" "_law_bad_path" s__law_bad_path f fd) (E_BadPath : Err K mg "BadPath" C_BadPath Bx) (g_BadCommand : mg "BadCommand" = some (.ref C_BadCommand)) (g_BadValue : mg "BadValue" = some (.ref C_BadValue)) (g_BadWords : mg "BadWords" = some (.ref C_BadWords)) (g_Unknown : mg "Unknown" = some (.ref C_Unknown))
    (kk : PySem.W.kitAny K (.ref C_BadPath) [.ref C_BadCommand, .ref C_BadValue, .ref C_BadWords, .ref C_Unknown] = some false) (T : Glo mg) : FnE P w K mg base C_BadPath 1 f fd ["e"] spBE := by
  refine okE F sc__law_bad_path (fun a vs H Q E h => ?_) (fun cdv A outer s H vs Q E p hr hE h => ?_)
  · obtain ⟨rfl, _⟩ := h
    rfl
  · obtain ⟨rfl, q⟩ := h
    refine ⟨_, (pss_cons (ps_if (PW.pt (pw_or (pt_not (pt_val (pe_callB (call_isX E_BadPath.ec hE) (by rfl) T.isinstance (by decide +kernel) (pa_cons (pv 0) (pa_cons (pe_glob (v := .ref C_BadPath) (by rfl) E_BadPath.g rfl) pa_nil))))) (pw_or1 (pt_not (pt_val (pe_callB (call_isX E_BadPath.ec hE) (by rfl) T.isinstance (by decide +kernel) (pa_cons (pv 0) (pa_cons (pe_bltn (v := .ty "ValueError") (u := .type "ValueError") (by rfl) T.ValueError (by decide +kernel) rfl) pa_nil))))))))
  (pss_one (ps_ret pe_bl))
  pss_nil)
  (pss_one (ps_ret (pe_not (pe_callB (call_isXT E_BadPath.ec hE) (by rfl) T.isinstance (by decide +kernel) (pa_cons (pv 0) (pa_cons (pe_tup (pa_cons (pe_glob (v := .ref C_BadCommand) (by rfl) g_BadCommand rfl) (pa_cons (pe_glob (v := .ref C_BadValue) (by rfl) g_BadValue rfl) (pa_cons (pe_glob (v := .ref C_BadWords) (by rfl) g_BadWords rfl) (pa_cons (pe_glob (v := .ref C_Unknown) (by rfl) g_Unknown rfl) pa_nil))))) pa_nil))))))), ?_⟩
    refine q_when (b := false) (et_is (et_or (a := false) (b := false) (et_is (et_not (et_B (ev_isE rfl ev_c (fun u hu => hu) kit_self))) rfl) (fun _ => et_is (et_not (et_B (ev_isE rfl ev_c (fun u hu => hu) E_BadPath.k2))) rfl)) rfl) (fun hb => nomatch hb) fun _ H1 e1 => ?_
    exact s_ret (ev_nf (ev_isET rfl (eu_tup (ea_cons ev_c (ea_cons ev_c (ea_cons ev_c (ea_cons ev_c ea_nil)))) (by show 4 ≤ 100000; decide)) (.cons (.own _) (.cons (.own _) (.cons (.own _) (.cons (.own _) .nil)))) kk)) (fun H2 e2 => q H2 (e1.trans e2))
def spSR (K : PySem.W.Frag) : Sp := fun vs H Q _ => ∃ (v : V) (d : PyData), vs = [v] ∧ Dx K H v d ∧ Okd 8 d ∧ splitD d = none ∧ RetV (.bl true) H Q
theorem ok_splitr {f f_s f_b C_BadPath C_HallError Bx : Addr} {fd fd_s fd_b : FuncData} (F : Fun K "_law_split_raises" "_law_split_raises" s__law_split_raises f fd) (D_split_path : Df K mg "split_path" s_split_path ["path"] f_s fd_s) (G_split_path : FnOk P w K mg base (L2.CX P w) 3 f_s fd_s ["path"] (spSplit K C_BadPath)) (E_BadPath : Err K mg "BadPath" C_BadPath Bx)
    (g_HallError : mg "HallError" = some (.ref C_HallError)) (M_BadPath : PySem.W.exmOne K (.ref C_BadPath) (.ref C_HallError) = some true) (D__law_bad_path : Df K mg "_law_bad_path" s__law_bad_path ["e"] f_b fd_b) (G__law_bad_path : FnE P w K mg base C_BadPath 1 f_b fd_b ["e"] spBE) (T : Glo mg) : FnOk P w K mg base CX0 5 f fd ["thing"] (spSR K) := by
  refine F.ok sc__law_split_raises (fun vs H Q E h => ?_) (fun cdv A outer s H vs Q E hr h => ?_)
  · obtain ⟨v, d, rfl, _⟩ := h
    rfl
  · obtain ⟨v, d, rfl, hd, ok, hn, q⟩ := h
    refine ⟨_, (pss_cons (ps_try_own (C := C_BadPath) (i := 1) rfl rfl sc__law_split_raises.nd rfl rfl ⟨rfl, by decide, .inl g_HallError⟩ takes0 (fun W pn xe tk => (pss_one (ps_expr (pe_callS G_split_path (hr.mono (by decide)) (by rfl) D_split_path.g D_split_path.F.kp D_split_path.b (fun σ => passAt tk σ) (pa_cons (pv 0) pa_nil))))) (fun a oe pn hz hf => (pss_one (ps_ret (pe_callE G__law_bad_path (room_mark (hr.mono (by decide))) (hasE_suite hz hf) (by rfl) D__law_bad_path.g D__law_bad_path.F.kp D__law_bad_path.b (pa_cons (pv 1) pa_nil))))))
  (pss_one (ps_ret pe_bl))), ?_⟩
    refine q_seq0 ?_
    dsimp only
    refine s_drop0 (go_cS (go_cons (ev_var rfl) fun H1 e1 => go_nil ⟨v, d, rfl, dx_mono e1 _ _ hd, ok, fun r hr => ?_, fun _ H2 e2 => ?_⟩))
    · rw [hn] at hr; cases hr
    · exact ⟨true, M_BadPath, fun _ a na => ⟨⟨rfl, rfl⟩, s_retCall (ea_cons (ev_var rfl) ea_nil) fun H3 e3 => ⟨rfl, fun H4 e4 => q H4 (((e1.trans e2).trans e3).trans e4)⟩⟩, fun z => nomatch z⟩
def spJR (K : PySem.W.Frag) : Sp := fun vs H Q _ => ∃ (v : V) (d : PyData), vs = [v] ∧ Dx K H v d ∧ FlatOk d ∧ joinD d = none ∧ RetV (.bl true) H Q
theorem ok_joinr {f f_s f_b C_BadPath C_HallError Bx : Addr} {fd fd_s fd_b : FuncData} (F : Fun K "_law_join_raises" "_law_join_raises" s__law_join_raises f fd) (D_join_path : Df K mg "join_path" s_join_path ["names"] f_s fd_s) (G_join_path : FnOk P w K mg base (L2.CX P w) 3 f_s fd_s ["names"] (spJoin K C_BadPath)) (E_BadPath : Err K mg "BadPath" C_BadPath Bx)
    (g_HallError : mg "HallError" = some (.ref C_HallError)) (M_BadPath : PySem.W.exmOne K (.ref C_BadPath) (.ref C_HallError) = some true) (D__law_bad_path : Df K mg "_law_bad_path" s__law_bad_path ["e"] f_b fd_b) (G__law_bad_path : FnE P w K mg base C_BadPath 1 f_b fd_b ["e"] spBE) (T : Glo mg) : FnOk P w K mg base CX0 5 f fd ["thing"] (spJR K) := by
  refine F.ok sc__law_join_raises (fun vs H Q E h => ?_) (fun cdv A outer s H vs Q E hr h => ?_)
  · obtain ⟨v, d, rfl, _⟩ := h
    rfl
  · obtain ⟨v, d, rfl, hd, ok, hn, q⟩ := h
    refine ⟨_, (pss_cons (ps_try_own (C := C_BadPath) (i := 1) rfl rfl sc__law_join_raises.nd rfl rfl ⟨rfl, by decide, .inl g_HallError⟩ takes0 (fun W pn xe tk => (pss_one (ps_expr (pe_callS G_join_path (hr.mono (by decide)) (by rfl) D_join_path.g D_join_path.F.kp D_join_path.b (fun σ => passAt tk σ) (pa_cons (pv 0) pa_nil))))) (fun a oe pn hz hf => (pss_one (ps_ret (pe_callE G__law_bad_path (room_mark (hr.mono (by decide))) (hasE_suite hz hf) (by rfl) D__law_bad_path.g D__law_bad_path.F.kp D__law_bad_path.b (pa_cons (pv 1) pa_nil))))))
  (pss_one (ps_ret pe_bl))), ?_⟩
    refine q_seq0 ?_
    dsimp only
    refine s_drop0 (go_cS (go_cons (ev_var rfl) fun H1 e1 => go_nil ⟨v, d, rfl, dx_mono e1 _ _ hd, ok, fun r hr => ?_, fun _ H2 e2 => ?_⟩))
    · rw [hn] at hr; cases hr
    · exact ⟨true, M_BadPath, fun _ a na => ⟨⟨rfl, rfl⟩, s_retCall (ea_cons (ev_var rfl) ea_nil) fun H3 e3 => ⟨rfl, fun H4 e4 => q H4 (((e1.trans e2).trans e3).trans e4)⟩⟩, fun z => nomatch z⟩
def spWR (K : PySem.W.Frag) : Sp := fun vs H Q _ => ∃ (v u : V) (d e : PyData), vs = [v, u] ∧ Dx K H v d ∧ Okd 8 d ∧ Dx K H u e ∧ Okd 8 e ∧ (splitD d = none ∨ splitD e = none) ∧ RetV (.bl true) H Q
theorem ok_withinr {f f_s f_b C_BadPath C_HallError Bx : Addr} {fd fd_s fd_b : FuncData} (F : Fun K "_law_within_raises" "_law_within_raises" s__law_within_raises f fd) (D_is_within : Df K mg "is_within" s_is_within ["path", "other"] f_s fd_s) (G_is_within : FnOk P w K mg base (L2.CX P w) 4 f_s fd_s ["path", "other"] (spWithin K C_BadPath)) (E_BadPath : Err K mg "BadPath" C_BadPath Bx)
    (g_HallError : mg "HallError" = some (.ref C_HallError)) (M_BadPath : PySem.W.exmOne K (.ref C_BadPath) (.ref C_HallError) = some true) (D__law_bad_path : Df K mg "_law_bad_path" s__law_bad_path ["e"] f_b fd_b) (G__law_bad_path : FnE P w K mg base C_BadPath 1 f_b fd_b ["e"] spBE) (T : Glo mg) : FnOk P w K mg base CX0 6 f fd ["path", "other"] (spWR K) := by
  refine F.ok sc__law_within_raises (fun vs H Q E h => ?_) (fun cdv A outer s H vs Q E hr h => ?_)
  · obtain ⟨v, u, d, e, rfl, _⟩ := h
    rfl
  · obtain ⟨v, u, d, e, rfl, hd, okd, he, oke, hn, q⟩ := h
    refine ⟨_, (pss_cons (ps_try_own (C := C_BadPath) (i := 2) rfl rfl sc__law_within_raises.nd rfl rfl ⟨rfl, by decide, .inl g_HallError⟩ takes0 (fun W pn xe tk => (pss_one (ps_expr (pe_callS G_is_within (hr.mono (by decide)) (by rfl) D_is_within.g D_is_within.F.kp D_is_within.b (fun σ => passAt tk σ) (pa_cons (pv 0) (pa_cons (pv 1) pa_nil)))))) (fun a oe pn hz hf => (pss_one (ps_ret (pe_callE G__law_bad_path (room_mark (hr.mono (by decide))) (hasE_suite hz hf) (by rfl) D__law_bad_path.g D__law_bad_path.F.kp D__law_bad_path.b (pa_cons (pv 2) pa_nil))))))
  (pss_one (ps_ret pe_bl))), ?_⟩
    refine q_seq0 ?_
    dsimp only
    refine s_drop0 (go_cS (go_cons (ev_var rfl) fun H1 e1 => go_cons (ev_var rfl) fun H1' e1' => go_nil ⟨v, u, d, e, rfl, dx_mono (e1.trans e1') _ _ hd, okd, dx_mono (e1.trans e1') _ _ he, oke, fun r o hr ho => ?_, fun _ H2 e2 => ?_⟩))
    · rcases hn with hn | hn
      · rw [hn] at hr; cases hr
      · rw [hn] at ho; cases ho
    · exact ⟨true, M_BadPath, fun _ a na => ⟨⟨rfl, rfl⟩, s_retCall (ea_cons (ev_var rfl) ea_nil) fun H3 e3 => ⟨rfl, fun H4 e4 => q H4 ((((e1.trans e1').trans e2).trans e3).trans e4)⟩⟩, fun z => nomatch z⟩
theorem str_asc (a b c : Str) : a ++ b ++ c = a ++ (b ++ c) := Str.append_assoc a b c
theorem sj2 (s a b : Str) (l : List Str) : Str.join s (a :: b :: l) = (a ++ s) ++ Str.join s (b :: l) := rfl
theorem sj_snoc (s : Str) : ∀ (q : List Str) (a y : Str), Str.join s ((a :: q) ++ [y]) = (Str.join s (a :: q) ++ s) ++ y
  | [], a, y => rfl
  | b :: r, a, y => by
    have ih := sj_snoc s r b y
    show Str.join s (a :: b :: (r ++ [y])) = _
    rw [sj2, sj2, show b :: (r ++ [y]) = (b :: r) ++ [y] from rfl, ih]
    simp only [str_asc]
/-- something behind the last one -/
def lastApp : List Str → Str → List Str
  | [], y => [y]
  | [a], y => [a ++ y]
  | a :: b :: r, y => a :: lastApp (b :: r) y
theorem sj_last (s : Str) : ∀ (q : List Str) (a y : Str), Str.join s (a :: q) ++ y = Str.join s (lastApp (a :: q) y)
  | [], a, y => rfl
  | b :: r, a, y => by
    have ih := sj_last s r b y
    rw [sj2, str_asc, ih]
    show _ = Str.join s (a :: lastApp (b :: r) y)
    cases r with
    | nil => rfl
    | cons c r => rfl
theorem last_len : ∀ (q : List Str) (a y : Str), (lastApp (a :: q) y).length = (a :: q).length
  | [], a, y => rfl
  | b :: r, a, y => by
    show (lastApp (b :: r) y).length + 1 = _
    rw [last_len r b y]
    rfl
theorem last_mem : ∀ (q : List Str) (a y : Str), ∃ z, z ∈ a :: q ∧ z ++ y ∈ lastApp (a :: q) y ∧ ∀ x ∈ lastApp (a :: q) y, x = z ++ y ∨ x ∈ a :: q
  | [], a, y => ⟨a, List.mem_cons_self, List.mem_cons_self, fun x hx => .inl (List.mem_singleton.mp hx)⟩
  | b :: r, a, y => by
    obtain ⟨z, h1, h2, h3⟩ := last_mem r b y
    refine ⟨z, List.mem_cons_of_mem _ h1, List.mem_cons_of_mem _ h2, fun x hx => ?_⟩
    rcases List.mem_cons.mp hx with rfl | hx
    · exact .inr List.mem_cons_self
    · exact (h3 x hx).imp id fun h => List.mem_cons_of_mem _ h
def noSl (z : Str) : Prop := 47 ∉ TL.tl z
theorem noSl_app {a b : Str} (ha : noSl a) (hb : noSl b) : noSl (a ++ b) := by
  unfold noSl TL.tl at *
  rw [show (a ++ b).cps.toList = a.cps.toList ++ b.cps.toList from Array.toList_append]
  exact fun h => (List.mem_append.mp h).elim ha hb
theorem split_sj {r : List Str} (hne : r ≠ []) (hs : ∀ z ∈ r, noSl z) : Txt.split (Txt.join "/" r) "/" = r := TL.split_join (y := "/") (s := 47) (S := []) rfl (by decide +kernel) hne hs
theorem slash_split : Txt.split (Str.ofString "/") "/" = [Str.ofString "", Str.ofString ""] := by decide +kernel
theorem joinP_sj (a : Str) (q : List Str) : joinP (a :: q) = Txt.join "/" (Str.ofString "" :: a :: q) := by
  have e0 : ((Str.ofString "") ++ (Str.ofString "/") : Str) = Str.ofString "/" := by decide +kernel
  unfold joinP
  rw [tj_cons, tj_cons]
  show Str.ofString "/" ++ Str.join "/" (a :: q) = (Str.ofString "" ++ Str.ofString "/") ++ Str.join "/" (a :: q)
  rw [e0]
/-- a path some name of which is none -/
theorem bad_joinP {a : Str} {q : List Str} (hs : ∀ z ∈ a :: q, noSl z) (h1 : a :: q ≠ [Str.ofString ""]) (hn : areNm ((a :: q).map PyData.str) = false) : splitP (joinP (a :: q)) = none := by
  have sp : Txt.split (joinP (a :: q)) "/" = Str.ofString "" :: a :: q := by
    rw [joinP_sj]
    refine split_sj (fun h => nomatch h) fun z hz => ?_
    rcases List.mem_cons.mp hz with rfl | hz
    · show 47 ∉ TL.tl (Str.ofString "")
      decide +kernel
    · exact hs z hz
  have hne : joinP (a :: q) ≠ "/" := fun he => by
    have he : joinP (a :: q) = Str.ofString "/" := he
    rw [he, slash_split] at sp
    have := (List.cons.inj sp).2
    exact h1 this.symm
  unfold splitP
  rw [if_neg hne, sp]
  show (if (Str.ofString "" = Str.ofString "" ∧ a :: q ≠ []) ∧ areNm ((a :: q).map PyData.str) = true then some (a :: q) else none) = none
  rw [if_neg (fun h => by rw [hn] at h; cases h.2)]
/-- a text that begins with something else than / -/
theorem bad_sj {a : Str} {q : List Str} (hs : ∀ z ∈ a :: q, noSl z) (ha : a ≠ Str.ofString "") : splitP (Txt.join "/" (a :: q)) = none := by
  have sp := split_sj (r := a :: q) (fun h => nomatch h) hs
  have hne : Txt.join "/" (a :: q) ≠ "/" := fun he => by
    have he : Txt.join "/" (a :: q) = Str.ofString "/" := he
    rw [he, slash_split] at sp
    exact ha (List.cons.inj sp).1.symm
  unfold splitP
  rw [if_neg hne, sp]
  show (if (a = Str.ofString "" ∧ q ≠ []) ∧ areNm (q.map PyData.str) = true then some q else none) = none
  rw [if_neg fun h => ha h.1.1]
theorem areNm_no {r : List Str} {z : Str} (hz : z ∈ r) (hn : nmS z = false) : areNm (r.map PyData.str) = false := by
  unfold areNm
  have : (r.map PyData.str).all isNm = false := by
    rw [List.all_eq_false]
    exact ⟨.str z, List.mem_map_of_mem hz, by show ¬ nmS z = true; rw [hn]; decide⟩
  rw [this, Bool.and_false]
theorem areNm_long {r : List Str} (h : 6 < r.length) : areNm (r.map PyData.str) = false := by
  unfold areNm
  rw [List.length_map, decide_eq_false (by omega), Bool.false_and]
/-- what is no name: a sign that no name has, none at all, too many -/
theorem nm_no {z : Str} {c : Nat} (hc : c ∈ TL.tl z) (hn : nmC c = false) : nmS z = false := by
  cases h : nmS z with
  | false => rfl
  | true =>
    have := List.all_eq_true.mp (nm_pc h).1.2 c hc
    rw [hn] at this
    cases this
theorem nm_long {z : Str} (h : 12 < z.length) : nmS z = false := by
  cases e : nmS z with
  | false => rfl
  | true =>
    have := nmS_len e
    omega
abbrev BG : Str := Str.ofString " !\"#$&'()*+,:;<=>?@ABCDEFGHIJKLMNOPQRSTUVWXYZ[\\]^_`{|}~\n\t"
theorem BG_len : BG.length = 57 := by decide +kernel
theorem BG_bad : ∀ c ∈ BG.cps.toList, nmC c = false ∧ c ≠ 47 := fun c hc => by
  have h : ∀ c ∈ BG.cps.toList, (decide (c ∈ NC.cps.toList) = false ∧ c ≠ 47) := by decide +kernel
  rw [nmC_eq]
  exact h c hc
def bgn (i : Int) : Nat := BG.cps.toList.getD i.toNat 0
theorem bg_at {i : Int} (h0 : 0 ≤ i) (h1 : i < 57) : atI BG.cps.toList i = some (bgn i) ∧ (nmC (bgn i) = false ∧ bgn i ≠ 47) := by
  have hl : BG.cps.toList.length = 57 := by
    rw [Array.length_toList]
    exact BG_len
  have hat := atI_getD (xs := BG.cps.toList) (i := i) (d := 0) h0 (by omega)
  refine ⟨hat, BG_bad _ ?_⟩
  obtain ⟨k, rfl⟩ := Int.eq_ofNat_of_zero_le h0
  show BG.cps.toList.getD k 0 ∈ _
  rw [List.getD_eq_getElem?_getD, List.getElem?_eq_getElem (by omega)]
  exact List.getElem_mem _
def one (c : Nat) : Str := ⟨#[c]⟩
/-- the spoilt name: one of nine -/
def bgd (d : Int) : Str := one (bgn (d / 108 % 57))
def tailN : Str := Str.ofString "a-0.b9c8d7e6"
def cutAt (z : Str) (d : Int) : Int := d / 9 % (z.length : Int)
def bad5 (z : Str) (d : Int) : List Str := [cutS z none (some (cutAt z d)) ++ bgd d ++ cutS z (some (cutAt z d + 1)) none, z ++ bgd d, bgd d ++ z, Str.ofString ".", Str.ofString "..", Str.ofString "", cutS (z ++ tailN) none (some 13)]
def bad9 (z : Str) (d : Int) : List Str := bad5 z d ++ [z ++ Str.ofString "\n", bgd d]
def badN (z : Str) (d : Int) : Str := (bad9 z d).getD (d % 9).toNat (Str.ofString "")
theorem tl_app (a b : Str) : TL.tl (a ++ b) = TL.tl a ++ TL.tl b := by
  show (a ++ b).cps.toList = a.cps.toList ++ b.cps.toList
  exact Array.toList_append
def BadNm (z : Str) : Prop := nmS z = false ∧ noSl z ∧ z.length ≤ 30
theorem bad_all {z : Str} (h : nmS z = true) (d : Int) : ∀ x ∈ bad9 z d, BadNm x := by
  obtain ⟨⟨h1, h2⟩, h3⟩ := nm_pc h
  have hns := nm_noslash h
  have hl : z.length = (TL.tl z).length := Array.length_toList.symm
  have m0 : 0 ≤ cutAt z d := Int.emod_nonneg _ (by omega)
  have m1 : cutAt z d < z.length := Int.emod_lt_of_pos _ (by omega)
  obtain ⟨k, hk⟩ : ∃ k : Nat, cutAt z d = (k : Int) := ⟨_, (Int.toNat_of_nonneg m0).symm⟩
  obtain ⟨_, hb1, hb2⟩ := bg_at (Int.emod_nonneg (d / 108) (show (57 : Int) ≠ 0 by decide)) (Int.emod_lt_of_pos (d / 108) (show (0 : Int) < 57 by decide))
  have hbt : TL.tl (bgd d) = [bgn (d / 108 % 57)] := rfl
  have hbl : (bgd d).length = 1 := rfl
  have hbs : noSl (bgd d) := fun hm => by
    rw [hbt] at hm
    exact hb2 (List.mem_singleton.mp hm).symm
  have c1 := cutS_length z none (some (cutAt z d))
  have c2 := cutS_length z (some (cutAt z d + 1)) none
  have s1 : noSl (cutS z none (some (cutAt z d))) := fun hm => by
    rw [hk] at hm
    have hm : 47 ∈ (cutS z none (some (k : Int))).cps.toList := hm
    rw [cut_to] at hm
    exact hns (List.mem_of_mem_take hm)
  have s2 : noSl (cutS z (some (cutAt z d + 1)) none) := fun hm => by
    rw [hk] at hm
    have hm : 47 ∈ (cutS z (some ((k + 1 : Nat) : Int)) none).cps.toList := hm
    rw [cut_from] at hm
    exact hns (List.mem_of_mem_drop hm)
  have hcs : ∀ s : Str, noSl s → s.length ≤ 30 → nmS s = false → BadNm s := fun s a b c => ⟨c, a, b⟩
  intro x hx
  simp only [bad9, bad5, List.cons_append, List.nil_append, List.mem_cons, List.not_mem_nil, or_false] at hx
  have inb : ∀ {a b : Str}, TL.tl (a ++ bgd d ++ b) = TL.tl a ++ [bgn (d / 108 % 57)] ++ TL.tl b := fun {a b} => by rw [tl_app, tl_app, hbt]
  rcases hx with rfl | rfl | rfl | rfl | rfl | rfl | rfl | rfl | rfl
  · refine hcs _ (noSl_app (noSl_app s1 hbs) s2) (by rw [Str.length_append, Str.length_append]; omega) (nm_no (c := bgn (d / 108 % 57)) ?_ hb1)
    rw [inb]
    simp
  · refine hcs _ (noSl_app hns hbs) (by rw [Str.length_append]; omega) (nm_no (c := bgn (d / 108 % 57)) ?_ hb1)
    rw [tl_app, hbt]
    simp
  · refine hcs _ (noSl_app hbs hns) (by rw [Str.length_append]; omega) (nm_no (c := bgn (d / 108 % 57)) ?_ hb1)
    rw [tl_app, hbt]
    simp
  · exact hcs _ (by show 47 ∉ TL.tl (Str.ofString "."); decide +kernel) (by decide +kernel) (by decide +kernel)
  · exact hcs _ (by show 47 ∉ TL.tl (Str.ofString ".."); decide +kernel) (by decide +kernel) (by decide +kernel)
  · exact hcs _ (by show 47 ∉ TL.tl (Str.ofString ""); decide +kernel) (by decide +kernel) (by decide +kernel)
  · have ht : noSl tailN := by show 47 ∉ TL.tl (Str.ofString "a-0.b9c8d7e6"); decide +kernel
    have hlt : tailN.length = 12 := by decide +kernel
    have e : (cutS (z ++ tailN) none (some ((13 : Nat) : Int))).cps.toList = (TL.tl (z ++ tailN)).take 13 := cut_to _ 13
    have el : (cutS (z ++ tailN) none (some 13)).length = min 13 (z ++ tailN).length := by
      have h := congrArg List.length e
      rw [List.length_take] at h
      rw [show (cutS (z ++ tailN) none (some 13)).length = (cutS (z ++ tailN) none (some ((13 : Nat) : Int))).cps.toList.length from Array.length_toList.symm, h]
      rw [show (z ++ tailN).length = (TL.tl (z ++ tailN)).length from Array.length_toList.symm]
    rw [Str.length_append, hlt] at el
    refine hcs _ (fun hm => ?_) (by omega) (nm_long (by omega))
    have hm : 47 ∈ (cutS (z ++ tailN) none (some ((13 : Nat) : Int))).cps.toList := hm
    rw [e] at hm
    exact noSl_app hns ht (List.mem_of_mem_take hm)
  · refine hcs _ (noSl_app hns (by show 47 ∉ TL.tl (Str.ofString "\n"); decide +kernel)) (by rw [Str.length_append]; have : (Str.ofString "\n").length = 1 := (by decide +kernel); omega) (nm_no (c := 10) ?_ (by rw [nmC_eq]; decide +kernel))
    rw [tl_app, show TL.tl (Str.ofString "\n") = [10] from by decide +kernel]
    simp
  · refine hcs _ hbs (by omega) (nm_no (c := bgn (d / 108 % 57)) ?_ hb1)
    rw [hbt]
    simp
theorem badN_ok {z : Str} (h : nmS z = true) (d : Int) : BadNm (badN z d) := by
  have m0 : 0 ≤ d % 9 := Int.emod_nonneg d (by decide)
  have m1 : d % 9 < 9 := Int.emod_lt_of_pos d (by decide)
  unfold badN
  have hl : (bad9 z d).length = 9 := rfl
  rw [List.getD_eq_getElem?_getD, List.getElem?_eq_getElem (by omega)]
  exact bad_all h d _ (List.getElem_mem _)
def Sml (r : List Str) : Prop := r.length ≤ 8 ∧ ∀ z ∈ r, z.length ≤ 30 ∧ noSl z
theorem sml_sum : ∀ {r : List Str}, (∀ z ∈ r, z.length ≤ 30) → (r.map (·.length)).sum ≤ 30 * r.length
  | [], _ => Nat.le_refl _
  | z :: r, h => by
    have := sml_sum (r := r) fun x hx => h x (List.mem_cons_of_mem _ hx)
    have h1 := h z List.mem_cons_self
    rw [List.map_cons, List.sum_cons, List.length_cons]
    omega
theorem sml_join {r : List Str} (h : Sml r) : (Txt.join "/" r).length ≤ 992 := by
  have hs := sml_sum (r := r) fun z hz => (h.2 z hz).1
  have hl := h.1
  have hw : Weighs r 247 := by
    unfold Weighs
    omega
  have := len_join_le (sep := "/") hw (by decide)
  omega
theorem sml_joinP {r : List Str} (h : Sml r) : (joinP r).length ≤ 993 := by
  have := sml_join h
  have h1 : (Str.ofString "/").length = 1 := by decide +kernel
  have h5 : (joinP r).length = (Str.ofString "/").length + (Txt.join "/" r).length := Str.length_append _ _
  omega
def atK (r : List Str) (d : Int) : Nat := (d / 9 % (r.length : Int)).toNat
def bad4P (r : List Str) (d : Int) : List Str := [Txt.join "/" r, joinP r ++ Str.ofString "/", joinP ((r.take (atK r d) ++ [Str.ofString ""]) ++ r.drop (atK r d)), joinP (((List.replicate 7 r).flatten).take 7)]
def bad9P (r : List Str) (d : Int) : List Str := bad4P r d ++ [Str.ofString "", Str.ofString " " ++ joinP r, joinP r ++ Str.ofString "\n", Str.ofString "//", joinP (r.take (atK r d) ++ [badN (r.getD (atK r d) (Str.ofString "")) (d / 54), Str.ofString "a"])]
def badP (r : List Str) (d : Int) : Str := (bad9P r d).getD (d % 9).toNat (Str.ofString "")
theorem sml_nm {r : List Str} (h6 : r.length ≤ 6) (h : ∀ z ∈ r, nmS z = true) : Sml r := ⟨by omega, fun z hz => ⟨by have := nmS_len (h z hz); omega, nm_noslash (h z hz)⟩⟩
theorem cons_of {r : List Str} (h : r ≠ []) : ∃ a q, r = a :: q := by
  cases r with
  | nil => exact absurd rfl h
  | cons a q => exact ⟨a, q, rfl⟩
theorem bad_join {r : List Str} (h : Sml r) (h0 : r ≠ []) (h1 : r ≠ [Str.ofString ""]) (hn : areNm (r.map PyData.str) = false) : splitP (joinP r) = none ∧ (joinP r).length ≤ 1000 := by
  obtain ⟨a, q, rfl⟩ := cons_of h0
  exact ⟨bad_joinP (fun z hz => (h.2 z hz).2) h1 hn, by have := sml_joinP h; omega⟩
theorem noSl_e : noSl (Str.ofString "") := by show 47 ∉ TL.tl (Str.ofString ""); decide +kernel
theorem len_e : (Str.ofString "").length = 0 := by decide +kernel
theorem nm_e : nmS (Str.ofString "") = false := by decide +kernel
theorem slash_eq : ("/" : Str) = Str.ofString "/" := rfl
theorem bad_all9 {r : List Str} (h0 : r ≠ []) (h6 : r.length ≤ 6) (h : ∀ z ∈ r, nmS z = true) (d : Int) : ∀ x ∈ bad9P r d, splitP x = none ∧ x.length ≤ 1000 := by
  have hs := sml_nm h6 h
  obtain ⟨a, q, rfl⟩ := cons_of h0
  have ha := h a List.mem_cons_self
  have hane : a ≠ Str.ofString "" := fun e => by rw [e, nm_e] at ha; cases ha
  have hpos : 0 < (a :: q).length := Nat.succ_pos _
  have k1 : atK (a :: q) d < (a :: q).length := by
    unfold atK
    have m1 : d / 9 % ((a :: q).length : Int) < (a :: q).length := Int.emod_lt_of_pos _ (by omega)
    have m0 : 0 ≤ d / 9 % ((a :: q).length : Int) := Int.emod_nonneg _ (by omega)
    omega
  have hpl := sml_joinP hs
  have hjp : ∀ y : Str, joinP (a :: q) ++ y = joinP (lastApp (a :: q) y) := fun y => by
    unfold joinP
    obtain ⟨b, p, e⟩ := cons_of (r := lastApp (a :: q) y) (fun e => by have := last_len q a y; rw [e] at this; cases this)
    rw [tj_cons, str_asc, sj_last, e, tj_cons]
  intro x hx
  simp only [bad9P, bad4P, List.cons_append, List.nil_append, List.mem_cons, List.not_mem_nil, or_false] at hx
  rcases hx with rfl | rfl | rfl | rfl | rfl | rfl | rfl | rfl | rfl
  · exact ⟨bad_sj (fun z hz => (hs.2 z hz).2) hane, by have := sml_join hs; omega⟩
  · have e : joinP (a :: q) ++ Str.ofString "/" = joinP ((a :: q) ++ [Str.ofString ""]) := by
      have e2 : Str.ofString "/" ++ Str.ofString "" = Str.ofString "/" := by decide +kernel
      unfold joinP
      rw [tj_cons, show (a :: q) ++ [Str.ofString ""] = a :: (q ++ [Str.ofString ""]) from rfl, tj_cons, show a :: (q ++ [Str.ofString ""]) = (a :: q) ++ [Str.ofString ""] from rfl, sj_snoc, slash_eq]
      simp only [str_asc]
      rw [e2]
    rw [e]
    refine bad_join ⟨by rw [List.length_append, List.length_singleton]; omega, fun z hz => ?_⟩ (fun e => by cases e) (fun e => by have := congrArg List.length e; rw [List.length_append] at this; simp at this) (areNm_no (z := Str.ofString "") (by simp) nm_e)
    rcases List.mem_append.mp hz with hz | hz
    · exact hs.2 z hz
    · rw [List.mem_singleton.mp hz]
      exact ⟨by rw [len_e]; omega, noSl_e⟩
  · refine bad_join ⟨?_, fun z hz => ?_⟩ (fun e => ?_) (fun e => ?_) (areNm_no (z := Str.ofString "") (by simp) nm_e)
    · rw [List.length_append, List.length_append, List.length_singleton, List.length_take, List.length_drop]
      omega
    · rcases List.mem_append.mp hz with hz | hz
      · rcases List.mem_append.mp hz with hz | hz
        · exact hs.2 z (List.mem_of_mem_take hz)
        · rw [List.mem_singleton.mp hz]
          exact ⟨by rw [len_e]; omega, noSl_e⟩
      · exact hs.2 z (List.mem_of_mem_drop hz)
    · have := congrArg List.length e
      rw [List.length_append, List.length_append, List.length_singleton] at this
      simp at this
    · have := congrArg List.length e
      rw [List.length_append, List.length_append, List.length_singleton, List.length_take, List.length_drop] at this
      have e1 : ([Str.ofString ""] : List Str).length = 1 := rfl
      omega
  · have hl7 : (((List.replicate 7 (a :: q)).flatten).take 7).length = 7 := by
      rw [List.length_take]
      have : ((List.replicate 7 (a :: q)).flatten).length = 7 * (a :: q).length := by
        simp only [List.replicate, List.flatten_cons, List.flatten_nil, List.length_append, List.length_nil]
        omega
      omega
    refine bad_join ⟨by omega, fun z hz => ?_⟩ (fun e => by rw [e] at hl7; cases hl7) (fun e => by rw [e] at hl7; cases hl7) (areNm_long (by omega))
    have hz := List.mem_of_mem_take hz
    obtain ⟨l, hl, hz⟩ := List.mem_flatten.mp hz
    rw [List.eq_of_mem_replicate hl] at hz
    exact hs.2 z hz
  · exact ⟨by decide +kernel, by rw [len_e]; omega⟩
  · have e : Str.ofString " " ++ joinP (a :: q) = Txt.join "/" (Str.ofString " " :: a :: q) := by
      unfold joinP
      rw [tj_cons, tj_cons, sj2, ← str_asc]
    have hsp : noSl (Str.ofString " ") := by show 47 ∉ TL.tl (Str.ofString " "); decide +kernel
    refine ⟨?_, by rw [Str.length_append]; have : (Str.ofString " ").length = 1 := (by decide +kernel); omega⟩
    rw [e]
    refine bad_sj (fun z hz => ?_) (by decide +kernel)
    rcases List.mem_cons.mp hz with rfl | hz
    · exact hsp
    · exact (hs.2 z hz).2
  · have hnl : noSl (Str.ofString "\n") := by show 47 ∉ TL.tl (Str.ofString "\n"); decide +kernel
    have hn1 : (Str.ofString "\n").length = 1 := by decide +kernel
    obtain ⟨z, hz, hzl, hall⟩ := last_mem q a (Str.ofString "\n")
    have hbad : nmS (z ++ Str.ofString "\n") = false := nm_no (c := 10) (by rw [tl_app, show TL.tl (Str.ofString "\n") = [10] from by decide +kernel]; simp) (by rw [nmC_eq]; decide +kernel)
    have hll := last_len q a (Str.ofString "\n")
    rw [hjp]
    refine bad_join ⟨by omega, fun x hx => ?_⟩ (fun e => by rw [e] at hll; cases hll) (fun e => ?_) (areNm_no hzl hbad)
    · rcases hall x hx with rfl | hx
      · exact ⟨by rw [Str.length_append]; have := nmS_len (h z hz); omega, noSl_app (hs.2 z hz).2 hnl⟩
      · exact hs.2 x hx
    · rw [e] at hzl
      have := congrArg Str.length (List.mem_singleton.mp hzl)
      rw [Str.length_append, len_e] at this
      omega
  · exact ⟨by decide +kernel, by decide +kernel⟩
  · have hmem : (a :: q).getD (atK (a :: q) d) (Str.ofString "") ∈ a :: q := by
      rw [List.getD_eq_getElem?_getD, List.getElem?_eq_getElem k1]
      exact List.getElem_mem _
    obtain ⟨b1, b2, b3⟩ := badN_ok (h _ hmem) (d / 54)
    refine bad_join ⟨?_, fun z hz => ?_⟩ (fun e => ?_) (fun e => ?_) (areNm_no (z := badN ((a :: q).getD (atK (a :: q) d) (Str.ofString "")) (d / 54)) (by simp) b1)
    · rw [List.length_append, List.length_take]
      show _ + 2 ≤ 8
      omega
    · rcases List.mem_append.mp hz with hz | hz
      · exact hs.2 z (List.mem_of_mem_take hz)
      · rcases List.mem_cons.mp hz with rfl | hz
        · exact ⟨b3, b2⟩
        · rw [List.mem_singleton.mp hz]
          exact ⟨by decide +kernel, by show 47 ∉ TL.tl (Str.ofString "a"); decide +kernel⟩
    · have := congrArg List.length e
      rw [List.length_append] at this
      simp at this
    · have := congrArg List.length e
      rw [List.length_append] at this
      simp at this
theorem badP_ok {r : List Str} (h0 : r ≠ []) (h6 : r.length ≤ 6) (h : ∀ z ∈ r, nmS z = true) (d : Int) : splitP (badP r d) = none ∧ (badP r d).length ≤ 1000 := by
  have m0 : 0 ≤ d % 9 := Int.emod_nonneg d (by decide)
  have m1 : d % 9 < 9 := Int.emod_lt_of_pos d (by decide)
  unfold badP
  have hl : (bad9P r d).length = 9 := rfl
  rw [List.getD_eq_getElem?_getD, List.getElem?_eq_getElem (by omega)]
  exact bad_all9 h0 h6 h d _ (List.getElem_mem _)
theorem el_catV {σ : L2.St} {H : Hp} {ta tb : TE} {a : Addr} {xs ys : List V} (ha : Ev ta σ H (.ref a)) (h : H a = some (.lst xs)) (hb : EvL tb σ H ys) (hl : xs.length + ys.length ≤ 100000) : EvL (tOp rCat ta tb) σ H (xs ++ ys) := fun H1 e Q q =>
  ha H1 e _ fun H2 e2 => hb H2 (e.trans e2) _ fun p' H3 np' e3 hp' => ⟨a, p', xs, ys, rfl, rfl, ((e.trans e2).trans e3) _ _ h, hp', sz_of hl, fun o ho => q o _ (fresh_back (e2.trans e3) ho) ((e2.trans e3).trans (Ex.new ho)) upd_same⟩
theorem el_repV {σ : L2.St} {H : Hp} {ta tb : TE} {a : Addr} {xs : List V} {n : Int} (ha : Ev ta σ H (.ref a)) (h : H a = some (.lst xs)) (hb : Ev tb σ H (.int n)) (hl : xs.length * n.toNat ≤ 100000) (hn : -100000 ≤ n ∧ n ≤ 100000) : EvL (tOp rRep ta tb) σ H (List.replicate n.toNat xs).flatten := fun H1 e Q q =>
  ha H1 e _ fun H2 e2 => hb H2 (e.trans e2) _ fun H3 e3 => ⟨a, n, xs, rfl, rfl, ((e.trans e2).trans e3) _ _ h, by omega, by omega, sz_of hl, fun o ho => q o _ (fresh_back (e2.trans e3) ho) ((e2.trans e3).trans (Ex.new ho)) upd_same⟩
theorem el_slN {σ : L2.St} {H : Hp} {te : TE} {tl th : TO} {xs : List V} {lo hi : Option Int} (h : EvL te σ H xs) (h1 : EvO tl σ H lo) (h2 : EvO th σ H hi) : EvL (tSl (rSlL K) te tl th) σ H (cutV xs lo hi) := fun H1 e Q q =>
  h H1 e _ fun p H2 np e2 hp => h1 H2 (e.trans e2) _ fun H3 e3 => h2 H3 ((e.trans e2).trans e3) _ fun H4 e4 => ⟨p, xs, rfl, sq_of ((e3.trans e4) _ _ hp), fun o ho => q o _ (fresh_back ((e2.trans e3).trans e4) ho) (((e2.trans e3).trans e4).trans (Ex.new ho)) upd_same⟩
theorem ev_joinL {σ : L2.St} {H : Hp} {te : TE} {r : List Str} (he : EvL te σ H (r.map V.str)) (hs : Sml r) : Ev (tOp (fun x y H Q => ∃ i j, x = V.str i ∧ y = V.str j ∧ i.length + j.length ≤ sizeLine ∧ Q (V.str (i ++ j)) H) (tC (.str "/"))
    (tM1 (fun x xs H Q => ∃ a p, ∃ ys : List Str, x = .str a ∧ xs = [.ref p] ∧ (SqL K H p (ys.map V.str) ∨ SqT K H p (ys.map V.str)) ∧ (ys.map (·.length)).sum + ys.length * a.length ≤ 16777216 ∧ Q (.str (Txt.join a ys)) H) (tC (.str "/")) te)) σ H (.str (joinP r)) := by
  refine ev_op ev_c (y := .str (Txt.join "/" r)) (fun H2 e2 Q2 k2 => go_m1 (show Ev (tC (.str "/")) _ _ (.str "/") from ev_c) fun H3 e3 => he H3 (e2.trans e3) _ fun p H4 np e4 hp => ⟨_, p, r, rfl, rfl, .inl (sq_of hp), ?_, k2 H4 (e3.trans e4)⟩) (rv_addS (by have := sml_join hs; show 1 + _ ≤ _; omega))
  have := sml_sum (r := r) fun z hz => (hs.2 z hz).1
  have := hs.1
  show _ + _ * 1 ≤ _
  omega
theorem cutV_take {α : Type} (xs : List Str) (f : Str → V) (k : Nat) : cutV (xs.map f) none (some (k : Int)) = (xs.take k).map f := by
  have e : cutV (xs.map f) none (some (k : Int)) = cutA (xs.map f) none (some (k : Int)) := rfl
  rw [e, cutA_to25, List.map_take]
theorem cutV_drop (xs : List Str) (f : Str → V) (k : Nat) : cutV (xs.map f) (some (k : Int)) none = (xs.drop k).map f := by
  have e : cutV (xs.map f) (some (k : Int)) none = cutA (xs.map f) (some (k : Int)) none := rfl
  rw [e, cutA_from, List.map_drop]
def spBdN : Sp := fun vs H Q _ => ∃ (z : Str) (d : Int), vs = [.str z, .int d] ∧ nmS z = true ∧ RetV (.str (badN z d)) H Q
theorem spBdN_v {H : Hp} {z : Str} {d : Int} (h : nmS z = true) : SpV spBdN [.str z, .int d] H (.str (badN z d)) := fun H1 _ Q q _ => ⟨z, d, rfl, h, fun H2 e2 => q H2 e2⟩
theorem ok_spname {f : Addr} {fd : FuncData} (F : Fun K "_law_spoilt_name" "_law_spoilt_name" s__law_spoilt_name f fd) (T : Glo mg) : FnOk P w K mg base CX0 2 f fd ["name", "draw"] spBdN := by
  refine F.ok sc__law_spoilt_name (fun vs H Q E h => ?_) (fun cdv A outer s H vs Q E hr h => ?_)
  · obtain ⟨a, b, rfl, _⟩ := h
    rfl
  · obtain ⟨z, d, rfl, hz, q⟩ := h
    refine ⟨_, (pss_cons (ps_set (i := 2) sc__law_spoilt_name.nd rfl (.inl rfl) pe_str)
  (pss_cons (ps_set (i := 3) sc__law_spoilt_name.nd rfl (.inl rfl) (pe_op op_mod (pe_callTy call_int1 (by rfl) T.int (by decide +kernel) (pa_cons (pe_op op_fdiv (pv 1) pe_int) pa_nil)) (pe_callB call_len_str (by rfl) T.len PySem.boot_len (pa_cons (pv 0) pa_nil))))
  (pss_cons (ps_set (i := 4) sc__law_spoilt_name.nd rfl (.inl rfl) (pe_ix ix_str (pv 2) (pe_op op_mod (pe_callTy call_int1 (by rfl) T.int (by decide +kernel) (pa_cons (pe_op op_fdiv (pv 1) pe_int) pa_nil)) (pe_callB call_len_str (by rfl) T.len PySem.boot_len (pa_cons (pv 2) pa_nil))) (fun _ _ => rfl)))
  (pss_cons (ps_set (i := 5) sc__law_spoilt_name.nd rfl (.inl rfl) (pe_lst (pa_cons (pe_op op_add_str (pe_op op_add_str (pe_slice sl_str (pv 0) po_none (po_some (pv 3))) (pv 4)) (pe_slice sl_str (pv 0) (po_some (pe_op op_add (pv 3) pe_int)) po_none)) (pa_cons (pe_op op_add_str (pv 0) (pv 4)) (pa_cons (pe_op op_add_str (pv 4) (pv 0)) (pa_cons pe_str (pa_cons pe_str (pa_cons pe_str (pa_cons (pe_slice sl_str (pe_op op_add_str (pv 0) pe_str) po_none (po_some pe_int)) pa_nil)))))))))
  (pss_cons (ps_set (i := 5) sc__law_spoilt_name.nd rfl (.inl rfl) (pe_op op_cat (pv 5) (pe_lst (pa_cons (pe_op op_add_str (pv 0) pe_str) (pa_cons (pv 4) pa_nil)))))
  (pss_one (ps_ret (pe_ix ix_list (pv 5) (pe_op op_mod (pe_callTy call_int1 (by rfl) T.int (by decide +kernel) (pa_cons (pv 1) pa_nil)) pe_int) (fun _ _ => rfl))))))))), ?_⟩
    obtain ⟨⟨h1, h2⟩, h3⟩ := nm_pc hz
    obtain ⟨hb, _⟩ := bg_at (Int.emod_nonneg (d / 108) (show (57 : Int) ≠ 0 by decide)) (Int.emod_lt_of_pos (d / 108) (show (0 : Int) < 57 by decide))
    have c1 := cutS_length z none (some (cutAt z d))
    have c2 := cutS_length z (some (cutAt z d + 1)) none
    have c3 := cutS_length (z ++ tailN) none (some 13)
    have hlt : tailN.length = 12 := by decide +kernel
    have hb1 : (bgd d).length = 1 := rfl
    refine q_asg (v := .str BG) ev_c fun H1 e1 => ?_
    refine q_asg (v := .int (cutAt z d)) (ev_op (ev_cb (ea_cons (ev_op (ev_var rfl) ev_c (rv_I ⟨by decide, by decide⟩)) ea_nil) rc_int) (ev_cb (ea_cons (ev_var rfl) ea_nil) (rc_lenS (by omega))) (rv_I (by show (0 : Int) < (z.length : Int); omega))) fun H2 e2 => ?_
    refine q_asg (v := .str (bgd d)) (ev_op (ev_var rfl) (ev_op (ev_cb (ea_cons (ev_op (ev_var rfl) ev_c (rv_I ⟨by decide, by decide⟩)) ea_nil) rc_int) (ev_is (v := .int 57) (ev_cb (ea_cons (ev_var rfl) ea_nil) (rc_lenS (z := BG) (by rw [BG_len]; decide))) (show V.int ((BG.length : Nat) : Int) = V.int 57 by rw [BG_len]; rfl)) (rv_I (by decide))) (rv_ixS (w := BG) (by decide +kernel) hb)) fun H3 e3 => ?_
    refine q_asgL (xs := (bad5 z d).map V.str) (el_lst (ea_cons (ev_op (ev_op (ev_slS (ev_var rfl) eo_none (eo_some (ev_var rfl)) (by omega)) (ev_var rfl) (rv_addS (by omega))) (ev_slS (ev_var rfl) (eo_some (ev_op (ev_var rfl) ev_c rv_I0)) eo_none (by omega)) (rv_addS (by rw [Str.length_append]; omega))) (ea_cons (ev_op (ev_var rfl) (ev_var rfl) (rv_addS (by omega))) (ea_cons (ev_op (ev_var rfl) (ev_var rfl) (rv_addS (by omega))) (ea_cons ev_c (ea_cons ev_c (ea_cons ev_c (ea_cons (ev_slS (ev_op (ev_var rfl) ev_c (rv_addS (y := tailN) (by omega))) eo_none (eo_some ev_c) (by rw [Str.length_append]; omega)) ea_nil))))))) (by show 7 ≤ 100000; decide)) fun l H4 nl e4 hl4 => ?_
    refine q_asgL (xs := (bad9 z d).map V.str) (el_catV (xs := (bad5 z d).map V.str) (ys := [V.str (z ++ Str.ofString "\n"), V.str (bgd d)]) (ev_var rfl) hl4 (el_lst (ea_cons (ev_op (ev_var rfl) ev_c (rv_addS (y := Str.ofString "\n") (by have : (Str.ofString "\n").length = 1 := (by decide +kernel); omega))) (ea_cons (ev_var rfl) ea_nil)) (by show 2 ≤ 100000; decide)) (by show 7 + 2 ≤ 100000; decide)) fun l2 H5 nl5 e5 hl5 => ?_
    have m0 : 0 ≤ d % 9 := Int.emod_nonneg d (by decide)
    have m1 : d % 9 < 9 := Int.emod_lt_of_pos d (by decide)
    have hat : atI ((bad9 z d).map V.str) (d % 9) = some (V.str (badN z d)) := by
      have hat := atI_getD (xs := (bad9 z d).map V.str) (i := d % 9) (d := V.str (Str.ofString "")) m0 (by show d % 9 < 9; exact m1)
      rw [hat]
      unfold badN
      rw [List.getD_eq_getElem?_getD, List.getD_eq_getElem?_getD, List.getElem?_map]
      have : (d % 9).toNat < (bad9 z d).length := by show _ < 9; omega
      rw [List.getElem?_eq_getElem this]
      rfl
    exact s_ret (ev_op (ev_var rfl) (ev_op (ev_cb (ea_cons (ev_var rfl) ea_nil) rc_int) ev_c (rv_I (by decide))) (rv_ixL (sq_of hl5) hat)) (fun H6 e6 => q H6 (e1.trans (e2.trans (e3.trans (e4.trans (e5.trans e6))))))
theorem q_seqJ {σ : L2.St} {H : Hp} {D : Ends} {ts tz : TS} (C : L2.St → Hp → Prop) (h : ∀ nx' : L2.St → Hp → Prop, (∀ σ1 H1, C σ1 H1 → nx' σ1 H1) → ts { D with nx := nx' } σ H) (k : ∀ σ1 H1, C σ1 H1 → tz D σ1 H1) : tSeq ts tz D σ H := h (tz D) k
def fullS (r : List Str) : List Str := if r = [] then [Str.ofString "a"] else r
theorem fullS_ok {r : List Str} (h6 : r.length ≤ 6) (hn : ∀ z ∈ r, nmS z = true) : fullS r ≠ [] ∧ (fullS r).length ≤ 6 ∧ ∀ z ∈ fullS r, nmS z = true := by
  unfold fullS
  split
  · exact ⟨(fun h => nomatch h), by show 1 ≤ 6; decide, fun z hz => by rw [List.mem_singleton.mp hz]; decide +kernel⟩
  · rename_i h
    exact ⟨h, h6, hn⟩
def spBdP (K : PySem.W.Frag) : Sp := fun vs H Q _ => ∃ (a : Addr) (r : List Str) (d : Int), vs = [.ref a, .int d] ∧ H a = some (.lst (r.map V.str)) ∧ r.length ≤ 6 ∧ (∀ z ∈ r, nmS z = true) ∧ RetV (.str (badP (fullS r) d)) H Q
theorem spBdP_v {a : Addr} {H : Hp} {r : List Str} {d : Int} (h : H a = some (.lst (r.map V.str))) (h6 : r.length ≤ 6) (hn : ∀ z ∈ r, nmS z = true) : SpV (spBdP K) [.ref a, .int d] H (.str (badP (fullS r) d)) := fun H1 e Q q _ => ⟨a, r, d, rfl, e _ _ h, h6, hn, fun H2 e2 => q H2 e2⟩
theorem mem_getD {r : List Str} {k : Nat} (h : k < r.length) : r.getD k (Str.ofString "") ∈ r := by
  rw [List.getD_eq_getElem?_getD, List.getElem?_eq_getElem h]
  exact List.getElem_mem _
theorem ok_sppath {f f_n : Addr} {fd fd_n : FuncData} (F : Fun K "_law_spoilt_path" "_law_spoilt_path" s__law_spoilt_path f fd) (D__law_spoilt_name : Df K mg "_law_spoilt_name" s__law_spoilt_name ["name", "draw"] f_n fd_n) (G__law_spoilt_name : FnOk P w K mg base CX0 2 f_n fd_n ["name", "draw"] spBdN) (T : Glo mg) : FnOk P w K mg base CX0 4 f fd ["names", "draw"] (spBdP K) := by
  refine F.ok sc__law_spoilt_path (fun vs H Q E h => ?_) (fun cdv A outer s H vs Q E hr h => ?_)
  · obtain ⟨a, b, c, rfl, _⟩ := h
    rfl
  · obtain ⟨a, r0, d, rfl, hl0, h60, hn0, q⟩ := h
    refine ⟨_, (pss_cons (ps_set (i := 2) sc__law_spoilt_path.nd rfl (.inl rfl) (pv 0))
  (pss_cons (ps_if (pt_cmpR (op_eqD hr.units) (pv 2) (pe_lst pa_nil) (nomark _))
  (pss_one (ps_set (i := 2) sc__law_spoilt_path.nd rfl (.inl rfl) (pe_lst (pa_cons pe_str pa_nil))))
  pss_nil)
  (pss_cons (ps_set (i := 3) sc__law_spoilt_path.nd rfl (.inl rfl) (pe_op op_mod (pe_callTy call_int1 (by rfl) T.int (by decide +kernel) (pa_cons (pe_op op_fdiv (pv 1) pe_int) pa_nil)) (pe_callB call_len_seq (by rfl) T.len PySem.boot_len (pa_cons (pv 2) pa_nil))))
  (pss_cons (ps_set (i := 4) sc__law_spoilt_path.nd rfl (.inl rfl) (pe_op op_add_str pe_str (pe_join pe_str (pv 2))))
  (pss_cons (ps_set (i := 5) sc__law_spoilt_path.nd rfl (.inl rfl) (pe_call G__law_spoilt_name (hr.mono (by decide)) (by rfl) D__law_spoilt_name.g D__law_spoilt_name.F.kp D__law_spoilt_name.b .nil pass0 (pa_cons (pe_ix ix_list (pv 2) (pv 3) (fun _ _ => rfl)) (pa_cons (pe_op op_fdiv (pv 1) pe_int) pa_nil))))
  (pss_cons (ps_set (i := 6) sc__law_spoilt_path.nd rfl (.inl rfl) (pe_lst (pa_cons (pe_slice sl_str (pv 4) (po_some pe_int) po_none) (pa_cons (pe_op op_add_str (pv 4) pe_str) (pa_cons (pe_op op_add_str pe_str (pe_join pe_str (pe_op op_cat (pe_op op_cat (pe_slice sl_list (pv 2) po_none (po_some (pv 3))) (pe_lst (pa_cons pe_str pa_nil))) (pe_slice sl_list (pv 2) (po_some (pv 3)) po_none)))) (pa_cons (pe_op op_add_str pe_str (pe_join pe_str (pe_slice sl_list (pe_op op_rep (pv 2) pe_int) po_none (po_some pe_int)))) pa_nil))))))
  (pss_cons (ps_set (i := 6) sc__law_spoilt_path.nd rfl (.inl rfl) (pe_op op_cat (pv 6) (pe_lst (pa_cons pe_str (pa_cons (pe_op op_add_str pe_str (pv 4)) (pa_cons (pe_op op_add_str (pv 4) pe_str) (pa_cons pe_str (pa_cons (pe_op op_add_str pe_str (pe_join pe_str (pe_op op_cat (pe_slice sl_list (pv 2) po_none (po_some (pv 3))) (pe_lst (pa_cons (pv 5) (pa_cons pe_str pa_nil)))))) pa_nil))))))))
  (pss_one (ps_ret (pe_ix ix_list (pv 6) (pe_op op_mod (pe_callTy call_int1 (by rfl) T.int (by decide +kernel) (pa_cons (pv 1) pa_nil)) pe_int) (fun _ _ => rfl))))))))))), ?_⟩
    obtain ⟨hne, h6, hn⟩ := fullS_ok h60 hn0
    refine q_asg (v := .ref a) (ev_var rfl) fun H1 e1 => ?_
    refine q_seqJ (fun σ' H' => ∃ p, σ' = [some (.ref a), some (.int d), some (.ref p), none, none, none, none] ∧ Ex H H' ∧ H' p = some (.lst ((fullS r0).map V.str))) (fun nx hnx => ?_) (fun σ' H' k => ?_)
    · refine s_if (b := decide (r0 = [])) (et_test (ev_is (ev_eqD (K := K) (n := 2) (m := 2) (d := .list (r0.map PyData.str)) (e := .list []) (ed_of (ev_var rfl) (.lst (sq_of (e1 _ _ hl0)) (dp_strs r0))) (ed_new fun H1 e Q q => (el_lst (vs := []) ea_nil (by decide)) H1 e Q fun p H2 np e2 hp => q p [] H2 np e2 hp .nil) (sd_list (sds_nm hn0)) (sd_list sds_nil) (by decide) (by decide)) (congrArg V.bl (show PyData.eqv (.list (r0.map PyData.str)) (.list []) = decide (r0 = []) by cases r0 <;> rfl)))) (fun hb H2 e2 => ?_) (fun hb H2 e2 => ?_)
      · have hb := of_decide_eq_true hb
        refine s_asgL (xs := [V.str (Str.ofString "a")]) (el_lst (ea_cons ev_c ea_nil) (by show 1 ≤ 100000; decide)) (fun l H3 nl e3 hl3 => hnx _ _ ⟨l, rfl, e1.trans (e2.trans e3), ?_⟩)
        rw [hl3, hb]
        rfl
      · have hb := of_decide_eq_false hb
        refine hnx _ _ ⟨a, rfl, e1.trans e2, ?_⟩
        rw [(e1.trans e2) _ _ hl0]
        unfold fullS
        rw [if_neg hb]
    obtain ⟨p, rfl, e1, hl⟩ := k
    generalize fullS r0 = r at *
    have hs := sml_nm h6 hn
    have hpos : 0 < r.length := List.length_pos_iff.mpr hne
    have hml : (r.map V.str).length = r.length := List.length_map _
    have m0 : 0 ≤ d / 9 % (r.length : Int) := Int.emod_nonneg _ (by omega)
    have m1 : d / 9 % (r.length : Int) < r.length := Int.emod_lt_of_pos _ (by omega)
    have hk : d / 9 % (r.length : Int) = ((atK r d : Nat) : Int) := (Int.toNat_of_nonneg m0).symm
    have k1 : atK r d < r.length := by omega
    refine q_asg (v := .int ((atK r d : Nat) : Int)) (ev_is (ev_op (ev_cb (ea_cons (ev_op (ev_var rfl) ev_c (rv_I ⟨by decide, by decide⟩)) ea_nil) rc_int) (ev_cb (ea_cons (ev_var rfl) ea_nil) (rc_len (sq_of hl))) (rv_I (by show (0 : Int) < ((r.map V.str).length : Int); omega))) (by rw [hml, ← hk])) fun H2 e2 => ?_
    refine q_asg (v := .str (joinP r)) (ev_joinP (K := K) (ev_var rfl) (sq_of (e2 _ _ hl)) h6 hn) fun H3 e3 => ?_
    have hl3 := (e2.trans e3) _ _ hl
    have hat : atI (r.map V.str) ((atK r d : Nat) : Int) = some (.str (r.getD (atK r d) (Str.ofString ""))) := by
      refine atI_nat ?_
      rw [List.getElem?_map, List.getD_eq_getElem?_getD, List.getElem?_eq_getElem k1]
      rfl
    have hgn := hn _ (mem_getD k1)
    refine q_asg (v := .str (badN (r.getD (atK r d) (Str.ofString "")) (d / 54))) (ev_call (ea_cons (ev_op (ev_var rfl) (ev_var rfl) (rv_ixL (sq_of hl3) hat)) (ea_cons (ev_op (ev_var rfl) ev_c (rv_I ⟨by decide, by decide⟩)) ea_nil)) (spBdN_v hgn)) fun H4 e4 => ?_
    have hl4 := e4 _ _ hl3
    have hpl := sml_joinP hs
    obtain ⟨a0, q0, hr0⟩ := cons_of hne
    have hcut : cutS (joinP r) (some 1) none = Txt.join "/" r := by
      refine Str.ext' (Array.toList_inj.mp ?_)
      have e := cut_from (joinP r) 1
      rw [show (cutS (joinP r) (some 1) none).cps.toList = (cutS (joinP r) (some ((1 : Nat) : Int)) none).cps.toList from rfl, e]
      show (TL.tl (Str.ofString "/" ++ Txt.join "/" r)).drop 1 = TL.tl (Txt.join "/" r)
      rw [tl_app, show TL.tl (Str.ofString "/") = [47] from by decide +kernel]
      rfl
    have slV : ∀ {σ : L2.St} {H5 : Hp}, H5 p = some (.lst (r.map V.str)) → σ[2]? = some (some (.ref p)) → σ[3]? = some (some (.int ((atK r d : Nat) : Int))) → EvL (tSl (rSlL K) (tVar 2) tNoPart (tPart (tVar 3))) σ H5 ((r.take (atK r d)).map V.str) := fun {σ H5} h s2 s3 => by
      have := el_sl (K := K) (ev_var (σ := σ) (H := H5) s2) eo_none (eo_some (ev_var s3)) (sq_of h)
      rw [cutV_take (α := Str)] at this
      exact this
    have slD : ∀ {σ : L2.St} {H5 : Hp}, H5 p = some (.lst (r.map V.str)) → σ[2]? = some (some (.ref p)) → σ[3]? = some (some (.int ((atK r d : Nat) : Int))) → EvL (tSl (rSlL K) (tVar 2) (tPart (tVar 3)) tNoPart) σ H5 ((r.drop (atK r d)).map V.str) := fun {σ H5} h s2 s3 => by
      have := el_sl (K := K) (ev_var (σ := σ) (H := H5) s2) (eo_some (ev_var s3)) eo_none (sq_of h)
      rw [cutV_drop] at this
      exact this
    have el_is : ∀ {σ : L2.St} {H5 : Hp} {te : TE} {xs ys : List V}, EvL te σ H5 xs → xs = ys → EvL te σ H5 ys := fun h e => e ▸ h
    have w2 : Sml ((r.take (atK r d) ++ [Str.ofString ""]) ++ r.drop (atK r d)) := ⟨by rw [List.length_append, List.length_append, List.length_singleton, List.length_take, List.length_drop]; omega, fun z hz => by
      rcases List.mem_append.mp hz with hz | hz
      · rcases List.mem_append.mp hz with hz | hz
        · exact hs.2 z (List.mem_of_mem_take hz)
        · rw [List.mem_singleton.mp hz]
          exact ⟨by rw [len_e]; omega, noSl_e⟩
      · exact hs.2 z (List.mem_of_mem_drop hz)⟩
    have w3 : Sml (((List.replicate 7 r).flatten).take 7) := ⟨by rw [List.length_take]; omega, fun z hz => by
      obtain ⟨l, hl, hz⟩ := List.mem_flatten.mp (List.mem_of_mem_take hz)
      rw [List.eq_of_mem_replicate hl] at hz
      exact hs.2 z hz⟩
    have hrep : (List.replicate 7 (r.map V.str)).flatten = ((List.replicate 7 r).flatten).map V.str := by
      rw [List.map_flatten, List.map_replicate]
    refine q_asgL (xs := (bad4P r d).map V.str) (el_lst (ea_cons (ev_is (ev_slS (ev_var rfl) (eo_some ev_c) eo_none (by omega)) (congrArg V.str hcut)) (ea_cons (ev_op (ev_var rfl) ev_c (rv_addS (y := Str.ofString "/") (by have : (Str.ofString "/").length = 1 := (by decide +kernel); omega))) (ea_cons (ev_joinL (K := K) (el_is (el_cat (el_cat (slV hl4 rfl rfl) (el_lst (ea_cons (x := .str (Str.ofString "")) ev_c ea_nil) (by show 1 ≤ 100000; decide)) (by rw [List.length_map, List.length_take]; show _ + 1 ≤ _; omega)) (slD hl4 rfl rfl) (by rw [List.length_append, List.length_map, List.length_map, List.length_take, List.length_drop]; show _ + 1 + _ ≤ _; omega)) (by rw [List.map_append, List.map_append]; rfl)) w2)
      (ea_cons (ev_joinL (K := K) (el_is (el_slN (K := K) (el_repV (n := 7) (ev_var rfl) hl4 ev_c (by rw [hml]; show r.length * 7 ≤ _; omega) (by decide)) eo_none (eo_some ev_c)) (by show cutV (List.replicate 7 (r.map V.str)).flatten none (some ((7 : Nat) : Int)) = _; rw [hrep, cutV_take (α := Str)])) w3) ea_nil)))) (by show 4 ≤ 100000; decide)) fun l H5 nl e5 hl5 => ?_
    have hl5p := e5 _ _ hl4
    obtain ⟨b1, b2, b3⟩ := badN_ok hgn (d / 54)
    have w8 : Sml (r.take (atK r d) ++ [badN (r.getD (atK r d) (Str.ofString "")) (d / 54), Str.ofString "a"]) := ⟨by rw [List.length_append, List.length_take]; show _ + 2 ≤ 8; omega, fun z hz => by
      rcases List.mem_append.mp hz with hz | hz
      · exact hs.2 z (List.mem_of_mem_take hz)
      · rcases List.mem_cons.mp hz with rfl | hz
        · exact ⟨b3, b2⟩
        · rw [List.mem_singleton.mp hz]
          exact ⟨by decide +kernel, by show 47 ∉ TL.tl (Str.ofString "a"); decide +kernel⟩⟩
    refine q_asgL (xs := (bad9P r d).map V.str) (el_catV (xs := (bad4P r d).map V.str) (ys := [V.str (Str.ofString ""), V.str (Str.ofString " " ++ joinP r), V.str (joinP r ++ Str.ofString "\n"), V.str (Str.ofString "//"), V.str (joinP (r.take (atK r d) ++ [badN (r.getD (atK r d) (Str.ofString "")) (d / 54), Str.ofString "a"]))]) (ev_var rfl) hl5 (el_lst (ea_cons ev_c (ea_cons (ev_op ev_c (ev_var rfl) (rv_addS (x := Str.ofString " ") (by have : (Str.ofString " ").length = 1 := (by decide +kernel); omega))) (ea_cons (ev_op (ev_var rfl) ev_c (rv_addS (y := Str.ofString "\n") (by have : (Str.ofString "\n").length = 1 := (by decide +kernel); omega))) (ea_cons ev_c (ea_cons (ev_joinL (K := K) (el_is (el_cat (slV hl5p rfl rfl) (el_lst (ea_cons (ev_var rfl) (ea_cons (x := .str (Str.ofString "a")) ev_c ea_nil)) (by show 2 ≤ 100000; decide)) (by rw [List.length_map, List.length_take]; show _ + 2 ≤ _; omega)) (by rw [List.map_append]; rfl)) w8) ea_nil))))) (by show 5 ≤ 100000; decide)) (by show 4 + 5 ≤ 100000; decide)) fun l2 H6 nl6 e6 hl6 => ?_
    have m0 : 0 ≤ d % 9 := Int.emod_nonneg d (by decide)
    have m1 : d % 9 < 9 := Int.emod_lt_of_pos d (by decide)
    have hat : atI ((bad9P r d).map V.str) (d % 9) = some (V.str (badP r d)) := by
      have hat := atI_getD (xs := (bad9P r d).map V.str) (i := d % 9) (d := V.str (Str.ofString "")) m0 (by show d % 9 < 9; exact m1)
      rw [hat]
      unfold badP
      rw [List.getD_eq_getElem?_getD, List.getD_eq_getElem?_getD, List.getElem?_map]
      have : (d % 9).toNat < (bad9P r d).length := by show _ < 9; omega
      rw [List.getElem?_eq_getElem this]
      rfl
    exact s_ret (ev_op (ev_var rfl) (ev_op (ev_cb (ea_cons (ev_var rfl) ea_nil) rc_int) ev_c (rv_I (by decide))) (rv_ixL (sq_of hl6) hat)) (fun H7 e7 => q H7 (e1.trans (e2.trans (e3.trans (e4.trans (e5.trans (e6.trans e7)))))))
theorem exn_el {σ : L2.St} {H : Hp} {te : TE} {xs : List V} {ds : List PyData} (h : EvL te σ H xs) (hd : DxAll K H xs ds) : EvXN K te σ H ds := fun H1 e Q q => h H1 e _ fun p H2 np e2 hp => q p xs H2 np e2 hp (dxa_mono ov_base ds xs hd)
theorem exn_catV {σ : L2.St} {H : Hp} {ta tb : TE} {a : Addr} {xs : List V} {ds es : List PyData} (ha : Ev ta σ H (.ref a)) (h : H a = some (.lst xs)) (hd : DxAll K H xs ds) (hb : EvXN K tb σ H es) (hl : ds.length + es.length ≤ 100000) : EvXN K (tOp rCat ta tb) σ H (ds ++ es) := fun H1 e Q q =>
  ha H1 e _ fun H2 e2 => hb H2 (e.trans e2) _ fun p' ys H3 np' e3 hp' ht =>
    ⟨a, p', xs, ys, rfl, rfl, ((e.trans e2).trans e3) _ _ h, hp', by rw [dxa_len hd, dxa_len ht]; exact sz_of hl, fun o ho => q o _ _ (fresh_back (e2.trans e3) ho) ((e2.trans e3).trans (Ex.new ho)) upd_same
      (dxa_app (dxa_mono ov_base ds xs hd) (dxa_mono ((ov_later e2).trans (ov_grow (Ex.new ho))) es ys ht))⟩
theorem ex_dnew {σ : L2.St} {H : Hp} : EvX K tDNewK σ H (.dict []) := fun H1 e Q q p hp => q _ _ (Ex.new hp) (.dic (ov_new e (Ex.refl H1) hp))
theorem ev_join0 {σ : L2.St} {H : Hp} {te : TE} {a : Addr} {r : List Str} (he : Ev te σ H (.ref a)) (hs : SqL K H a (r.map V.str)) (hm : Sml r) : Ev
    (tM1 (fun x xs H Q => ∃ a p, ∃ ys : List Str, x = .str a ∧ xs = [.ref p] ∧ (SqL K H p (ys.map V.str) ∨ SqT K H p (ys.map V.str)) ∧ (ys.map (·.length)).sum + ys.length * a.length ≤ 16777216 ∧ Q (.str (Txt.join a ys)) H) (tC (.str "/")) te) σ H (.str (Txt.join "/" r)) := by
  refine fun H2 e2 Q2 k2 => go_m1 (show Ev (tC (.str "/")) _ _ (.str "/") from ev_c) fun H3 e3 => he H3 (e2.trans e3) _ fun H4 e4 => ⟨_, a, r, rfl, rfl, .inl (ex_l (e2.trans (e3.trans e4)) hs), ?_, k2 H4 (e3.trans e4)⟩
  have := sml_sum (r := r) fun z hz => (hm.2 z hz).1
  have := hm.1
  show _ + _ * 1 ≤ _
  omega
def bad4J (r : List Str) (d : Int) : List PyData := [.list (((r.take (atK r d)).map PyData.str ++ [.str (badN (r.getD (atK r d) (Str.ofString "")) (d / 54))]) ++ (r.drop (atK r d + 1)).map PyData.str), .list (((r.take (atK r d)).map PyData.str ++ [.str (Str.ofString "a/b")]) ++ (r.drop (atK r d + 1)).map PyData.str), .list ((((List.replicate 7 r).flatten).take 7).map PyData.str), .tuple (r.map PyData.str)]
def bad9J (r : List Str) (d : Int) : List PyData := bad4J r d ++ [.list (((r.take (atK r d)).map PyData.str ++ [.int 5]) ++ (r.drop (atK r d + 1)).map PyData.str), .list (((r.take (atK r d)).map PyData.str ++ [.none]) ++ (r.drop (atK r d + 1)).map PyData.str), .str (Txt.join "/" r), .none, .dict []]
def badJ (r : List Str) (d : Int) : PyData := (bad9J r d).getD (d % 9).toNat .none
theorem are_no {ds : List PyData} {x : PyData} (hx : x ∈ ds) (hn : isNm x = false) : areNm ds = false := by
  unfold areNm
  have : ds.all isNm = false := by
    rw [List.all_eq_false]
    exact ⟨x, hx, by rw [hn]; decide⟩
  rw [this, Bool.and_false]
theorem flat_of {ds : List PyData} (hl : ds.length ≤ 1000) (h : ∀ x ∈ ds, Okd 8 x) : FlatOk (.list ds) := fun es e => by
  cases e
  exact ⟨hl, h⟩
theorem badJ_all {r : List Str} (h0 : r ≠ []) (h6 : r.length ≤ 6) (h : ∀ z ∈ r, nmS z = true) (d : Int) : ∀ x ∈ bad9J r d, joinD x = none ∧ FlatOk x := by
  have hs := sml_nm h6 h
  have hpos : 0 < r.length := List.length_pos_iff.mpr h0
  have k1 : atK r d < r.length := by
    unfold atK
    have m1 : d / 9 % (r.length : Int) < r.length := Int.emod_lt_of_pos _ (by omega)
    have m0 : 0 ≤ d / 9 % (r.length : Int) := Int.emod_nonneg _ (by omega)
    omega
  obtain ⟨b1, b2, b3⟩ := badN_ok (h _ (mem_getD k1)) (d / 54)
  have no : ∀ {ds : List PyData}, areNm ds = false → joinD (.list ds) = none := fun {ds} e => by
    show (if areNm ds = true then _ else none) = none
    rw [if_neg (by rw [e]; decide)]
  have okS : ∀ z ∈ r, Okd 8 (.str z) := fun z hz => .str (by have := nmS_len (h z hz); omega)
  have mid : ∀ x : PyData, isNm x = false → Okd 8 x → joinD (.list (((r.take (atK r d)).map PyData.str ++ [x]) ++ (r.drop (atK r d + 1)).map PyData.str)) = none ∧ FlatOk (.list (((r.take (atK r d)).map PyData.str ++ [x]) ++ (r.drop (atK r d + 1)).map PyData.str)) := fun x hx ok => by
    refine ⟨no (are_no (x := x) (by simp) hx), flat_of ?_ fun y hy => ?_⟩
    · rw [List.length_append, List.length_append, List.length_map, List.length_map, List.length_take, List.length_drop]
      show _ + 1 + _ ≤ _
      omega
    · rcases List.mem_append.mp hy with hy | hy
      · rcases List.mem_append.mp hy with hy | hy
        · obtain ⟨z, hz, rfl⟩ := List.mem_map.mp hy
          exact okS z (List.mem_of_mem_take hz)
        · rw [List.mem_singleton.mp hy]
          exact ok
      · obtain ⟨z, hz, rfl⟩ := List.mem_map.mp hy
        exact okS z (List.mem_of_mem_drop hz)
  intro x hx
  simp only [bad9J, bad4J, List.cons_append, List.nil_append, List.mem_cons, List.not_mem_nil, or_false] at hx
  have nl : ∀ y : PyData, (∀ ds, y ≠ .list ds) → FlatOk y := fun y hy ds e => absurd e (hy ds)
  rcases hx with rfl | rfl | rfl | rfl | rfl | rfl | rfl | rfl | rfl
  · exact mid _ b1 (.str (by omega))
  · exact mid _ (by decide +kernel) (.str (by decide +kernel))
  · have hl7 : (((List.replicate 7 r).flatten).take 7).length = 7 := by
      rw [List.length_take]
      have : ((List.replicate 7 r).flatten).length = 7 * r.length := by
        simp only [List.replicate, List.flatten_cons, List.flatten_nil, List.length_append, List.length_nil]
        omega
      omega
    refine ⟨no (areNm_long (by omega)), flat_of (by rw [List.length_map]; omega) fun y hy => ?_⟩
    obtain ⟨z, hz, rfl⟩ := List.mem_map.mp hy
    obtain ⟨l, hl, hz⟩ := List.mem_flatten.mp (List.mem_of_mem_take hz)
    rw [List.eq_of_mem_replicate hl] at hz
    exact okS z hz
  · exact ⟨rfl, nl _ fun _ e => by cases e⟩
  · exact mid _ rfl (.int _)
  · exact mid _ rfl .non
  · exact ⟨rfl, nl _ fun _ e => by cases e⟩
  · exact ⟨rfl, nl _ fun _ e => by cases e⟩
  · exact ⟨rfl, nl _ fun _ e => by cases e⟩
theorem badJ_ok {r : List Str} (h0 : r ≠ []) (h6 : r.length ≤ 6) (h : ∀ z ∈ r, nmS z = true) (d : Int) : joinD (badJ r d) = none ∧ FlatOk (badJ r d) := by
  have m0 : 0 ≤ d % 9 := Int.emod_nonneg d (by decide)
  have m1 : d % 9 < 9 := Int.emod_lt_of_pos d (by decide)
  unfold badJ
  have hl : (bad9J r d).length = 9 := rfl
  rw [List.getD_eq_getElem?_getD, List.getElem?_eq_getElem (by omega)]
  exact badJ_all h0 h6 h d _ (List.getElem_mem _)
def spBdJ (K : PySem.W.Frag) : Sp := fun vs H Q _ => ∃ (a : Addr) (r : List Str) (d : Int), vs = [.ref a, .int d] ∧ H a = some (.lst (r.map V.str)) ∧ r.length ≤ 6 ∧ (∀ z ∈ r, nmS z = true) ∧ ∀ v H1, Ex H H1 → Dx K H1 v (badJ (fullS r) d) → Q v H1
theorem ok_spnames {f f_n : Addr} {fd fd_n : FuncData} (F : Fun K "_law_spoilt_names" "_law_spoilt_names" s__law_spoilt_names f fd) (D__law_spoilt_name : Df K mg "_law_spoilt_name" s__law_spoilt_name ["name", "draw"] f_n fd_n) (G__law_spoilt_name : FnOk P w K mg base CX0 2 f_n fd_n ["name", "draw"] spBdN) (T : Glo mg) : FnOk P w K mg base CX0 4 f fd ["names", "draw"] (spBdJ K) := by
  refine F.ok sc__law_spoilt_names (fun vs H Q E h => ?_) (fun cdv A outer s H vs Q E hr h => ?_)
  · obtain ⟨a, b, c, rfl, _⟩ := h
    rfl
  · obtain ⟨a, r0, d, rfl, hl0, h60, hn0, q⟩ := h
    refine ⟨_, (pss_cons (ps_set (i := 2) sc__law_spoilt_names.nd rfl (.inl rfl) (pv 0))
  (pss_cons (ps_if (pt_cmpR (op_eqD hr.units) (pv 2) (pe_lst pa_nil) (nomark _))
  (pss_one (ps_set (i := 2) sc__law_spoilt_names.nd rfl (.inl rfl) (pe_lst (pa_cons pe_str pa_nil))))
  pss_nil)
  (pss_cons (ps_set (i := 3) sc__law_spoilt_names.nd rfl (.inl rfl) (pe_op op_mod (pe_callTy call_int1 (by rfl) T.int (by decide +kernel) (pa_cons (pe_op op_fdiv (pv 1) pe_int) pa_nil)) (pe_callB call_len_seq (by rfl) T.len PySem.boot_len (pa_cons (pv 2) pa_nil))))
  (pss_cons (ps_set (i := 4) sc__law_spoilt_names.nd rfl (.inl rfl) (pe_call G__law_spoilt_name (hr.mono (by decide)) (by rfl) D__law_spoilt_name.g D__law_spoilt_name.F.kp D__law_spoilt_name.b .nil pass0 (pa_cons (pe_ix ix_list (pv 2) (pv 3) (fun _ _ => rfl)) (pa_cons (pe_op op_fdiv (pv 1) pe_int) pa_nil))))
  (pss_cons (ps_set (i := 5) sc__law_spoilt_names.nd rfl (.inl rfl) (pe_lst (pa_cons (pe_op op_cat (pe_op op_cat (pe_slice sl_list (pv 2) po_none (po_some (pv 3))) (pe_lst (pa_cons (pv 4) pa_nil))) (pe_slice sl_list (pv 2) (po_some (pe_op op_add (pv 3) pe_int)) po_none)) (pa_cons (pe_op op_cat (pe_op op_cat (pe_slice sl_list (pv 2) po_none (po_some (pv 3))) (pe_lst (pa_cons pe_str pa_nil))) (pe_slice sl_list (pv 2) (po_some (pe_op op_add (pv 3) pe_int)) po_none)) (pa_cons (pe_slice sl_list (pe_op op_rep (pv 2) pe_int) po_none (po_some pe_int)) (pa_cons (pe_tupleOf (by rfl) T.tuple (pv 2)) pa_nil))))))
  (pss_cons (ps_set (i := 5) sc__law_spoilt_names.nd rfl (.inl rfl) (pe_op op_cat (pv 5) (pe_lst (pa_cons (pe_op op_cat (pe_op op_cat (pe_slice sl_list (pv 2) po_none (po_some (pv 3))) (pe_lst (pa_cons pe_int pa_nil))) (pe_slice sl_list (pv 2) (po_some (pe_op op_add (pv 3) pe_int)) po_none)) (pa_cons (pe_op op_cat (pe_op op_cat (pe_slice sl_list (pv 2) po_none (po_some (pv 3))) (pe_lst (pa_cons pe_non pa_nil))) (pe_slice sl_list (pv 2) (po_some (pe_op op_add (pv 3) pe_int)) po_none)) (pa_cons (pe_join pe_str (pv 2)) (pa_cons pe_non (pa_cons pe_dnewK pa_nil))))))))
  (pss_one (ps_ret (pe_ix ix_list (pv 5) (pe_op op_mod (pe_callTy call_int1 (by rfl) T.int (by decide +kernel) (pa_cons (pv 1) pa_nil)) pe_int) (fun _ _ => rfl)))))))))), ?_⟩
    obtain ⟨hne, h6, hn⟩ := fullS_ok h60 hn0
    refine q_asg (v := .ref a) (ev_var rfl) fun H1 e1 => ?_
    refine q_seqJ (fun σ' H' => ∃ p, σ' = [some (.ref a), some (.int d), some (.ref p), none, none, none] ∧ Ex H H' ∧ H' p = some (.lst ((fullS r0).map V.str))) (fun nx hnx => ?_) (fun σ' H' k => ?_)
    · refine s_if (b := decide (r0 = [])) (et_test (ev_is (ev_eqD (K := K) (n := 2) (m := 2) (d := .list (r0.map PyData.str)) (e := .list []) (ed_of (ev_var rfl) (.lst (sq_of (e1 _ _ hl0)) (dp_strs r0))) (ed_new fun H1 e Q q => (el_lst (vs := []) ea_nil (by decide)) H1 e Q fun p H2 np e2 hp => q p [] H2 np e2 hp .nil) (sd_list (sds_nm hn0)) (sd_list sds_nil) (by decide) (by decide)) (congrArg V.bl (show PyData.eqv (.list (r0.map PyData.str)) (.list []) = decide (r0 = []) by cases r0 <;> rfl)))) (fun hb H2 e2 => ?_) (fun hb H2 e2 => ?_)
      · have hb := of_decide_eq_true hb
        refine s_asgL (xs := [V.str (Str.ofString "a")]) (el_lst (ea_cons ev_c ea_nil) (by show 1 ≤ 100000; decide)) (fun l H3 nl e3 hl3 => hnx _ _ ⟨l, rfl, e1.trans (e2.trans e3), ?_⟩)
        rw [hl3, hb]
        rfl
      · have hb := of_decide_eq_false hb
        refine hnx _ _ ⟨a, rfl, e1.trans e2, ?_⟩
        rw [(e1.trans e2) _ _ hl0]
        unfold fullS
        rw [if_neg hb]
    obtain ⟨p, rfl, e1, hl⟩ := k
    generalize fullS r0 = r at *
    have hs := sml_nm h6 hn
    have hpos : 0 < r.length := List.length_pos_iff.mpr hne
    have hml : (r.map V.str).length = r.length := List.length_map _
    have m0 : 0 ≤ d / 9 % (r.length : Int) := Int.emod_nonneg _ (by omega)
    have m1 : d / 9 % (r.length : Int) < r.length := Int.emod_lt_of_pos _ (by omega)
    have hk : d / 9 % (r.length : Int) = ((atK r d : Nat) : Int) := (Int.toNat_of_nonneg m0).symm
    have k1 : atK r d < r.length := by omega
    refine q_asg (v := .int ((atK r d : Nat) : Int)) (ev_is (ev_op (ev_cb (ea_cons (ev_op (ev_var rfl) ev_c (rv_I ⟨by decide, by decide⟩)) ea_nil) rc_int) (ev_cb (ea_cons (ev_var rfl) ea_nil) (rc_len (sq_of hl))) (rv_I (by show (0 : Int) < ((r.map V.str).length : Int); omega))) (by rw [hml, ← hk])) fun H2 e2 => ?_
    have hat : atI (r.map V.str) ((atK r d : Nat) : Int) = some (.str (r.getD (atK r d) (Str.ofString ""))) := by
      refine atI_nat ?_
      rw [List.getElem?_map, List.getD_eq_getElem?_getD, List.getElem?_eq_getElem k1]
      rfl
    have hl3 := e2 _ _ hl
    have hgn := hn _ (mem_getD k1)
    refine q_asg (v := .str (badN (r.getD (atK r d) (Str.ofString "")) (d / 54))) (ev_call (ea_cons (ev_op (ev_var rfl) (ev_var rfl) (rv_ixL (sq_of hl3) hat)) (ea_cons (ev_op (ev_var rfl) ev_c (rv_I ⟨by decide, by decide⟩)) ea_nil)) (spBdN_v hgn)) fun H4 e4 => ?_
    have hl4 := e4 _ _ hl3
    have slV : ∀ {σ : L2.St} {H5 : Hp}, H5 p = some (.lst (r.map V.str)) → σ[2]? = some (some (.ref p)) → σ[3]? = some (some (.int ((atK r d : Nat) : Int))) → EvXN K (tSl (rSlL K) (tVar 2) tNoPart (tPart (tVar 3))) σ H5 ((r.take (atK r d)).map PyData.str) := fun {σ H5} h s2 s3 => by
      have := el_sl (K := K) (ev_var (σ := σ) (H := H5) s2) eo_none (eo_some (ev_var s3)) (sq_of h)
      rw [cutV_take (α := Str)] at this
      exact exn_el this (dx_strs _)
    have slD : ∀ {σ : L2.St} {H5 : Hp}, H5 p = some (.lst (r.map V.str)) → σ[2]? = some (some (.ref p)) → σ[3]? = some (some (.int ((atK r d : Nat) : Int))) → EvXN K (tSl (rSlL K) (tVar 2) (tPart (tOp (rI0 fun i j => .int (i + j)) (tVar 3) (tC (.int 1)))) tNoPart) σ H5 ((r.drop (atK r d + 1)).map PyData.str) := fun {σ H5} h s2 s3 => by
      have := el_sl (K := K) (ev_var (σ := σ) (H := H5) s2) (eo_some (ev_op (r := rI0 fun i j => .int (i + j)) (x := .int ((atK r d : Nat) : Int)) (y := .int 1) (z := .int (((atK r d : Nat) : Int) + 1)) (ev_var s3) ev_c rv_I0)) eo_none (sq_of h)
      have e : ((atK r d : Nat) : Int) + 1 = ((atK r d + 1 : Nat) : Int) := by omega
      rw [e, cutV_drop] at this
      exact exn_el this (dx_strs _)
    have midX : ∀ {σ : L2.St} {H5 : Hp} {te : TE} {x : PyData}, H5 p = some (.lst (r.map V.str)) → σ[2]? = some (some (.ref p)) → σ[3]? = some (some (.int ((atK r d : Nat) : Int))) → EvX K te σ H5 x → EvX K (tOp rCat (tOp rCat (tSl (rSlL K) (tVar 2) tNoPart (tPart (tVar 3))) (tLst (tCons te tNil))) (tSl (rSlL K) (tVar 2) (tPart (tOp (rI0 fun i j => .int (i + j)) (tVar 3) (tC (.int 1)))) tNoPart)) σ H5 (.list (((r.take (atK r d)).map PyData.str ++ [x]) ++ (r.drop (atK r d + 1)).map PyData.str)) := fun {σ H5 te x} h s2 s3 hx =>
      ex_new (exn_cat (exn_cat (slV h s2 s3) (exn_lst (exs_cons hx exs_nil) (by show 1 ≤ 100000; decide)) (by rw [List.length_map, List.length_take]; show _ + 1 ≤ _; omega)) (slD h s2 s3) (by rw [List.length_append, List.length_map, List.length_map, List.length_take, List.length_drop]; show _ + 1 + _ ≤ _; omega))
    have hrep : cutV (List.replicate 7 (r.map V.str)).flatten none (some ((7 : Nat) : Int)) = (((List.replicate 7 r).flatten).take 7).map V.str := by
      rw [show (List.replicate 7 (r.map V.str)).flatten = ((List.replicate 7 r).flatten).map V.str by rw [List.map_flatten, List.map_replicate], cutV_take (α := Str)]
    have rep7 : ∀ {σ : L2.St} {H5 : Hp}, H5 p = some (.lst (r.map V.str)) → σ[2]? = some (some (.ref p)) → EvX K (tSl (rSlL K) (tOp rRep (tVar 2) (tC (.int 7))) tNoPart (tPart (tC (.int 7)))) σ H5 (.list ((((List.replicate 7 r).flatten).take 7).map PyData.str)) := fun {σ H5} h s2 => by
      have := el_slN (K := K) (el_repV (n := 7) (ev_var (σ := σ) (H := H5) s2) h ev_c (by rw [hml]; show r.length * 7 ≤ _; omega) (by decide)) eo_none (eo_some (show Ev (tC (.int 7)) _ _ (.int 7) from ev_c))
      exact ex_new (exn_el (hrep ▸ this) (dx_strs _))
    refine q_asgXN (exn_lst (ds := bad4J r d) (exs_cons (midX hl4 rfl rfl (ex_var rfl (.str _))) (exs_cons (midX hl4 rfl rfl ex_str) (exs_cons (rep7 hl4 rfl) (exs_cons (exn_tup (ev_var rfl) (sq_of hl4) (dx_strs r)) exs_nil)))) (by show 4 ≤ 100000; decide)) fun l xs H5 nl e5 hl5 hx5 => ?_
    have hl5p := e5 _ _ hl4
    refine q_asgXN (exn_catV (ds := bad4J r d) (ev_var rfl) hl5 hx5 (exn_lst (exs_cons (midX hl5p rfl rfl (ex_int ev_c)) (exs_cons (midX hl5p rfl rfl ex_non) (exs_cons (ex_of (ev_join0 (K := K) (ev_var rfl) (sq_of hl5p) hs) (.str _)) (exs_cons ex_non (exs_cons ex_dnew exs_nil))))) (by show 5 ≤ 100000; decide)) (by show 4 + 5 ≤ 100000; decide)) fun l2 ys H6 nl6 e6 hl6 hx6 => ?_
    have m0 : 0 ≤ d % 9 := Int.emod_nonneg d (by decide)
    have m1 : d % 9 < 9 := Int.emod_lt_of_pos d (by decide)
    have hat : atI (bad9J r d) (d % 9) = some (badJ r d) := atI_getD (xs := bad9J r d) (i := d % 9) (d := .none) m0 (by show d % 9 < 9; exact m1)
    exact s_retX (ex_ixL (ex_var rfl (.lst (sq_of hl6) hx6)) (ev_op (ev_cb (ea_cons (ev_var rfl) ea_nil) rc_int) ev_c (rv_I (by decide))) hat) (fun v H7 e7 hv => q v H7 (e1.trans (e2.trans (e4.trans (e5.trans (e6.trans e7))))) (dx_all e7 hv))
theorem ixN_last (n : Nat) : ixN (n + 1) (-1) = some n := by
  unfold ixN
  rw [if_neg (by decide), if_pos (by omega)]
  congr 1
  omega
theorem set_last {α : Type} (q : List α) (z v : α) : (q ++ [z]).set q.length v = q ++ [v] := by
  rw [List.set_append_right _ _ (Nat.le_refl _), Nat.sub_self]
  rfl
theorem s_setN {σ : L2.St} {H : Hp} {D : Ends} {ta tb te : TE} {v : V} {l : Addr} {xs : List V} {j : Nat} {k : Int} (hl : H l = some (.lst xs)) (h : Ev te σ H v) (ho : Ev ta σ H (.ref l)) (hi : Ev tb σ H (.int k)) (hj : ixN xs.length k = some j) (c : ∀ H1, Ex H H1 → D.nx σ (upd H1 l (.lst (xs.set j v)))) :
    tAsg te (gSub ta tb rSetL) D σ H := h H (Ex.refl H) _ fun H1 e1 => ho H1 e1 _ fun H2 e2 => hi H2 (e1.trans e2) _ fun H3 e3 =>
  ⟨l, xs, k, j, rfl, rfl, ((e1.trans e2).trans e3) l _ hl, hj, c H3 ((e1.trans e2).trans e3)⟩
theorem snoc_of {α : Type} {o : List α} (h : o ≠ []) : ∃ q z, o = q ++ [z] := ⟨o.dropLast, o.getLast h, (List.dropLast_concat_getLast h).symm⟩
/-- the name with an a behind it, cut at twelve signs -/
def longS (z : Str) : Str := cutS (z ++ Str.ofString "a") none (some 12)
theorem tl_a : TL.tl (Str.ofString "a") = [97] := by decide +kernel
theorem nm_of {z : Str} (h1 : 1 ≤ z.length) (h2 : z.length ≤ 12) (ha : (TL.tl z).all nmC = true) (hd : TL.tl z ≠ [46]) (hdd : TL.tl z ≠ [46, 46]) : nmS z = true := by
  unfold nmS
  have e1 : V.str z ≠ V.str "." := fun e => hd (by rw [V.str.inj e]; decide +kernel)
  have e2 : V.str z ≠ V.str ".." := fun e => hdd (by rw [V.str.inj e]; decide +kernel)
  rw [decide_eq_true (show (1 : Int) ≤ (z.length : Int) by omega), decide_eq_true (show (z.length : Int) ≤ 12 by omega), decide_eq_false e1, decide_eq_false e2]
  show (z.cps.toList.all nmC) = true
  exact ha
theorem long_nm {z : Str} (h : nmS z = true) : nmS (longS z) = true := by
  obtain ⟨⟨h1, h2⟩, h3⟩ := nm_pc h
  have hl : z.length = (TL.tl z).length := Array.length_toList.symm
  have e : TL.tl (longS z) = (TL.tl z ++ [97]).take 12 := by
    have := cut_to (z ++ Str.ofString "a") 12
    show (cutS (z ++ Str.ofString "a") none (some ((12 : Nat) : Int))).cps.toList = _
    rw [this]
    show (TL.tl (z ++ Str.ofString "a")).take 12 = _
    rw [tl_app, tl_a]
  have hll : (longS z).length = (TL.tl (longS z)).length := Array.length_toList.symm
  have all97 : nmC 97 = true := by rw [nmC_eq]; decide +kernel
  by_cases hc : z.length = 12
  · have e2 : TL.tl (longS z) = TL.tl z := by rw [e, List.take_append_of_le_length (by omega), List.take_of_length_le (by omega)]
    have : longS z = z := Str.ext' (Array.toList_inj.mp e2)
    rw [this]
    exact h
  · have e2 : TL.tl (longS z) = TL.tl z ++ [97] := by rw [e, List.take_of_length_le (by rw [List.length_append, List.length_singleton]; omega)]
    refine nm_of (by rw [hll, e2, List.length_append, List.length_singleton]; omega) (by rw [hll, e2, List.length_append, List.length_singleton]; omega) ?_ (fun x => ?_) (fun x => ?_)
    · rw [e2, List.all_append]
      show ((TL.tl z).all nmC && (nmC 97 && true)) = true
      rw [show (TL.tl z).all nmC = true from h2, all97]
      rfl
    · rw [e2] at x
      have := congrArg (fun l => l.getLast?) x
      simp at this
    · rw [e2] at x
      have := congrArg (fun l => l.getLast?) x
      simp at this
theorem init_pc {z : Str} (h : nmS z = true) : pc (cutS z none (some (-1))) := by
  obtain ⟨⟨h1, h2⟩, h3⟩ := nm_pc h
  have hl := cutS_length z none (some (-1))
  refine ⟨by omega, ?_⟩
  unfold cutS
  exact List.all_eq_true.mpr fun c hc => List.all_eq_true.mp h2 c (List.mem_of_mem_drop (List.mem_of_mem_take hc))
def Snd (a b : Addr) (d c : Int) (H : Hp) (l : Addr) : L2.St → Hp → Prop := fun σ' H' => ∃ o : List Str, σ' = [some (.ref a), some (.ref b), some (.int d), some (.ref l), some (.int c)] ∧ Ex H H' ∧ H' l = some (.lst (o.map V.str)) ∧ o.length ≤ 6 ∧ ∀ z ∈ o, nmS z = true
def spSec (K : PySem.W.Frag) : Sp := fun vs H Q _ => ∃ (a b : Addr) (r : List Str) (ds : List Int), vs = [.ref a, .ref b] ∧ H a = some (.lst (r.map V.str)) ∧ r.length ≤ 6 ∧ (∀ z ∈ r, nmS z = true) ∧ SqL K H b (ds.map V.int) ∧
  ∀ (p : Addr) (o : List Str) (H1 : Hp), H p = none → Ex H H1 → H1 p = some (.lst (o.map V.str)) → o.length ≤ 6 → (∀ z ∈ o, nmS z = true) → Q (.ref p) H1
theorem ok_second {f f_d f_n f_g f_m : Addr} {fd fd_d fd_n fd_g fd_m : FuncData} (F : Fun K "_law_second" "_law_second" s__law_second f fd) (D__law_draw : Df K mg "_law_draw" s__law_draw ["draws", "k"] f_d fd_d) (G__law_draw : FnOk P w K mg base CX0 1 f_d fd_d ["draws", "k"] (spDraw K)) (D__law_near : Df K mg "_law_near" s__law_near ["name", "draw"] f_n fd_n) (G__law_near : FnOk P w K mg base CX0 2 f_n fd_n ["name", "draw"] spNear)
    (D__law_good : Df K mg "_law_good" s__law_good ["name"] f_g fd_g) (G__law_good : FnOk P w K mg base CX0 1 f_g fd_g ["name"] spGood) (D__law_name : Df K mg "_law_name" s__law_name ["draw"] f_m fd_m) (G__law_name : FnOk P w K mg base CX0 2 f_m fd_m ["draw"] spName) (T : Glo mg) : FnOk P w K mg base CX0 4 f fd ["names", "draws"] (spSec K) := by
  refine F.ok sc__law_second (fun vs H Q E h => ?_) (fun cdv A outer s H vs Q E hr h => ?_)
  · obtain ⟨a, b, c, d, rfl, _⟩ := h
    rfl
  · obtain ⟨a, b, r, ds, rfl, hl0, h60, hn0, hS, q⟩ := h
    refine ⟨_, (pss_cons (ps_set (i := 2) sc__law_second.nd rfl (.inl rfl) (pe_call G__law_draw (hr.mono (by decide)) (by rfl) D__law_draw.g D__law_draw.F.kp D__law_draw.b .nil pass0 (pa_cons (pv 1) (pa_cons pe_int pa_nil))))
  (pss_cons (ps_set (i := 3) sc__law_second.nd rfl (.inl rfl) (pe_slice sl_list (pv 0) po_none (po_some (pe_op op_mod (pe_callTy call_int1 (by rfl) T.int (by decide +kernel) (pa_cons (pv 2) pa_nil)) (pe_op op_add (pe_callB call_len_seq (by rfl) T.len PySem.boot_len (pa_cons (pv 0) pa_nil)) pe_int)))))
  (pss_cons (ps_set (i := 4) sc__law_second.nd rfl (.inl rfl) (pe_op op_mod (pe_callTy call_int1 (by rfl) T.int (by decide +kernel) (pa_cons (pe_op op_fdiv (pv 2) pe_int) pa_nil)) pe_int))
  (pss_cons (ps_if (PW.pt (pw_and (pt_cmpR op_eq (pv 4) pe_int (nomark _)) (pw_and1 (pt_cmpR op_gt (pe_callB call_len_seq (by rfl) T.len PySem.boot_len (pa_cons (pv 3) pa_nil)) pe_int (nomark _)))))
  (pss_one (ps_asg (pe_call G__law_near (hr.mono (by decide)) (by rfl) D__law_near.g D__law_near.F.kp D__law_near.b .nil pass0 (pa_cons (pe_ix ix_list (pv 3) (pe_un un_neg pe_int) (fun _ _ => rfl)) (pa_cons (pe_op op_fdiv (pv 2) pe_int) pa_nil))) (pg_sub (pv 3) (pe_un un_neg pe_int) set_list)))
  pss_nil)
  (pss_cons (ps_if (PW.pt (pw_and (pt_cmpR op_eq (pv 4) pe_int (nomark _)) (pw_and1 (pt_cmpR op_gt (pe_callB call_len_seq (by rfl) T.len PySem.boot_len (pa_cons (pv 3) pa_nil)) pe_int (nomark _)))))
  (pss_one (ps_asg (pe_call G__law_good (hr.mono (by decide)) (by rfl) D__law_good.g D__law_good.F.kp D__law_good.b .nil pass0 (pa_cons (pe_slice sl_str (pe_ix ix_list (pv 3) (pe_un un_neg pe_int) (fun _ _ => rfl)) po_none (po_some (pe_un un_neg pe_int))) pa_nil)) (pg_sub (pv 3) (pe_un un_neg pe_int) set_list)))
  pss_nil)
  (pss_cons (ps_if (PW.pt (pw_and (pt_cmpR op_eq (pv 4) pe_int (nomark _)) (pw_and1 (pt_cmpR op_gt (pe_callB call_len_seq (by rfl) T.len PySem.boot_len (pa_cons (pv 3) pa_nil)) pe_int (nomark _)))))
  (pss_one (ps_asg (pe_slice sl_str (pe_op op_add_str (pe_ix ix_list (pv 3) (pe_un un_neg pe_int) (fun _ _ => rfl)) pe_str) po_none (po_some pe_int)) (pg_sub (pv 3) (pe_un un_neg pe_int) set_list)))
  pss_nil)
  (pss_cons (ps_if (PW.pt (pw_and (pt_cmpR op_eq (pv 4) pe_int (nomark _)) (pw_and1 (pt_cmpR op_lt (pe_callB call_len_seq (by rfl) T.len PySem.boot_len (pa_cons (pv 3) pa_nil)) pe_int (nomark _)))))
  (pss_one (ps_expr (pe_bm PySem.F.plainAttrs_list PySem.F.slot_list_append PySem.F.type_list_append mt_append (pv 3) (pa_cons (pe_call G__law_name (hr.mono (by decide)) (by rfl) D__law_name.g D__law_name.F.kp D__law_name.b .nil pass0 (pa_cons (pe_call G__law_draw (hr.mono (by decide)) (by rfl) D__law_draw.g D__law_draw.F.kp D__law_draw.b .nil pass0 (pa_cons (pv 1) (pa_cons pe_int pa_nil))) pa_nil)) pa_nil))))
  pss_nil)
  (pss_one (ps_ret (pv 3)))))))))), ?_⟩
    have hml : (r.map V.str).length = r.length := List.length_map _
    refine q_asg (v := .int (drw ds 7)) (ev_call (ea_cons (ev_var rfl) (ea_cons ev_c ea_nil)) (spDraw_v hS rfl)) fun H1 e1 => ?_
    generalize drw ds 7 = d
    have hk : ∃ k : Nat, d % (((r.map V.str).length : Int) + 1) = (k : Int) := ⟨_, (Int.toNat_of_nonneg (Int.emod_nonneg _ (by omega))).symm⟩
    obtain ⟨k, hk⟩ := hk
    refine q_asgL (xs := (r.take k).map V.str) (fun G1 eG Q q => (el_sl (K := K) (ev_var rfl) eo_none (eo_some (ev_op (ev_cb (ea_cons (ev_var rfl) ea_nil) rc_int) (ev_op (ev_cb (ea_cons (ev_var rfl) ea_nil) (rc_len (sq_of (e1 _ _ hl0)))) ev_c rv_I0) (rv_I (by show (0 : Int) < _ + 1; omega)))) (sq_of (e1 _ _ hl0))) G1 eG Q (by rw [hk, cutV_take (α := Str)]; exact q)) fun l H2 nl e2 hl2 => ?_
    have nlH : H l = none := fresh_back e1 nl
    refine q_asg (v := .int (d / 7 % 6)) (ev_op (ev_cb (ea_cons (ev_op (ev_var rfl) ev_c (rv_I ⟨by decide, by decide⟩)) ea_nil) rc_int) ev_c (rv_I (by decide))) fun H3 e3 => ?_
    generalize d / 7 % 6 = c
    have start : Snd a b d c H l [some (.ref a), some (.ref b), some (.int d), some (.ref l), some (.int c)] H3 := ⟨r.take k, rfl, e1.trans (e2.trans e3), e3 _ _ hl2, by rw [List.length_take]; omega, fun z hz => hn0 z (List.mem_of_mem_take hz)⟩
    have one : ∀ {o : List Str} {H4 : Hp} {D : Ends} {te : TE} {m : Int}, Ex H H4 → H4 l = some (.lst (o.map V.str)) → o.length ≤ 6 → (∀ z ∈ o, nmS z = true) → (∀ σ' H', Snd a b d c H l σ' H' → D.nx σ' H') →
        (∀ (q : List Str) (z : Str) (H5 : Hp), o = q ++ [z] → nmS z = true → H5 l = some (.lst (o.map V.str)) → Ex H4 H5 → ∃ y, nmS y = true ∧ Ev te [some (.ref a), some (.ref b), some (.int d), some (.ref l), some (.int c)] H5 (.str y)) →
        tIfS (tAnd (tTest (tOp rEq (tVar 4) (tC (.int m)))) (tTest (tOp (rI0 fun i j => .bl (decide (i > j))) (tCB (fun xs H Q => ∃ p ys, xs = [.ref p] ∧ (SqL K H p ys ∨ SqT K H p ys) ∧ Q (.int ys.length) H) (tCons (tVar 3) tNil)) (tC (.int 0))))) (tAsg te (gSub (tVar 3) (tUn (rU fun i => .int (-i)) (tC (.int 1))) rSetL)) tNext D [some (.ref a), some (.ref b), some (.int d), some (.ref l), some (.int c)] H4 := fun {o H4 D te m} e4 hl4 h6 hn nx hte => by
      refine s_if (b := decide (V.int c = V.int m) && decide (((o.map V.str).length : Int) > 0)) (et_and (et_test (ev_op (ev_var rfl) ev_c (rv_eq rfl))) (fun _ => et_test (ev_op (ev_cb (ea_cons (ev_var rfl) ea_nil) (rc_len (sq_of hl4))) ev_c rv_I0))) (fun hb H5 e5 => ?_) (fun hb H5 e5 => nx _ _ ⟨o, rfl, e4.trans e5, e5 _ _ hl4, h6, hn⟩)
      have hb := of_decide_eq_true (Bool.and_eq_true_iff.mp hb).2
      rw [List.length_map] at hb
      have ho : o ≠ [] := fun e => by rw [e] at hb; exact absurd hb (by decide)
      obtain ⟨q, z, rfl⟩ := snoc_of ho
      have hz := hn z (by simp)
      obtain ⟨y, hy, hev⟩ := hte q z H5 rfl hz (e5 _ _ hl4) e5
      have hml : (q ++ [z]).map V.str = q.map V.str ++ [V.str z] := by rw [List.map_append]; rfl
      refine s_setN (l := l) (j := (q.map V.str).length) (e5 _ _ hl4) hev (ev_var rfl) (ev_un ev_c (fun G _ Q q => ⟨_, rfl, q G (Ex.refl G)⟩)) ?_ (fun H6 e6 => nx _ _ ⟨q ++ [y], rfl, Ex.mut (e4.trans (e5.trans e6)) nlH, ?_, ?_, fun x hx => ?_⟩)
      · rw [hml, List.length_append, List.length_singleton]
        exact ixN_last _
      · rw [upd_same, hml, set_last, List.map_append]
        rfl
      · rw [List.length_append, List.length_singleton] at h6 ⊢
        exact h6
      · rcases List.mem_append.mp hx with hx | hx
        · exact hn x (List.mem_append_left _ hx)
        · rw [List.mem_singleton.mp hx]
          exact hy
    have lastE : ∀ {q : List Str} {z : Str} {H5 : Hp}, H5 l = some (.lst ((q ++ [z]).map V.str)) → Ev (tOp (rIxL K) (tVar 3) (tUn (rU fun i => .int (-i)) (tC (.int 1)))) [some (.ref a), some (.ref b), some (.int d), some (.ref l), some (.int c)] H5 (.str z) := fun {q z H5} h => by
      refine ev_op (ev_var rfl) (ev_un ev_c (fun G _ Q q => ⟨_, rfl, q G (Ex.refl G)⟩)) (rv_ixL (sq_of h) ?_)
      rw [List.map_append]
      exact atI_last _ _
    refine q_seqJ (Snd a b d c H l) (fun nx hnx => ?_) (fun σ' H4 k1 => ?_)
    · obtain ⟨o, hσ, e4, hl4, h6, hn⟩ := start
      exact one e4 hl4 h6 hn hnx fun q z H5 eo hz hl5 e5 => ⟨nearS z (d / 42), near_nm _ hz, ev_call (ea_cons (lastE (eo ▸ hl5)) (ea_cons (ev_op (ev_var rfl) ev_c (rv_I ⟨by decide, by decide⟩)) ea_nil)) (spNear_v hz)⟩
    obtain ⟨o, rfl, e4, hl4, h6, hn⟩ := k1
    refine q_seqJ (Snd a b d c H l) (fun nx hnx => ?_) (fun σ' H5 k1 => ?_)
    · exact one e4 hl4 h6 hn hnx fun q z H5 eo hz hl5 e5 => ⟨goodS (cutS z none (some (-1))), good_nm (init_pc hz), ev_call (vs := [.str (cutS z none (some (-1)))]) (ea_cons (ev_slS (lastE (eo ▸ hl5)) eo_none (eo_some (ev_un ev_c (fun G _ Q q => ⟨_, rfl, q G (Ex.refl G)⟩))) (by have := nmS_len hz; omega)) ea_nil) (spGood_v (by have := (init_pc hz).1; omega))⟩
    obtain ⟨o, rfl, e4, hl4, h6, hn⟩ := k1
    refine q_seqJ (Snd a b d c H l) (fun nx hnx => ?_) (fun σ' H6 k1 => ?_)
    · exact one e4 hl4 h6 hn hnx fun q z H5 eo hz hl5 e5 => ⟨longS z, long_nm hz, ev_slS (ev_op (lastE (eo ▸ hl5)) ev_c (rv_addS (y := Str.ofString "a") (by have := nmS_len hz; have : (Str.ofString "a").length = 1 := (by decide +kernel); omega))) eo_none (eo_some ev_c) (by rw [Str.length_append]; have := nmS_len hz; have : (Str.ofString "a").length = 1 := (by decide +kernel); omega)⟩
    obtain ⟨o, rfl, e4, hl4, h6, hn⟩ := k1
    refine q_seqJ (Snd a b d c H l) (fun nx hnx => ?_) (fun σ' H7 k1 => ?_)
    · refine s_if (b := decide (V.int c = V.int 4) && decide (((o.map V.str).length : Int) < 6)) (et_and (et_test (ev_op (ev_var rfl) ev_c (rv_eq rfl))) (fun _ => et_test (ev_op (ev_cb (ea_cons (ev_var rfl) ea_nil) (rc_len (sq_of hl4))) ev_c rv_I0))) (fun hb H8 e8 => ?_) (fun hb H8 e8 => hnx _ _ ⟨o, rfl, e4.trans e8, e8 _ _ hl4, h6, hn⟩)
      have hb := of_decide_eq_true (Bool.and_eq_true_iff.mp hb).2
      rw [List.length_map] at hb
      refine s_app (l := l) (v := .str (nameS (drw ds 8))) (e8 _ _ hl4) (ev_var rfl) (ev_call (ea_cons (ev_call (ea_cons (ev_var rfl) (ea_cons ev_c ea_nil)) (spDraw_v (ex_l (e4.trans e8) hS) rfl)) ea_nil) spName_v) (by rw [List.length_map]; omega) (fun H9 e9 => hnx _ _ ⟨o ++ [nameS (drw ds 8)], rfl, Ex.mut (e4.trans (e8.trans e9)) nlH, by rw [upd_same, List.map_append]; rfl, by rw [List.length_append, List.length_singleton]; omega, fun x hx => ?_⟩)
      rcases List.mem_append.mp hx with hx | hx
      · exact hn x hx
      · rw [List.mem_singleton.mp hx]
        exact name_nm _
    obtain ⟨o, rfl, e4, hl4, h6, hn⟩ := k1
    exact s_ret (ev_var rfl) (fun H8 e8 => q l o H8 nlH (e4.trans e8) (e8 _ _ hl4) h6 hn)
def FoL (K : PySem.W.Frag) (g : TG) (tb : TS) (D : Ends) (σ : L2.St) : VK := fun x H1 => ∃ a, x = .ref a ∧ (∃ xs, SqL K H1 a xs) ∧ ∃ W : Nat → Nat → L2.St → Hp → Prop, (∃ m, W 0 m σ H1) ∧ ∀ i m σ H, W i m σ H →
  ((Itl K a).stop i H ∧ D.nx σ H) ∨ ((Itl K a).go i H ∧ ∃ N : L2.St → Hp → Prop, (∀ σ' H', N σ' H' → ∃ m', m' < m ∧ W (i + 1) m' σ' H') ∧ ∀ x H', (Itl K a).yld i H x H' → g x σ H' fun σ2 H2 => tb { D with nx := N, ct := N, bk := D.nx } σ2 H2)
theorem q_forF {σ : L2.St} {H : Hp} {D : Ends} {tz tu : TS} {tl : TE} {j : Nat} (h : tl σ H (FoL K (gName j) tu { D with nx := tz D } σ)) : tSeq (tFor (iList K tl) (gName j) tu) tz D σ H := h
theorem goL {σ : L2.St} {H : Hp} {ta : L2.TA} {Q : VK} (h : ta σ H fun xs H1 => xs.length ≤ sizeLine ∧ ∀ p, H1 p = none → Q (.ref p) (upd H1 p (.lst xs))) : tLst ta σ H Q := h
theorem fol_x {σ : L2.St} {H1 : Hp} {D : Ends} {tz tu : TS} {j : Nat} {p : Addr} {xs : List V} {ds : List PyData} (hp : H1 p = some (.lst xs)) (hx : DxAll K H1 xs ds) (Pv : L2.St → Prop) (h0 : Pv σ)
    (hs : ∀ x d σ' H', Ex H1 H' → d ∈ ds → Dx K H' x d → Pv σ' → tu { D with nx := fun σ2 H2 => Pv σ2 ∧ Ex H1 H2, ct := fun σ2 H2 => Pv σ2 ∧ Ex H1 H2, bk := tz D } (σ'.set j (some x)) H')
    (hd : ∀ σ' H', Ex H1 H' → Pv σ' → tz D σ' H') : FoL K (gName j) tu { D with nx := tz D } σ (.ref p) H1 :=
  ⟨p, rfl, ⟨xs, sq_of hp⟩, for_it (D := { D with nx := tz D }) (walk_list (xs := xs)) (fun _ σ' H' => Pv σ' ∧ Ex H1 H') ⟨h0, Ex.refl H1⟩ (fun _ _ _ _ q => ex_l q.2 (sq_of hp)) (fun i x σ' H2 H' hi q y => by
    obtain ⟨rfl, hxi⟩ := y
    obtain ⟨d, hdi, hdx⟩ := dxa_atV hx hxi
    exact hs x d σ' _ q.2 (List.mem_of_getElem? hdi) (dx_mono q.2 _ _ hdx) q.1) (fun σ' H' q => hd σ' H' q.2 q.1)⟩
def things6 : List PyData := [.none, .int 5, .bool true, .list [.str (Str.ofString "a")], .tuple [.str (Str.ofString "/")], .dict []]
theorem things_ok : ∀ d ∈ things6, splitD d = none ∧ Okd 8 d := by
  intro d hd
  simp only [things6, List.mem_cons, List.not_mem_nil, or_false] at hd
  rcases hd with rfl | rfl | rfl | rfl | rfl | rfl
  · exact ⟨rfl, .non⟩
  · exact ⟨rfl, .int _⟩
  · exact ⟨rfl, .bl _⟩
  · exact ⟨rfl, .lsa (by show 1 ≤ 1000; decide)⟩
  · exact ⟨rfl, .tup (by show 1 ≤ 1000; decide) fun d hd => by rw [List.mem_singleton.mp hd]; exact .str (by decide +kernel)⟩
  · exact ⟨rfl, .dic⟩
theorem ok_lawG {f f1 f2 f3 f4 f5 f6 f7 f8 f9 f10 f11 : Addr} {fd fd1 fd2 fd3 fd4 fd5 fd6 fd7 fd8 fd9 fd10 fd11 : FuncData} (F : Fun K "law" "law" s_law f fd)
    (D__law_stream : Df K mg "_law_stream" s__law_stream ["script", "many"] f1 fd1) (G__law_stream : FnOk P w K mg base CX0 1 f1 fd1 ["script", "many"] (spStreamW K)) (D__law_draw : Df K mg "_law_draw" s__law_draw ["draws", "k"] f2 fd2) (G__law_draw : FnOk P w K mg base CX0 1 f2 fd2 ["draws", "k"] (spDraw K))
    (D__law_names : Df K mg "_law_names" s__law_names ["draws", "at"] f3 fd3) (G__law_names : FnOk P w K mg base CX0 3 f3 fd3 ["draws", "at"] (spNames K)) (D__law_second : Df K mg "_law_second" s__law_second ["names", "draws"] f4 fd4) (G__law_second : FnOk P w K mg base CX0 4 f4 fd4 ["names", "draws"] (spSec K))
    (D__law_both_ways : Df K mg "_law_both_ways" s__law_both_ways ["names"] f5 fd5) (G__law_both_ways : FnOk P w K mg base CX0 5 f5 fd5 ["names"] (spBoth K)) (D__law_within : Df K mg "_law_within" s__law_within ["names", "other"] f6 fd6) (G__law_within : FnOk P w K mg base CX0 6 f6 fd6 ["names", "other"] (spWith K))
    (D__law_spoilt_path : Df K mg "_law_spoilt_path" s__law_spoilt_path ["names", "draw"] f7 fd7) (G__law_spoilt_path : FnOk P w K mg base CX0 4 f7 fd7 ["names", "draw"] (spBdP K)) (D__law_spoilt_names : Df K mg "_law_spoilt_names" s__law_spoilt_names ["names", "draw"] f8 fd8) (G__law_spoilt_names : FnOk P w K mg base CX0 4 f8 fd8 ["names", "draw"] (spBdJ K))
    (D__law_split_raises : Df K mg "_law_split_raises" s__law_split_raises ["thing"] f9 fd9) (G__law_split_raises : FnOk P w K mg base CX0 5 f9 fd9 ["thing"] (spSR K)) (D__law_within_raises : Df K mg "_law_within_raises" s__law_within_raises ["path", "other"] f10 fd10) (G__law_within_raises : FnOk P w K mg base CX0 6 f10 fd10 ["path", "other"] (spWR K))
    (D__law_join_raises : Df K mg "_law_join_raises" s__law_join_raises ["thing"] f11 fd11) (G__law_join_raises : FnOk P w K mg base CX0 5 f11 fd11 ["thing"] (spJR K)) (T : Glo mg) : FnOk P w K mg base CX0 10 f fd ["script"] (spLaw K) := by
  refine F.ok sc_law (fun vs H Q E h => ?_) (fun cdv A outer s H vs Q E hr h => ?_)
  · obtain ⟨a, ns, rfl, _⟩ := h
    rfl
  · obtain ⟨a, ns, rfl, hS, hn, q⟩ := h
    refine ⟨_, (pss_cons (ps_set (i := 1) sc_law.nd rfl (.inl rfl) (pe_call G__law_stream (hr.mono (by decide)) (by rfl) D__law_stream.g D__law_stream.F.kp D__law_stream.b .nil pass0 (pa_cons (pv 0) (pa_cons pe_int pa_nil))))
  (pss_cons (ps_set (i := 2) sc_law.nd rfl (.inl rfl) (pe_slice sl_list (pe_call G__law_names (hr.mono (by decide)) (by rfl) D__law_names.g D__law_names.F.kp D__law_names.b .nil pass0 (pa_cons (pv 1) (pa_cons pe_int pa_nil))) po_none (po_some (pe_op op_mod (pe_callTy call_int1 (by rfl) T.int (by decide +kernel) (pa_cons (pe_call G__law_draw (hr.mono (by decide)) (by rfl) D__law_draw.g D__law_draw.F.kp D__law_draw.b .nil pass0 (pa_cons (pv 1) (pa_cons pe_int pa_nil))) pa_nil)) pe_int))))
  (pss_cons (ps_set (i := 3) sc_law.nd rfl (.inl rfl) (pe_call G__law_second (hr.mono (by decide)) (by rfl) D__law_second.g D__law_second.F.kp D__law_second.b .nil pass0 (pa_cons (pv 2) (pa_cons (pv 1) pa_nil))))
  (pss_cons (ps_if (PW.pt (pw_or (pt_not (pt_val (pe_call G__law_both_ways (hr.mono (by decide)) (by rfl) D__law_both_ways.g D__law_both_ways.F.kp D__law_both_ways.b .nil pass0 (pa_cons (pv 2) pa_nil)))) (pw_or (pt_not (pt_val (pe_call G__law_both_ways (hr.mono (by decide)) (by rfl) D__law_both_ways.g D__law_both_ways.F.kp D__law_both_ways.b .nil pass0 (pa_cons (pv 3) pa_nil)))) (pw_or1 (pt_not (pt_val (pe_call G__law_within (hr.mono (by decide)) (by rfl) D__law_within.g D__law_within.F.kp D__law_within.b .nil pass0 (pa_cons (pv 2) (pa_cons (pv 3) pa_nil)))))))))
  (pss_one (ps_ret pe_bl))
  pss_nil)
  (pss_cons (ps_set (i := 4) sc_law.nd rfl (.inl rfl) (pe_op op_add_str pe_str (pe_join pe_str (pv 2))))
  (pss_cons (ps_set (i := 5) sc_law.nd rfl (.inl rfl) (pe_lst (pa_cons pe_non (pa_cons pe_int (pa_cons pe_bl (pa_cons (pe_lst (pa_cons pe_str pa_nil)) (pa_cons (pe_tup (pa_cons pe_str pa_nil)) (pa_cons pe_dnewK pa_nil))))))))
  (pss_cons (ps_set (i := 6) sc_law.nd rfl (.inl rfl) (pe_ix ix_list (pv 5) (pe_op op_mod (pe_callTy call_int1 (by rfl) T.int (by decide +kernel) (pa_cons (pe_call G__law_draw (hr.mono (by decide)) (by rfl) D__law_draw.g D__law_draw.F.kp D__law_draw.b .nil pass0 (pa_cons (pv 1) (pa_cons pe_int pa_nil))) pa_nil)) pe_int) (fun _ _ => rfl)))
  (pss_cons (ps_for PassesOwn.never rfl (pi_list (pe_lst (pa_cons (pe_call G__law_spoilt_path (hr.mono (by decide)) (by rfl) D__law_spoilt_path.g D__law_spoilt_path.F.kp D__law_spoilt_path.b .nil pass0 (pa_cons (pv 2) (pa_cons (pe_call G__law_draw (hr.mono (by decide)) (by rfl) D__law_draw.g D__law_draw.F.kp D__law_draw.b .nil pass0 (pa_cons (pv 1) (pa_cons pe_int pa_nil))) pa_nil))) (pa_cons (pe_call G__law_spoilt_path (hr.mono (by decide)) (by rfl) D__law_spoilt_path.g D__law_spoilt_path.F.kp D__law_spoilt_path.b .nil pass0 (pa_cons (pv 3) (pa_cons (pe_call G__law_draw (hr.mono (by decide)) (by rfl) D__law_draw.g D__law_draw.F.kp D__law_draw.b .nil pass0 (pa_cons (pv 1) (pa_cons pe_int pa_nil))) pa_nil))) (pa_cons (pv 6) pa_nil))))) (pg_name (i := 7) sc_law.nd rfl (.inl rfl))
  (pss_one (ps_if (PW.pt (pw_or (pt_not (pt_val (pe_call G__law_split_raises (hr.mono (by decide)) (by rfl) D__law_split_raises.g D__law_split_raises.F.kp D__law_split_raises.b .nil pass0 (pa_cons (pv 7) pa_nil)))) (pw_or (pt_not (pt_val (pe_call G__law_within_raises (hr.mono (by decide)) (by rfl) D__law_within_raises.g D__law_within_raises.F.kp D__law_within_raises.b .nil pass0 (pa_cons (pv 7) (pa_cons (pv 4) pa_nil))))) (pw_or1 (pt_not (pt_val (pe_call G__law_within_raises (hr.mono (by decide)) (by rfl) D__law_within_raises.g D__law_within_raises.F.kp D__law_within_raises.b .nil pass0 (pa_cons (pv 4) (pa_cons (pv 7) pa_nil)))))))))
  (pss_one (ps_ret pe_bl))
  pss_nil)))
  (pss_cons (ps_for PassesOwn.never rfl (pi_list (pe_lst (pa_cons (pe_call G__law_spoilt_names (hr.mono (by decide)) (by rfl) D__law_spoilt_names.g D__law_spoilt_names.F.kp D__law_spoilt_names.b .nil pass0 (pa_cons (pv 2) (pa_cons (pe_call G__law_draw (hr.mono (by decide)) (by rfl) D__law_draw.g D__law_draw.F.kp D__law_draw.b .nil pass0 (pa_cons (pv 1) (pa_cons pe_int pa_nil))) pa_nil))) (pa_cons (pe_call G__law_spoilt_names (hr.mono (by decide)) (by rfl) D__law_spoilt_names.g D__law_spoilt_names.F.kp D__law_spoilt_names.b .nil pass0 (pa_cons (pv 3) (pa_cons (pe_call G__law_draw (hr.mono (by decide)) (by rfl) D__law_draw.g D__law_draw.F.kp D__law_draw.b .nil pass0 (pa_cons (pv 1) (pa_cons pe_int pa_nil))) pa_nil))) pa_nil)))) (pg_name (i := 8) sc_law.nd rfl (.inl rfl))
  (pss_one (ps_if (pt_not (pt_val (pe_call G__law_join_raises (hr.mono (by decide)) (by rfl) D__law_join_raises.g D__law_join_raises.F.kp D__law_join_raises.b .nil pass0 (pa_cons (pv 8) pa_nil))))
  (pss_one (ps_ret pe_bl))
  pss_nil)))
  (pss_one (ps_ret (pe_and (pe_call G__law_both_ways (hr.mono (by decide)) (by rfl) D__law_both_ways.g D__law_both_ways.F.kp D__law_both_ways.b .nil pass0 (pa_cons (pv 2) pa_nil)) (pe_one (pe_call G__law_within (hr.mono (by decide)) (by rfl) D__law_within.g D__law_within.F.kp D__law_within.b .nil pass0 (pa_cons (pv 3) (pa_cons (pv 2) pa_nil)))))))))))))))), ?_⟩
    refine q_call (ea_cons (ev_var rfl) (ea_cons ev_c ea_nil)) fun H1 e1 => ⟨a, ns, 16, rfl, ex_l e1 hS, hn, by decide, fun ds hD hl b H2 nb e2 hb => ?_⟩
    have hk : ∃ k : Nat, drw ds 0 % 7 = (k : Int) := ⟨_, (Int.toNat_of_nonneg (Int.emod_nonneg _ (by decide))).symm⟩
    obtain ⟨k, hk⟩ := hk
    have hk7 : k ≤ 6 := by have := Int.emod_lt_of_pos (drw ds 0) (show (0 : Int) < 7 by decide); omega
    obtain ⟨n6, nn⟩ := namesS_ok ds 1
    refine q_asgL (xs := ((namesS ds 1).take k).map V.str) (fun G1 eG Q q => (el_slN (K := K) (xs := (namesS ds 1).map V.str) (el_call (ea_cons (ev_var rfl) (ea_cons ev_c ea_nil)) (fun H3 e3 Q q E => ⟨b, ds, 1, rfl, sq_of (e3 _ _ hb), q⟩)) eo_none (eo_some (ev_op (ev_cb (ea_cons (ev_call (ea_cons (ev_var rfl) (ea_cons ev_c ea_nil)) (spDraw_v (sq_of hb) rfl)) ea_nil) rc_int) ev_c (rv_I (by decide))))) G1 eG Q (by rw [hk, cutV_take (α := Str)]; exact q)) fun nl H3 nn3 e3 hnl => ?_
    have h6 : ((namesS ds 1).take k).length ≤ 6 := by rw [List.length_take]; omega
    have hn6 : ∀ z ∈ (namesS ds 1).take k, nmS z = true := fun z hz => nn z (List.mem_of_mem_take hz)
    generalize (namesS ds 1).take k = r at *
    refine q_call (ea_cons (ev_var rfl) (ea_cons (ev_var rfl) ea_nil)) fun H4 e4 => ⟨nl, b, r, ds, rfl, e4 _ _ hnl, h6, hn6, sq_of ((e3.trans e4) _ _ hb), fun ol o H5 no5 e5 hol o6 on6 => ?_⟩
    have hb5 := ((e3.trans e4).trans e5) _ _ hb
    have hnl5 := (e4.trans e5) _ _ hnl
    have bothV : ∀ {p : Addr} {t : List Str} {H : Hp}, H p = some (.lst (t.map V.str)) → t.length ≤ 6 → (∀ z ∈ t, nmS z = true) → SpV (spBoth K) [.ref p] H (.bl true) := fun {p t H} h a b H1 e Q q E => ⟨p, t, rfl, sq_of (e _ _ h), a, b, fun H2 e2 => q H2 e2⟩
    have withV : ∀ {p p2 : Addr} {t u : List Str} {H : Hp}, H p = some (.lst (t.map V.str)) → t.length ≤ 6 → (∀ z ∈ t, nmS z = true) → H p2 = some (.lst (u.map V.str)) → u.length ≤ 6 → (∀ z ∈ u, nmS z = true) → SpV (spWith K) [.ref p, .ref p2] H (.bl true) := fun {p p2 t u H} h a b h2 a2 b2 H1 e Q q E => ⟨p, p2, t, u, rfl, sq_of (e _ _ h), a, b, sq_of (e _ _ h2), a2, b2, fun H2 e2 => q H2 e2⟩
    refine q_when (b := false) (et_is (et_or (a := false) (b := false) (et_is (et_not (et_B (ev_call (ea_cons (ev_var rfl) ea_nil) (bothV hnl5 h6 hn6)))) rfl) (fun _ => et_is (et_or (a := false) (b := false) (et_is (et_not (et_B (ev_call (ea_cons (ev_var rfl) ea_nil) (bothV hol o6 on6)))) rfl) (fun _ => et_is (et_not (et_B (ev_call (ea_cons (ev_var rfl) (ea_cons (ev_var rfl) ea_nil)) (withV hnl5 h6 hn6 hol o6 on6)))) rfl)) rfl)) rfl) (fun hb => nomatch hb) fun _ H6 e6 => ?_
    refine q_asg (v := .str (joinP r)) (ev_joinP (K := K) (ev_var rfl) (sq_of (e6 _ _ hnl5)) h6 hn6) fun H7 e7 => ?_
    refine q_asgXN (K := K) (exn_lst (ds := things6) (exs_cons ex_non (exs_cons (ex_int ev_c) (exs_cons (ex_bool ev_c) (exs_cons (ex_new (exn_lst (exs_cons ex_str exs_nil) (by show 1 ≤ 100000; decide))) (exs_cons (ex_tup (exs_cons ex_str exs_nil) (by show 1 ≤ 100000; decide)) (exs_cons ex_dnew exs_nil)))))) (by show 6 ≤ 100000; decide)) fun tl ts H8 nt8 e8 htl hts => ?_
    have hb8 := ((e6.trans e7).trans e8) _ _ hb5
    have m0 : 0 ≤ drw ds 12 % 6 := Int.emod_nonneg _ (by decide)
    have m1 : drw ds 12 % 6 < 6 := Int.emod_lt_of_pos _ (by decide)
    have hat := atI_getD (xs := things6) (i := drw ds 12 % 6) (d := .none) m0 (by show _ < 6; exact m1)
    have hmem : things6.getD (drw ds 12 % 6).toNat .none ∈ things6 := by
      have : (drw ds 12 % 6).toNat < things6.length := by show _ < 6; omega
      rw [List.getD_eq_getElem?_getD, List.getElem?_eq_getElem this]
      exact List.getElem_mem _
    obtain ⟨td1, td2⟩ := things_ok _ hmem
    generalize things6.getD (drw ds 12 % 6).toNat .none = td at *
    refine q_asgX (ex_ixL (ex_var rfl (.lst (sq_of htl) hts)) (ev_op (ev_cb (ea_cons (ev_call (ea_cons (ev_var rfl) (ea_cons ev_c ea_nil)) (spDraw_v (sq_of hb8) rfl)) ea_nil) rc_int) ev_c (rv_I (by decide))) hat) fun tv H9 e9 htv => ?_
    have hb9 := e9 _ _ hb8
    have E59 := e6.trans (e7.trans (e8.trans e9))
    have hnl9 := E59 _ _ hnl5
    have hol9 := E59 _ _ hol
    obtain ⟨f1, f2, f3⟩ := fullS_ok h6 hn6
    obtain ⟨g1, g2, g3⟩ := fullS_ok o6 on6
    obtain ⟨p1, p2⟩ := badP_ok f1 f2 f3 (drw ds 10)
    obtain ⟨p3, p4⟩ := badP_ok g1 g2 g3 (drw ds 13)
    refine q_forF ((exn_lst (ds := [.str (badP (fullS r) (drw ds 10)), .str (badP (fullS o) (drw ds 13)), td]) (exs_cons (ex_of (ev_call (ea_cons (ev_var rfl) (ea_cons (ev_call (ea_cons (ev_var rfl) (ea_cons ev_c ea_nil)) (spDraw_v (sq_of hb9) rfl)) ea_nil)) (spBdP_v hnl9 h6 hn6)) (.str _)) (exs_cons (ex_of (ev_call (ea_cons (ev_var rfl) (ea_cons (ev_call (ea_cons (ev_var rfl) (ea_cons ev_c ea_nil)) (spDraw_v (sq_of hb9) rfl)) ea_nil)) (spBdP_v hol9 o6 on6)) (.str _)) (exs_cons (ex_var rfl htv) exs_nil))) (by show 3 ≤ 100000; decide)) H9 (Ex.refl H9) _ fun lp xs H10 np10 e10 hlp hxs => ?_)
    refine fol_x hlp (dxa_mono (ov_ex (Ex.refl H9) e10) _ _ hxs) (fun σ' => ∃ y7 : Option V, σ' = [some (.ref a), some (.ref b), some (.ref nl), some (.ref ol), some (.str (joinP r)), some (.ref tl), some tv, y7, none]) ⟨none, rfl⟩ (fun x d σ' H11 e11 hd hx hσ => ?_) (fun σ' H11 e11 hσ => ?_)
    · obtain ⟨y7, rfl⟩ := hσ
      have hbad : splitD d = none ∧ Okd 8 d := by
        rcases List.mem_cons.mp hd with rfl | hd
        · exact ⟨p1, .str p2⟩
        rcases List.mem_cons.mp hd with rfl | hd
        · exact ⟨p3, .str p4⟩
        rw [List.mem_singleton.mp hd]
        exact ⟨td1, td2⟩
      have okp : Okd 8 (.str (joinP r)) := .str (joinP_len2 h6 hn6)
      have srV : SpV (spSR K) [x] H11 (.bl true) := fun H1 e Q q E => ⟨x, d, rfl, dx_mono e _ _ hx, hbad.2, hbad.1, fun H2 e2 => q H2 e2⟩
      have wr1 : SpV (spWR K) [x, .str (joinP r)] H11 (.bl true) := fun H1 e Q q E => ⟨x, _, d, .str (joinP r), rfl, dx_mono e _ _ hx, hbad.2, .str _, okp, .inl hbad.1, fun H2 e2 => q H2 e2⟩
      have wr2 : SpV (spWR K) [.str (joinP r), x] H11 (.bl true) := fun H1 e Q q E => ⟨_, x, .str (joinP r), d, rfl, .str _, okp, dx_mono e _ _ hx, hbad.2, .inr hbad.1, fun H2 e2 => q H2 e2⟩
      exact s_if (b := false) (et_is (et_or (a := false) (b := false) (et_is (et_not (et_B (ev_call (ea_cons (ev_var rfl) ea_nil) srV))) rfl) (fun _ => et_is (et_or (a := false) (b := false) (et_is (et_not (et_B (ev_call (ea_cons (ev_var rfl) (ea_cons (ev_var rfl) ea_nil)) wr1))) rfl) (fun _ => et_is (et_not (et_B (ev_call (ea_cons (ev_var rfl) (ea_cons (ev_var rfl) ea_nil)) wr2))) rfl)) rfl)) rfl) (fun hb => nomatch hb) (fun _ H12 e12 => ⟨⟨_, rfl⟩, e11.trans e12⟩)
    · obtain ⟨y7, rfl⟩ := hσ
      have hnl11 := (e10.trans e11) _ _ hnl9
      have hol11 := (e10.trans e11) _ _ hol9
      have hb11 := (e10.trans e11) _ _ hb9
      obtain ⟨j1, j2⟩ := badJ_ok f1 f2 f3 (drw ds 11)
      obtain ⟨j3, j4⟩ := badJ_ok g1 g2 g3 (drw ds 14)
      refine q_forF (goL (go_cons' (go_call (go_cons (ev_var rfl) fun H12 e12 => go_cons (ev_call (ea_cons (ev_var rfl) (ea_cons ev_c ea_nil)) (spDraw_v (sq_of (e12 _ _ hb11)) rfl)) fun H13 e13 => go_nil ⟨nl, r, _, rfl, (e12.trans e13) _ _ hnl11, h6, hn6, fun v H14 e14 hv => ?_⟩))))
      have E14 := (e12.trans e13).trans e14
      refine go_cons' (go_call (go_cons (ev_var rfl) fun H15 e15 => go_cons (ev_call (ea_cons (ev_var rfl) (ea_cons ev_c ea_nil)) (spDraw_v (sq_of ((E14.trans e15) _ _ hb11)) rfl)) fun H16 e16 => go_nil ⟨ol, o, _, rfl, (E14.trans (e15.trans e16)) _ _ hol11, o6, on6, fun u H17 e17 hu => ?_⟩))
      refine go_nil ⟨sz_of (by show 2 ≤ 100000; decide), fun lq hlq => ?_⟩
      have eq17 : Ex H17 (upd H17 lq (.lst [v, u])) := Ex.new hlq
      refine fol_x (p := lq) (xs := [v, u]) (ds := [badJ (fullS r) (drw ds 11), badJ (fullS o) (drw ds 14)]) upd_same (.cons (dx_mono (((e15.trans e16).trans e17).trans eq17) _ _ hv) (.cons (dx_mono eq17 _ _ hu) .nil)) (fun σ' => ∃ y7 y8 : Option V, σ' = [some (.ref a), some (.ref b), some (.ref nl), some (.ref ol), some (.str (joinP r)), some (.ref tl), some tv, y7, y8]) ⟨_, _, rfl⟩ (fun x d σ' H18 e18 hd hx hσ => ?_) (fun σ' H18 e18 hσ => ?_)
      · obtain ⟨y7, y8, rfl⟩ := hσ
        have hbad : joinD d = none ∧ FlatOk d := by
          rcases List.mem_cons.mp hd with rfl | hd
          · exact ⟨j1, j2⟩
          rw [List.mem_singleton.mp hd]
          exact ⟨j3, j4⟩
        have jrV : SpV (spJR K) [x] H18 (.bl true) := fun H1 e Q q E => ⟨x, d, rfl, dx_mono e _ _ hx, hbad.2, hbad.1, fun H2 e2 => q H2 e2⟩
        exact s_if (b := false) (et_is (et_not (et_B (ev_call (ea_cons (ev_var rfl) ea_nil) jrV))) rfl) (fun hb => nomatch hb) (fun _ H19 e19 => ⟨⟨_, _, rfl⟩, e18.trans e19⟩)
      · obtain ⟨y7, y8, rfl⟩ := hσ
        have E18 := (E14.trans ((e15.trans e16).trans e17)).trans (eq17.trans e18)
        have hnl18 := E18 _ _ hnl11
        have hol18 := E18 _ _ hol11
        exact s_ret (ev_andV (a := true) (b := true) (ev_call (ea_cons (ev_var rfl) ea_nil) (bothV hnl18 h6 hn6)) (fun _ => ev_call (ea_cons (ev_var rfl) (ea_cons (ev_var rfl) ea_nil)) (withV hol18 o6 on6 hnl18 h6 hn6))) (fun H19 e19 => q H19)
theorem ok_law {C_HallError C_BadCommand C_BadValue C_BadWords C_Unknown f f__is_name f__are_names f_split_path f_join_path f_is_within f__law_stream f__law_draw f__law_good f__law_name f__law_near f__law_names f__law_text_is f__law_truth f__law_list_is f__law_both_ways f__law_within f__law_bad_path f__law_split_raises f__law_join_raises f__law_within_raises f__law_spoilt_name f__law_spoilt_path f__law_spoilt_names f__law_second C_BadPath B_BadPath : Addr} {fd fd__is_name fd__are_names fd_split_path fd_join_path fd_is_within fd__law_stream fd__law_draw fd__law_good fd__law_name fd__law_near fd__law_names fd__law_text_is fd__law_truth fd__law_list_is fd__law_both_ways fd__law_within fd__law_bad_path fd__law_split_raises fd__law_join_raises fd__law_within_raises fd__law_spoilt_name fd__law_spoilt_path fd__law_spoilt_names fd__law_second : FuncData} {t_NAMES_MOST t__ROOT t__NAME_MOST t__NAME_CHARS : Tok} (F : Fun K "law" "law" s_law f fd)
    (D__is_name : Df K mg "_is_name" s__is_name ["thing"] f__is_name fd__is_name)
    (D__are_names : Df K mg "_are_names" s__are_names ["things"] f__are_names fd__are_names)
    (D_split_path : Df K mg "split_path" s_split_path ["path"] f_split_path fd_split_path)
    (D_join_path : Df K mg "join_path" s_join_path ["names"] f_join_path fd_join_path)
    (D_is_within : Df K mg "is_within" s_is_within ["path", "other"] f_is_within fd_is_within)
    (D__law_stream : Df K mg "_law_stream" s__law_stream ["script", "many"] f__law_stream fd__law_stream)
    (D__law_draw : Df K mg "_law_draw" s__law_draw ["draws", "k"] f__law_draw fd__law_draw)
    (D__law_good : Df K mg "_law_good" s__law_good ["name"] f__law_good fd__law_good)
    (D__law_name : Df K mg "_law_name" s__law_name ["draw"] f__law_name fd__law_name)
    (D__law_near : Df K mg "_law_near" s__law_near ["name", "draw"] f__law_near fd__law_near)
    (D__law_names : Df K mg "_law_names" s__law_names ["draws", "at"] f__law_names fd__law_names)
    (D__law_text_is : Df K mg "_law_text_is" s__law_text_is ["actual", "due"] f__law_text_is fd__law_text_is)
    (D__law_truth : Df K mg "_law_truth" s__law_truth ["actual", "due"] f__law_truth fd__law_truth)
    (D__law_list_is : Df K mg "_law_list_is" s__law_list_is ["actual", "due"] f__law_list_is fd__law_list_is)
    (D__law_both_ways : Df K mg "_law_both_ways" s__law_both_ways ["names"] f__law_both_ways fd__law_both_ways)
    (D__law_within : Df K mg "_law_within" s__law_within ["names", "other"] f__law_within fd__law_within)
    (D__law_bad_path : Df K mg "_law_bad_path" s__law_bad_path ["e"] f__law_bad_path fd__law_bad_path)
    (D__law_split_raises : Df K mg "_law_split_raises" s__law_split_raises ["thing"] f__law_split_raises fd__law_split_raises)
    (D__law_join_raises : Df K mg "_law_join_raises" s__law_join_raises ["thing"] f__law_join_raises fd__law_join_raises)
    (D__law_within_raises : Df K mg "_law_within_raises" s__law_within_raises ["path", "other"] f__law_within_raises fd__law_within_raises)
    (D__law_spoilt_name : Df K mg "_law_spoilt_name" s__law_spoilt_name ["name", "draw"] f__law_spoilt_name fd__law_spoilt_name)
    (D__law_spoilt_path : Df K mg "_law_spoilt_path" s__law_spoilt_path ["names", "draw"] f__law_spoilt_path fd__law_spoilt_path)
    (D__law_spoilt_names : Df K mg "_law_spoilt_names" s__law_spoilt_names ["names", "draw"] f__law_spoilt_names fd__law_spoilt_names)
    (D__law_second : Df K mg "_law_second" s__law_second ["names", "draws"] f__law_second fd__law_second)
    (c_NAMES_MOST : mg "NAMES_MOST" = some (.int 6 t_NAMES_MOST)) (c__ROOT : mg "_ROOT" = some (.str "/" t__ROOT)) (c__NAME_MOST : mg "_NAME_MOST" = some (.int 12 t__NAME_MOST)) (c__NAME_CHARS : mg "_NAME_CHARS" = some (.str ".-abcdefghijklmnopqrstuvwxyz0123456789" t__NAME_CHARS))
    (E_BadPath : Err K mg "BadPath" C_BadPath B_BadPath)
    (g_HallError : mg "HallError" = some (.ref C_HallError)) (M_BadPath : PySem.W.exmOne K (.ref C_BadPath) (.ref C_HallError) = some true) (g_BadCommand : mg "BadCommand" = some (.ref C_BadCommand)) (g_BadValue : mg "BadValue" = some (.ref C_BadValue)) (g_BadWords : mg "BadWords" = some (.ref C_BadWords)) (g_Unknown : mg "Unknown" = some (.ref C_Unknown)) (kk : PySem.W.kitAny K (.ref C_BadPath) [.ref C_BadCommand, .ref C_BadValue, .ref C_BadWords, .ref C_Unknown] = some false)
     (T : Glo mg) : FnOk P w K mg base CX0 10 f fd ["script"] (spLaw K) := by
  have G__is_name : FnOk P w K mg base CX0 1 f__is_name fd__is_name _ _ := ok_is_name D__is_name.F c__NAME_MOST c__NAME_CHARS T
  have G__are_names : FnOk P w K mg base CX0 2 f__are_names fd__are_names _ _ := ok_are_names (tM := t__NAME_MOST) (tC := t__NAME_CHARS) D__are_names.F D__is_name G__is_name c_NAMES_MOST T
  have G_split_path : FnOk P w K mg base (L2.CX P w) 3 f_split_path fd_split_path _ _ := ok_split (tN := t_NAMES_MOST) D_split_path.F D__are_names G__are_names E_BadPath c__ROOT T
  have G_join_path : FnOk P w K mg base (L2.CX P w) 3 f_join_path fd_join_path _ _ := ok_join (tN := t_NAMES_MOST) D_join_path.F D__are_names G__are_names E_BadPath c__ROOT T
  have G_is_within : FnOk P w K mg base (L2.CX P w) 4 f_is_within fd_is_within _ _ := ok_within D_is_within.F D_split_path G_split_path T
  have G__law_stream : FnOk P w K mg base CX0 1 f__law_stream fd__law_stream _ _ := ok_streamW (k := 0) D__law_stream.F T
  have G__law_draw : FnOk P w K mg base CX0 1 f__law_draw fd__law_draw _ _ := ok_draw (k := 0) D__law_draw.F T
  have G__law_good : FnOk P w K mg base CX0 1 f__law_good fd__law_good _ _ := ok_good (k := 0) D__law_good.F T
  have G__law_name : FnOk P w K mg base CX0 2 f__law_name fd__law_name _ _ := ok_name D__law_name.F D__law_good G__law_good T
  have G__law_near : FnOk P w K mg base CX0 2 f__law_near fd__law_near _ _ := ok_near D__law_near.F D__law_good G__law_good T
  have G__law_names : FnOk P w K mg base CX0 3 f__law_names fd__law_names _ _ := ok_names D__law_names.F D__law_name G__law_name D__law_near G__law_near D__law_draw G__law_draw T
  have G__law_text_is : FnOk P w K mg base CX0 1 f__law_text_is fd__law_text_is _ _ := ok_text_is D__law_text_is.F T
  have G__law_truth : FnOk P w K mg base CX0 1 f__law_truth fd__law_truth _ _ := ok_truth D__law_truth.F T
  have G__law_list_is : FnOk P w K mg base CX0 2 f__law_list_is fd__law_list_is _ _ := ok_list_is D__law_list_is.F D__law_text_is G__law_text_is T
  have G__law_both_ways : FnOk P w K mg base CX0 5 f__law_both_ways fd__law_both_ways _ _ := ok_both D__law_both_ways.F D__law_text_is G__law_text_is D__law_list_is G__law_list_is D_join_path G_join_path D_split_path G_split_path T
  have G__law_within : FnOk P w K mg base CX0 6 f__law_within fd__law_within _ _ := ok_lawin D__law_within.F D__law_truth G__law_truth D_is_within G_is_within T
  have G__law_bad_path : FnE P w K mg base C_BadPath 1 f__law_bad_path fd__law_bad_path _ _ := ok_badpath D__law_bad_path.F E_BadPath g_BadCommand g_BadValue g_BadWords g_Unknown kk T
  have G__law_split_raises : FnOk P w K mg base CX0 5 f__law_split_raises fd__law_split_raises _ _ := ok_splitr D__law_split_raises.F D_split_path G_split_path E_BadPath g_HallError M_BadPath D__law_bad_path G__law_bad_path T
  have G__law_join_raises : FnOk P w K mg base CX0 5 f__law_join_raises fd__law_join_raises _ _ := ok_joinr D__law_join_raises.F D_join_path G_join_path E_BadPath g_HallError M_BadPath D__law_bad_path G__law_bad_path T
  have G__law_within_raises : FnOk P w K mg base CX0 6 f__law_within_raises fd__law_within_raises _ _ := ok_withinr D__law_within_raises.F D_is_within G_is_within E_BadPath g_HallError M_BadPath D__law_bad_path G__law_bad_path T
  have G__law_spoilt_name : FnOk P w K mg base CX0 2 f__law_spoilt_name fd__law_spoilt_name _ _ := ok_spname D__law_spoilt_name.F T
  have G__law_spoilt_path : FnOk P w K mg base CX0 4 f__law_spoilt_path fd__law_spoilt_path _ _ := ok_sppath D__law_spoilt_path.F D__law_spoilt_name G__law_spoilt_name T
  have G__law_spoilt_names : FnOk P w K mg base CX0 4 f__law_spoilt_names fd__law_spoilt_names _ _ := ok_spnames D__law_spoilt_names.F D__law_spoilt_name G__law_spoilt_name T
  have G__law_second : FnOk P w K mg base CX0 4 f__law_second fd__law_second _ _ := ok_second D__law_second.F D__law_draw G__law_draw D__law_near G__law_near D__law_good G__law_good D__law_name G__law_name T
  exact ok_lawG F D__law_stream G__law_stream D__law_draw G__law_draw D__law_names G__law_names D__law_second G__law_second D__law_both_ways G__law_both_ways D__law_within G__law_within D__law_spoilt_path G__law_spoilt_path D__law_spoilt_names G__law_spoilt_names D__law_split_raises G__law_split_raises D__law_within_raises G__law_within_raises D__law_join_raises G__law_join_raises T
end
open He (ga ma eqO eqO_ok)
theorem factsOk {P : Program} {w : World} {K : PySem.W.Frag} {h : Heap} {mg : Str → Option Value} {fa : Addr} (KX : K.In h) (G : h.Ns mainGlobals mg) (hmg : mg "law" = some (.ref fa)) (c : obF0 K = vaF0) :
    ∃ fd : FuncData, (∀ (s : Shared) (v : Value), BindsTo s fd ⟨[v], []⟩ [("script", v)]) ∧ ∀ base : Heap, FnOk P w K mg base CX0 10 fa fd ["script"] (spLaw K) := by
  have cF0 : obF0 K = vaF0 := c
  have z0 : factsF0 K = true := congrArg Prod.fst cF0
  have y0 : [fnV K (ga K "_is_name"), fnV K (ga K "_are_names"), fnV K (ga K "split_path"), fnV K (ga K "join_path"), fnV K (ga K "is_within"), fnV K (ga K "_law_stream"), fnV K (ga K "_law_draw"), fnV K (ga K "_law_good"), fnV K (ga K "_law_name"), fnV K (ga K "_law_near"), fnV K (ga K "_law_names"), fnV K (ga K "_law_text_is"), fnV K (ga K "_law_truth"), fnV K (ga K "_law_list_is"), fnV K (ga K "_law_both_ways"), fnV K (ga K "_law_within"), fnV K (ga K "_law_bad_path"), fnV K (ga K "_law_split_raises"), fnV K (ga K "_law_join_raises"), fnV K (ga K "_law_within_raises"), fnV K (ga K "_law_spoilt_name"), fnV K (ga K "_law_spoilt_path"), fnV K (ga K "_law_spoilt_names"), fnV K (ga K "_law_second"), fnV K (ga K "law")] = [fnD "_is_name" "_is_name" (hS 16), fnD "_are_names" "_are_names" (hS 15), fnD "split_path" "split_path" (hS 12), fnD "join_path" "join_path" (hS 13), fnD "is_within" "is_within" (hS 14), fnD "_law_stream" "_law_stream" (hS 18), fnD "_law_draw" "_law_draw" (hS 19), fnD "_law_good" "_law_good" (hS 20), fnD "_law_name" "_law_name" (hS 21), fnD "_law_near" "_law_near" (hS 22), fnD "_law_names" "_law_names" (hS 23), fnD "_law_text_is" "_law_text_is" (hS 32), fnD "_law_truth" "_law_truth" (hS 35), fnD "_law_list_is" "_law_list_is" (hS 33), fnD "_law_both_ways" "_law_both_ways" (hS 34), fnD "_law_within" "_law_within" (hS 36), fnD "_law_bad_path" "_law_bad_path" (hS 24), fnD "_law_split_raises" "_law_split_raises" (hS 25), fnD "_law_join_raises" "_law_join_raises" (hS 26), fnD "_law_within_raises" "_law_within_raises" (hS 27), fnD "_law_spoilt_name" "_law_spoilt_name" (hS 28), fnD "_law_spoilt_path" "_law_spoilt_path" (hS 29), fnD "_law_spoilt_names" "_law_spoilt_names" (hS 30), fnD "_law_second" "_law_second" (hS 31), fnD "law" "law" (hS 37)] := congrArg Prod.snd cF0
  unfold factsF0 at z0
  obtain ⟨hE_BadPath, z0⟩ := He.ba z0
  obtain ⟨hk1, z0⟩ := He.ba z0
  obtain ⟨hk2, z0⟩ := He.ba z0
  obtain ⟨hk3, z0⟩ := He.ba z0
  obtain ⟨hk4, z0⟩ := He.ba z0
  obtain ⟨hk5, z0⟩ := He.ba z0
  obtain ⟨hk6, z0⟩ := He.ba z0
  obtain ⟨hk7, z0⟩ := He.ba z0
  obtain ⟨hC_NAMES_MOST, z0⟩ := He.ba z0
  obtain ⟨hC__ROOT, z0⟩ := He.ba z0
  obtain ⟨hC__NAME_MOST, z0⟩ := He.ba z0
  obtain ⟨hC__NAME_CHARS, z0⟩ := He.ba z0
  obtain ⟨h__is_name, z0⟩ := He.ba z0
  obtain ⟨h__are_names, z0⟩ := He.ba z0
  obtain ⟨h_split_path, z0⟩ := He.ba z0
  obtain ⟨h_join_path, z0⟩ := He.ba z0
  obtain ⟨h_is_within, z0⟩ := He.ba z0
  obtain ⟨h__law_stream, z0⟩ := He.ba z0
  obtain ⟨h__law_draw, z0⟩ := He.ba z0
  obtain ⟨h__law_good, z0⟩ := He.ba z0
  obtain ⟨h__law_name, z0⟩ := He.ba z0
  obtain ⟨h__law_near, z0⟩ := He.ba z0
  obtain ⟨h__law_names, z0⟩ := He.ba z0
  obtain ⟨h__law_text_is, z0⟩ := He.ba z0
  obtain ⟨h__law_truth, z0⟩ := He.ba z0
  obtain ⟨h__law_list_is, z0⟩ := He.ba z0
  obtain ⟨h__law_both_ways, z0⟩ := He.ba z0
  obtain ⟨h__law_within, z0⟩ := He.ba z0
  obtain ⟨h__law_bad_path, z0⟩ := He.ba z0
  obtain ⟨h__law_split_raises, z0⟩ := He.ba z0
  obtain ⟨h__law_join_raises, z0⟩ := He.ba z0
  obtain ⟨h__law_within_raises, z0⟩ := He.ba z0
  obtain ⟨h__law_spoilt_name, z0⟩ := He.ba z0
  obtain ⟨h__law_spoilt_path, z0⟩ := He.ba z0
  obtain ⟨h__law_spoilt_names, z0⟩ := He.ba z0
  obtain ⟨h__law_second, z0⟩ := He.ba z0
  obtain ⟨h_law, z0⟩ := He.ba z0
  obtain ⟨hF_len, z0⟩ := He.ba z0
  obtain ⟨hF_int, z0⟩ := He.ba z0
  obtain ⟨hF_range, z0⟩ := He.ba z0
  obtain ⟨hF_isinstance, z0⟩ := He.ba z0
  obtain ⟨hF_bool, z0⟩ := He.ba z0
  obtain ⟨hF_tuple, z0⟩ := He.ba z0
  obtain ⟨hF_list, z0⟩ := He.ba z0
  obtain ⟨hF_str, z0⟩ := He.ba z0
  obtain ⟨hF_all, z0⟩ := He.ba z0
  have hF_ValueError := z0
  obtain ⟨e__is_name, y0⟩ := List.cons.inj y0
  obtain ⟨e__are_names, y0⟩ := List.cons.inj y0
  obtain ⟨e_split_path, y0⟩ := List.cons.inj y0
  obtain ⟨e_join_path, y0⟩ := List.cons.inj y0
  obtain ⟨e_is_within, y0⟩ := List.cons.inj y0
  obtain ⟨e__law_stream, y0⟩ := List.cons.inj y0
  obtain ⟨e__law_draw, y0⟩ := List.cons.inj y0
  obtain ⟨e__law_good, y0⟩ := List.cons.inj y0
  obtain ⟨e__law_name, y0⟩ := List.cons.inj y0
  obtain ⟨e__law_near, y0⟩ := List.cons.inj y0
  obtain ⟨e__law_names, y0⟩ := List.cons.inj y0
  obtain ⟨e__law_text_is, y0⟩ := List.cons.inj y0
  obtain ⟨e__law_truth, y0⟩ := List.cons.inj y0
  obtain ⟨e__law_list_is, y0⟩ := List.cons.inj y0
  obtain ⟨e__law_both_ways, y0⟩ := List.cons.inj y0
  obtain ⟨e__law_within, y0⟩ := List.cons.inj y0
  obtain ⟨e__law_bad_path, y0⟩ := List.cons.inj y0
  obtain ⟨e__law_split_raises, y0⟩ := List.cons.inj y0
  obtain ⟨e__law_join_raises, y0⟩ := List.cons.inj y0
  obtain ⟨e__law_within_raises, y0⟩ := List.cons.inj y0
  obtain ⟨e__law_spoilt_name, y0⟩ := List.cons.inj y0
  obtain ⟨e__law_spoilt_path, y0⟩ := List.cons.inj y0
  obtain ⟨e__law_spoilt_names, y0⟩ := List.cons.inj y0
  obtain ⟨e__law_second, y0⟩ := List.cons.inj y0
  obtain ⟨e_law, y0⟩ := List.cons.inj y0
  obtain ⟨E_BadPath, g_BadPath_HallError, n_BadPath⟩ := hf_err KX G hE_BadPath
  have g_HallError := PySem.W.mg_of KX G (hf_g hk1)
  have M_BadPath := of_decide_eq_true hk2
  have g_BadCommand := PySem.W.mg_of KX G (hf_g hk3)
  have g_BadValue := PySem.W.mg_of KX G (hf_g hk4)
  have g_BadWords := PySem.W.mg_of KX G (hf_g hk5)
  have g_Unknown := PySem.W.mg_of KX G (hf_g hk6)
  have kk := of_decide_eq_true hk7
  obtain ⟨t_NAMES_MOST, c_NAMES_MOST⟩ := hf_int KX G hC_NAMES_MOST
  obtain ⟨t__ROOT, c__ROOT⟩ := hf_str KX G hC__ROOT
  obtain ⟨t__NAME_MOST, c__NAME_MOST⟩ := hf_int KX G hC__NAME_MOST
  obtain ⟨t__NAME_CHARS, c__NAME_CHARS⟩ := hf_str KX G hC__NAME_CHARS
  obtain ⟨f__is_name, fd__is_name, D__is_name⟩ := hf_df (st := s__is_name) (ps := ["thing"]) KX G h__is_name e__is_name (fun _ _ _ _ _ _ us hl => match us, hl with | [_], _ => rfl)
  obtain ⟨f__are_names, fd__are_names, D__are_names⟩ := hf_df (st := s__are_names) (ps := ["things"]) KX G h__are_names e__are_names (fun _ _ _ _ _ _ us hl => match us, hl with | [_], _ => rfl)
  obtain ⟨f_split_path, fd_split_path, D_split_path⟩ := hf_df (st := s_split_path) (ps := ["path"]) KX G h_split_path e_split_path (fun _ _ _ _ _ _ us hl => match us, hl with | [_], _ => rfl)
  obtain ⟨f_join_path, fd_join_path, D_join_path⟩ := hf_df (st := s_join_path) (ps := ["names"]) KX G h_join_path e_join_path (fun _ _ _ _ _ _ us hl => match us, hl with | [_], _ => rfl)
  obtain ⟨f_is_within, fd_is_within, D_is_within⟩ := hf_df (st := s_is_within) (ps := ["path", "other"]) KX G h_is_within e_is_within (fun _ _ _ _ _ _ us hl => match us, hl with | [_, _], _ => rfl)
  obtain ⟨f__law_stream, fd__law_stream, D__law_stream⟩ := hf_df (st := s__law_stream) (ps := ["script", "many"]) KX G h__law_stream e__law_stream (fun _ _ _ _ _ _ us hl => match us, hl with | [_, _], _ => rfl)
  obtain ⟨f__law_draw, fd__law_draw, D__law_draw⟩ := hf_df (st := s__law_draw) (ps := ["draws", "k"]) KX G h__law_draw e__law_draw (fun _ _ _ _ _ _ us hl => match us, hl with | [_, _], _ => rfl)
  obtain ⟨f__law_good, fd__law_good, D__law_good⟩ := hf_df (st := s__law_good) (ps := ["name"]) KX G h__law_good e__law_good (fun _ _ _ _ _ _ us hl => match us, hl with | [_], _ => rfl)
  obtain ⟨f__law_name, fd__law_name, D__law_name⟩ := hf_df (st := s__law_name) (ps := ["draw"]) KX G h__law_name e__law_name (fun _ _ _ _ _ _ us hl => match us, hl with | [_], _ => rfl)
  obtain ⟨f__law_near, fd__law_near, D__law_near⟩ := hf_df (st := s__law_near) (ps := ["name", "draw"]) KX G h__law_near e__law_near (fun _ _ _ _ _ _ us hl => match us, hl with | [_, _], _ => rfl)
  obtain ⟨f__law_names, fd__law_names, D__law_names⟩ := hf_df (st := s__law_names) (ps := ["draws", "at"]) KX G h__law_names e__law_names (fun _ _ _ _ _ _ us hl => match us, hl with | [_, _], _ => rfl)
  obtain ⟨f__law_text_is, fd__law_text_is, D__law_text_is⟩ := hf_df (st := s__law_text_is) (ps := ["actual", "due"]) KX G h__law_text_is e__law_text_is (fun _ _ _ _ _ _ us hl => match us, hl with | [_, _], _ => rfl)
  obtain ⟨f__law_truth, fd__law_truth, D__law_truth⟩ := hf_df (st := s__law_truth) (ps := ["actual", "due"]) KX G h__law_truth e__law_truth (fun _ _ _ _ _ _ us hl => match us, hl with | [_, _], _ => rfl)
  obtain ⟨f__law_list_is, fd__law_list_is, D__law_list_is⟩ := hf_df (st := s__law_list_is) (ps := ["actual", "due"]) KX G h__law_list_is e__law_list_is (fun _ _ _ _ _ _ us hl => match us, hl with | [_, _], _ => rfl)
  obtain ⟨f__law_both_ways, fd__law_both_ways, D__law_both_ways⟩ := hf_df (st := s__law_both_ways) (ps := ["names"]) KX G h__law_both_ways e__law_both_ways (fun _ _ _ _ _ _ us hl => match us, hl with | [_], _ => rfl)
  obtain ⟨f__law_within, fd__law_within, D__law_within⟩ := hf_df (st := s__law_within) (ps := ["names", "other"]) KX G h__law_within e__law_within (fun _ _ _ _ _ _ us hl => match us, hl with | [_, _], _ => rfl)
  obtain ⟨f__law_bad_path, fd__law_bad_path, D__law_bad_path⟩ := hf_df (st := s__law_bad_path) (ps := ["e"]) KX G h__law_bad_path e__law_bad_path (fun _ _ _ _ _ _ us hl => match us, hl with | [_], _ => rfl)
  obtain ⟨f__law_split_raises, fd__law_split_raises, D__law_split_raises⟩ := hf_df (st := s__law_split_raises) (ps := ["thing"]) KX G h__law_split_raises e__law_split_raises (fun _ _ _ _ _ _ us hl => match us, hl with | [_], _ => rfl)
  obtain ⟨f__law_join_raises, fd__law_join_raises, D__law_join_raises⟩ := hf_df (st := s__law_join_raises) (ps := ["thing"]) KX G h__law_join_raises e__law_join_raises (fun _ _ _ _ _ _ us hl => match us, hl with | [_], _ => rfl)
  obtain ⟨f__law_within_raises, fd__law_within_raises, D__law_within_raises⟩ := hf_df (st := s__law_within_raises) (ps := ["path", "other"]) KX G h__law_within_raises e__law_within_raises (fun _ _ _ _ _ _ us hl => match us, hl with | [_, _], _ => rfl)
  obtain ⟨f__law_spoilt_name, fd__law_spoilt_name, D__law_spoilt_name⟩ := hf_df (st := s__law_spoilt_name) (ps := ["name", "draw"]) KX G h__law_spoilt_name e__law_spoilt_name (fun _ _ _ _ _ _ us hl => match us, hl with | [_, _], _ => rfl)
  obtain ⟨f__law_spoilt_path, fd__law_spoilt_path, D__law_spoilt_path⟩ := hf_df (st := s__law_spoilt_path) (ps := ["names", "draw"]) KX G h__law_spoilt_path e__law_spoilt_path (fun _ _ _ _ _ _ us hl => match us, hl with | [_, _], _ => rfl)
  obtain ⟨f__law_spoilt_names, fd__law_spoilt_names, D__law_spoilt_names⟩ := hf_df (st := s__law_spoilt_names) (ps := ["names", "draw"]) KX G h__law_spoilt_names e__law_spoilt_names (fun _ _ _ _ _ _ us hl => match us, hl with | [_, _], _ => rfl)
  obtain ⟨f__law_second, fd__law_second, D__law_second⟩ := hf_df (st := s__law_second) (ps := ["names", "draws"]) KX G h__law_second e__law_second (fun _ _ _ _ _ _ us hl => match us, hl with | [_, _], _ => rfl)
  obtain ⟨fd, hb, F⟩ := hf_law (st := s_law) KX G hmg h_law e_law (fun _ _ _ _ _ _ _ _ => .of_eq rfl)
  exact ⟨fd, hb, fun base => ok_law F D__is_name D__are_names D_split_path D_join_path D_is_within D__law_stream D__law_draw D__law_good D__law_name D__law_near D__law_names D__law_text_is D__law_truth D__law_list_is D__law_both_ways D__law_within D__law_bad_path D__law_split_raises D__law_join_raises D__law_within_raises D__law_spoilt_name D__law_spoilt_path D__law_spoilt_names D__law_second c_NAMES_MOST c__ROOT c__NAME_MOST c__NAME_CHARS E_BadPath g_HallError M_BadPath g_BadCommand g_BadValue g_BadWords g_Unknown kk ⟨hf_free KX G hF_len, hf_free KX G hF_int, hf_free KX G hF_range, hf_free KX G hF_isinstance, hf_free KX G hF_bool, hf_free KX G hF_tuple, hf_free KX G hF_list, hf_free KX G hF_str, hf_free KX G hF_all, hf_free KX G hF_ValueError⟩⟩
end Ap
open PySem PySem.W PyProof.Rows
set_option maxHeartbeats 0 in
theorem PySem.Challenge.cw_appendhall_k25_paths_both_ways_holds : PySem.Challenge.rw_appendhall_k25_paths_both_ways.Holds := by
  w_on; o_law
  refine HandSHeadRun.head_any (r := OpenLaw.row PySem.Challenge.rw_appendhall_k25_paths_both_ways) (q := Ap.hQ) (H := Ap.hkF Ap.asL Ap.obF0 Ap.vaF0) (ob := fun s => Ap.obF0 (He.frG (HandSHeadRun.getT s) Ap.asL)) (M := 60000) (loose := Ap.looseN) (d := HandSHeadRun.topDef (OpenLaw.row PySem.Challenge.rw_appendhall_k25_paths_both_ways).prog 37) (kwd := []) Ap.hkF_eq
    (by kernel_rfl) (fun s => by kernel_rfl) Ap.runF0 (by kernel_rfl) (by kernel_rfl) (by kernel_rfl) (by rfl) (by first | assumption | decide +kernel) (by decide +kernel) ⟨rfl, rfl, rfl, rfl, rfl, by decide +kernel⟩ ?hw ?hc
  case hw => w_witness2
  case hc =>
    refine L2.walk_ofE (l := PySem.Challenge.rw_appendhall_k25_paths_both_ways) (n := 63) (k := 10) (x := "script") (CX := L2.CX0) rfl (by decide) (by kernel_rfl) ⟨rfl, by decide, by decide⟩ ?F (fun _ _ _ _ z => z)
    intro w mg fa h Y G hmg0
    obtain ⟨K, KX, c⟩ := Y
    have hmg : mg ("law" : PySem.Str) = some (.ref fa) := by
      have e : (HandSHeadRun.topDef (OpenLaw.row PySem.Challenge.rw_appendhall_k25_paths_both_ways).prog 37).name = ("law" : PySem.Str) := by kernel_rfl
      rw [← e]
      exact hmg0
    obtain ⟨fd, hb, hF⟩ := Ap.factsOk (P := (PySem.Challenge.rw_appendhall_k25_paths_both_ways).prog) (w := w) KX G hmg c
    exact ⟨K, fd, Ap.spLaw K, KX, hb, fun H a ns hl _ hS => ⟨a, ns, rfl, hS, hl, fun _ => rfl⟩, fun base _ _ => hF base⟩
#print axioms PySem.Challenge.cw_appendhall_k25_paths_both_ways_holds
