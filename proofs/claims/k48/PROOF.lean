import PyProof.Rows.All
import Wide.All
import OpenK.AllK
import Wide.FinOn
import HandS.Base
import HandS.Call
import HandS.Ends
import HandS.Words
import HandS.Head0
import HandS.Head1
import HandS.Head2
import HandS.HeadEnd
import HandS.HeadHook1
import HandS.ForMost
import HandS.Evl
import HandS.Walk
import HandS.SortKw
import HandS.DictComp
import HandS.IsInst
import HandS.ForExc
import HandS.TupAny
import HandS.Conv
import HandS.Property
import HandS.ExcIs
import HandS.Deep
import HandS.SetBool
import HandS.SetKeys
import HandS.ClsMeth
import OpenK.KDescr
import HandS.Defaults
import OpenK.KMore
import HandS.Style
import HandS.Lambda
import HandS.TupLe
import HandS.EndTab
import KE.DataMinKey
import PyProof.Walks
import HandS.WordsDict
import KE.DataMinMax
import HandS.Text
import HandS.Wide
import PyProof.StrBlock2
import HandS.HeadWalk
import HandS.More
import HandS.Iter
import PySem.Challenge.RW_appendhall_k48_election_keeps_first_prom
set_option Elab.async false
set_option linter.all false
set_option maxRecDepth 100000
set_option maxHeartbeats 2000000
namespace Ap
open PySem PySem.Spec PyProof.Rows L2
open He (ga ma eqO eqO_ok ba frG frG_in FnV)
def hf_cdB (K : PySem.W.Frag) (f : Addr) (q : Str) : Bool := match K.lookup f with
  | some ⟨_, _, .func fd, _⟩ => PySem.W.codeIn K fd.code q
  | _ => false
def fnV (K : PySem.W.Frag) (f : Addr) : FnV := match K.lookup f with
  | some ⟨_, _, .func fd, _⟩ => some (fd.name, fd.qualname, fd.params, fd.body, fd.scope, fd.globals, fd.closure, fd.defaults, fd.builtins)
  | _ => none
def fnD (x q : Str) (st : Stmt) : FnV := some (x, q, defArgs st, .stmts (defBody st), defScope st, mainGlobals, [], .none, builtinsNs)
theorem hf_fn_got {K : PySem.W.Frag} {f : Addr} {x q : Str} {st : Stmt} (e : fnV K f = fnD x q st) (c : hf_cdB K f q = true) :
    ∃ oc od osl kV doc pm an cdv ct, K.lookup f = some ⟨oc, od, .func (PySem.W.fnOf x q (defArgs st) (defBody st) (defScope st) .none kV doc pm an cdv ct), osl⟩ ∧ PySem.W.codeIn K cdv q = true := by
  have c2 : (match K.lookup f with
    | some ⟨_, _, .func fd, _⟩ => PySem.W.codeIn K fd.code q
    | _ => false) = true := c
  unfold fnV at e
  cases h : K.lookup f with
  | none =>
    rw [h] at c2
    cases c2
  | some o =>
    obtain ⟨oc, od, dt, osl⟩ := o
    rw [h] at c2 e
    cases dt with
    | func fd =>
      obtain ⟨n1, n2, n3, n4, n5, n6, n7, n8, n9, n10, n11, n12, n13, n14, n15⟩ := fd
      have e2 : (some (n1, n2, n3, n4, n5, n6, n7, n8, n15) : FnV) = some (x, q, defArgs st, .stmts (defBody st), defScope st, mainGlobals, [], .none, builtinsNs) := e
      simp only [Option.some.injEq, Prod.mk.injEq] at e2
      obtain ⟨h1, h2, h3, h4, h5, h6, h7, h8, h9⟩ := e2
      subst h1 h2 h3 h4 h5 h6 h7 h8 h9
      exact ⟨oc, od, osl, n9, n10, n11, n12, n13, n14, rfl, c2⟩
    | _ => cases c2
def bG (K : PySem.W.Frag) (x : Str) : Bool := eqO (PySem.W.nsIn K mainGlobals x) (some (some (.ref (ga K x))))
def bFree (K : PySem.W.Frag) (x : Str) : Bool := eqO (PySem.W.nsIn K mainGlobals x) (some none)
def bDf (K : PySem.W.Frag) (x : Str) : Bool := bG K x && (PySem.W.keepIn K (.ref (ga K x)) && hf_cdB K (ga K x) x)
def bKl (K : PySem.W.Frag) (x : Str) : Bool := bG K x && (PySem.W.plainGet K (ga K x) Str.empty && (PySem.W.hasDictIn K (ga K x) && (PySem.W.plainOver K (ga K x) && (eqO (PySem.W.findIn K (.ref (ga K x)) "__setattr__") (some (some (.builtin "object.__setattr__"))) && (PySem.W.makesIn K (ga K x) && PySem.W.keepIn K (.ref (ga K x)))))))
def bNa (K : PySem.W.Frag) (x f : Str) : Bool := eqO (PySem.W.findIn K (.ref (ga K x)) f) (some none)
def bDm (K : PySem.W.Frag) (x m q : Str) : Bool := eqO (PySem.W.findIn K (.ref (ga K x)) m) (some (some (.ref (ma K (ga K x) m)))) && (PySem.W.isFn K (.ref (ma K (ga K x) m)) && (PySem.W.keepIn K (.ref (ma K (ga K x) m)) && hf_cdB K (ma K (ga K x) m) q))
/-- a property's getter, a static method's function: the first field of the record -/
def hf_ra (K : PySem.W.Frag) (p : Addr) (T : String) : Addr := match PySem.W.recIn K p T with
  | some (.ref f :: _) => f
  | _ => 0
def bRec (K : PySem.W.Frag) (p : Addr) (T : String) : Bool := match PySem.W.recIn K p T with
  | some (.ref _ :: _) => true
  | _ => false
theorem hf_rec_got {K : PySem.W.Frag} {p : Addr} {T : String} (h : bRec K p T = true) : ∃ rest, PySem.W.recIn K p T = some (.ref (hf_ra K p T) :: rest) := by
  unfold bRec at h
  unfold hf_ra
  split at h
  · rename_i f rest e
    rw [e]
    exact ⟨rest, rfl⟩
  · cases h
def hf_pa (K : PySem.W.Frag) (x m : Str) : Addr := hf_ra K (ma K (ga K x) m) "property"
def bPr (K : PySem.W.Frag) (x m q : Str) : Bool := eqO (PySem.W.findIn K (.ref (ga K x)) m) (some (some (.ref (ma K (ga K x) m)))) && (eqO (PySem.W.specialIn K (.ref (ma K (ga K x) m)) "__get__") (some (some (.builtin "property.__get__"))) &&
  (decide (PySem.W.takesIn K (.ref (ma K (ga K x) m)) = some true) && (bRec K (ma K (ga K x) m) "property" && (PySem.W.keepIn K (.ref (hf_pa K x m)) && hf_cdB K (hf_pa K x m) q))))
/-- an own error class x beneath y -/
def bErr (K : PySem.W.Frag) (x y : Str) : Bool := bG K x && (bG K y && (PySem.W.keepIn K (.ref (ga K x)) && (PySem.W.excIn K (ga K x) [.type "ValueError", .type "Exception", .type "BaseException", .type "object"] "ValueError.__new__" &&
  (decide (PySem.W.subIn K (.ref (ga K x)) (.type "BaseException") = some true) && (decide (PySem.W.typeIn K (.ref (ga K x)) = some (.type "type")) && (decide (PySem.W.subIn K (.ref (ga K x)) (.ref (ga K x)) = some true) &&
  (eqO (PySem.W.findIn K (.ref (ga K x)) "__getattribute__") (some (some (.builtin "BaseException.__getattribute__"))) && (eqO (PySem.W.findIn K (.ref (ga K x)) "__getattr__") (some none) && (PySem.W.hasDictIn K (ga K x) &&
  (eqO (PySem.W.findIn K (.ref (ga K x)) "__class__") (some (some (.builtin "object.__class__"))) && (eqO (PySem.W.specialIn K (.builtin "object.__class__") "__get__") (some (some (.builtin "getset_descriptor.__get__"))) &&
  (decide (PySem.W.takesIn K (.builtin "object.__class__") = some true) && (decide (PySem.W.mroIn K (ga K x) (.type "object") = some true) && (PySem.W.hasDictIn K (ga K y) && (decide (PySem.W.typeIn K (.ref (ga K y)) = some (.type "type")) &&
  (decide (PySem.W.subIn K (.ref (ga K x)) (.ref (ga K y)) = some true) && decide (PySem.W.subIn K (.ref (ga K x)) (.type "ValueError") = some true)))))))))))))))))
/-- the Hook: the objects at as, read off the run, say ob -/
def hkF {α : Type} (as : List Addr) (ob : PySem.W.Frag → α) (v : α) : PySem.W.Hook where
  α := α
  obs := fun s => ob (frG s.heap.get? as)
  val := fun _ => v
  says := fun _ h => ∃ K : PySem.W.Frag, K.In h ∧ ob K = v
  of := fun _ _ e => ⟨_, frG_in, e⟩
  keeps := fun _ _ _ ⟨K, hK, c⟩ k => ⟨K, PySem.W.Frag.In.keeps hK k, c⟩
theorem hkF_eq {α : Type} {as : List Addr} {ob : PySem.W.Frag → α} {v : α} (s : PySem.W.SharedT) : ob (frG (HandSHeadRun.getT s) as) = (hkF as ob v).obs s.abs := by
  have e : HandSHeadRun.getT s = s.abs.heap.get? := funext (HandSHeadRun.getT_eq s)
  show ob (frG (HandSHeadRun.getT s) as) = ob (frG s.abs.heap.get? as)
  rw [e]
end Ap
set_option Elab.async false
set_option linter.all false
set_option maxRecDepth 100000
set_option maxHeartbeats 2000000
namespace Ap
open PySem PySem.Spec PyProof.Rows L2
open He (ga)
def dropF (K : PySem.W.Frag) (p : Addr) : PySem.W.Frag := K.filter fun x => x.1 != p
def bTb (K : PySem.W.Frag) (p : Addr) : Bool := match K.lookup p with
  | some ⟨.none, none, .fields us, sl⟩ => us.isEmpty && sl.isEmpty
  | _ => false
def bVals (vs : Array Value) (p : Addr) : Bool := (match (vs[11]? : Option Value) with
  | some (Value.ref a) => a == p
  | _ => false) && ((match vs.getD 18 .none with
  | .str _ _ => true
  | _ => false) && ((match vs.getD 7 .none with
  | .int _ _ => true
  | _ => false) && ((match vs.getD 9 .none with
  | .bool _ => true
  | _ => false) && (match vs.getD 10 .none with
  | .int _ _ => true
  | _ => false))))
def bCo (K : PySem.W.Frag) (c p : Addr) : Bool := match K.lookup c with
  | some ⟨.type T, _, .fields vs, _⟩ => T == "code" && (bVals vs p && c != p)
  | _ => false
def bCd (K : PySem.W.Frag) (x : Str) (p : Addr) : Bool := match K.lookup (ga K x) with
  | some ⟨_, _, .func fd, _⟩ => (match fd.code with
    | .ref c => bCo K c p
    | _ => false)
  | _ => false
end Ap
set_option Elab.async false
set_option linter.all false
set_option maxRecDepth 100000
set_option maxHeartbeats 0
namespace Ap
open PySem PySem.Spec PyProof.Rows L2
open He (ga ma eqO)
def hS (i : Nat) : Stmt := PySem.Challenge.pw_appendhall_k48_election_keeps_first_prom.main.body.getD i (.Pass ⟨0, 0, 0, 0⟩)
def asL0 : List Addr := [2, 3, 15, 17, 18, 20, 21, 22, 29, 30, 31, 32, 35, 42, 43, 44, 47, 54, 55, 56, 59, 61, 62, 64, 65, 66, 69, 70, 71, 73, 74, 76, 77, 85, 87, 88, 90, 91, 92, 94]
def asL1 : List Addr := [95, 97, 98, 99, 101, 102, 104, 105, 106, 108, 109, 111, 112, 113, 115, 116, 118, 119, 120, 121, 122, 123, 124, 134, 136, 137, 139, 140, 141, 143, 144, 146, 147, 148, 149, 151, 152, 154, 155, 156]
def asL2 : List Addr := [158, 159, 161, 162, 163, 165, 166, 168, 169, 170, 172, 173, 175, 176, 177, 179, 180, 182, 183, 184, 186, 187, 189, 190, 191, 193, 194, 196, 197, 198, 200, 201, 203, 204, 205, 207, 208, 210, 211, 212]
def asL3 : List Addr := [214, 215, 217, 218, 219, 220, 221, 222, 224, 225, 227, 228, 229, 230, 231, 232, 233, 236, 238, 239, 241, 242, 243, 245, 246, 248, 249, 250, 252, 253, 255, 256, 257, 259, 260, 262, 263, 264, 266, 267]
def asL4 : List Addr := [269, 270, 271, 273, 274, 276, 277, 278, 280, 281, 283, 284, 285, 288, 289, 72]
def asL : List Addr := asL0 ++ asL1 ++ asL2 ++ asL3 ++ asL4
def looseN0 : List PySem.Str := [("_wall" : PySem.Str), ("HallError" : PySem.Str), ("OutOfRange" : PySem.Str), ("TooFew" : PySem.Str), ("majority" : PySem.Str), ("has_majority" : PySem.Str), ("best" : PySem.Str), ("Election" : PySem.Str), ("Log" : PySem.Str), ("_law_stream" : PySem.Str), ("_law_draw" : PySem.Str), ("_law_same" : PySem.Str), ("_law_choice" : PySem.Str), ("_law_due" : PySem.Str), ("_law_holds" : PySem.Str), ("_law_noted" : PySem.Str)]
def looseN : List PySem.Str := looseN0
abbrev hR : PySem.W.OpenRow := PySem.W.OpenLaw.row PySem.Challenge.rw_appendhall_k48_election_keeps_first_prom
abbrev hQ : Program := PySem.W.view hR.prog [21]
def factsF0 (K : PySem.W.Frag) : Bool := (bKl K "Election" && (bNa K "Election" "journals" && (bNa K "Election" "_promises" && (bDm K "Election" "__init__" "Election.__init__" && (bDm K "Election" "note" "Election.note" && (bDm K "Election" "promised" "Election.promised" && (bDm K "Election" "decided" "Election.decided" && (bDm K "Election" "choice" "Election.choice" && (bKl K "Log" && (bNa K "Log" "base" && (bNa K "Log" "image" && (bNa K "Log" "records" && (bDm K "Log" "__init__" "Log.__init__" && (bPr K "Log" "length" "Log.length" && (bDm K "Log" "value" "Log.value" && (bErr K "TooFew" "HallError" && (bErr K "OutOfRange" "HallError" && (PySem.W.hasDictIn K (ga K "OutOfRange") && (decide (PySem.W.typeIn K (.ref (ga K "OutOfRange")) = some (.type "type")) && (decide (PySem.W.subIn K (.ref (ga K "TooFew")) (.ref (ga K "OutOfRange")) = some false) && (((Value.ref (ga K "TooFew")) != Value.ref (ga K "OutOfRange")) && (bDf K "majority" && (bDf K "has_majority" && (bDf K "best" && (bDf K "_law_stream" && (bDf K "_law_draw" && (bDf K "_law_same" && (bDf K "_law_choice" && (bDf K "_law_due" && (bDf K "_law_holds" && (bDf K "_law_noted" && (bDf K "law" && (bFree K "len" && (bFree K "int" && (bFree K "range" && (bFree K "max" && (bFree K "min" && (bFree K "isinstance" && (bFree K "bool" && (bFree K "tuple" && (bFree K "list" && (bFree K "str" && (bFree K "ValueError" && bCd K "best" 72)))))))))))))))))))))))))))))))))))))))))))
def obG0 (K : PySem.W.Frag) : Bool × List He.FnV := (factsF0 K, [fnV K (ma K (ga K "Election") "__init__"), fnV K (ma K (ga K "Election") "note"), fnV K (ma K (ga K "Election") "promised"), fnV K (ma K (ga K "Election") "decided"), fnV K (ma K (ga K "Election") "choice"), fnV K (ma K (ga K "Log") "__init__"), fnV K (hf_pa K "Log" "length"), fnV K (ma K (ga K "Log") "value"), fnV K (ga K "majority"), fnV K (ga K "has_majority"), fnV K (ga K "best"), fnV K (ga K "_law_stream"), fnV K (ga K "_law_draw"), fnV K (ga K "_law_same"), fnV K (ga K "_law_choice"), fnV K (ga K "_law_due"), fnV K (ga K "_law_holds"), fnV K (ga K "_law_noted"), fnV K (ga K "law")])
def obF0 (K : PySem.W.Frag) : Bool × List He.FnV := (bTb K 72 && (obG0 (dropF K 72)).1, (obG0 (dropF K 72)).2)
def vaF0 : Bool × List He.FnV := (true, [fnD "__init__" "Election.__init__" (inClass (hS 10) 0), fnD "note" "Election.note" (inClass (hS 10) 1), fnD "promised" "Election.promised" (inClass (hS 10) 2), fnD "decided" "Election.decided" (inClass (hS 10) 3), fnD "choice" "Election.choice" (inClass (hS 10) 4), fnD "__init__" "Log.__init__" (inClass (hS 12) 0), fnD "length" "Log.length" (inClass (hS 12) 1), fnD "value" "Log.value" (inClass (hS 12) 10), fnD "majority" "majority" (hS 6), fnD "has_majority" "has_majority" (hS 7), fnD "best" "best" (hS 8), fnD "_law_stream" "_law_stream" (hS 14), fnD "_law_draw" "_law_draw" (hS 15), fnD "_law_same" "_law_same" (hS 16), fnD "_law_choice" "_law_choice" (hS 17), fnD "_law_due" "_law_due" (hS 18), fnD "_law_holds" "_law_holds" (hS 19), fnD "_law_noted" "_law_noted" (hS 20), fnD "law" "law" (hS 21)])
theorem runF0 (w : World) : HandSHeadRun.RunEq hR hQ (hkF asL obF0 vaF0) (fun s => obF0 (He.frG (HandSHeadRun.getT s) asL)) 60000 looseN w := by
  intro os
  kernel_rfl
end Ap
set_option Elab.async false
set_option linter.all false
set_option maxRecDepth 100000
namespace Ap
open PySem PySem.Spec PyProof.Rows L2 Evl
section
variable {K : PySem.W.Frag} {σ : L2.St} {H H' : Hp} {ta tb tc te : TE} {t u : TT} {x y z v w : V} {r r' : R2}
theorem ev_chain {k m : Bool} (ha : Ev ta σ H x) (hb : Ev tb σ H y) (hr : RV r x y H (.bl k)) (hc : Ev tc σ H z) (hr' : RV r' y z H (.bl m)) : Ev (tChain r r' ta tb tc) σ H (.bl (k && m)) := fun H1 e Q q =>
  ha H1 e _ fun H2 e2 => hb H2 (e.trans e2) _ fun H3 e3 => hr H3 ((e.trans e2).trans e3) _ fun H4 e4 => ⟨k, rfl, by
    cases k with
    | true =>
      show tc σ H4 _
      exact hc H4 (((e.trans e2).trans e3).trans e4) _ fun H5 e5 => hr' H5 ((((e.trans e2).trans e3).trans e4).trans e5) Q fun H6 e6 => q H6 ((((e2.trans e3).trans e4).trans e5).trans e6)
    | false =>
      show Q (.bl false) H4
      exact q H4 ((e2.trans e3).trans e4)⟩
theorem rc_int {i : Int} : RC (fun xs H Q => (∃ i, xs = [.int i] ∧ Q (.int i) H) ∨ ∃ k, xs = [.bl k] ∧ Q (.int (if k then 1 else 0)) H) [.int i] H (.int i) := fun H1 _ _ q => Or.inl ⟨i, rfl, q H1 (Ex.refl H1)⟩
theorem rc_len {p : Addr} {xs : List V} (h : SqL K H p xs) : RC (fun xs H Q => ∃ p ys, xs = [.ref p] ∧ (SqL K H p ys ∨ SqT K H p ys) ∧ Q (.int ys.length) H) [.ref p] H (.int (xs.length : Int)) := fun H1 e _ q => ⟨p, xs, rfl, Or.inl (ex_l e h), q H1 (Ex.refl H1)⟩
theorem rc_lenT {p : Addr} {xs : List V} (h : SqT K H p xs) : RC (fun xs H Q => ∃ p ys, xs = [.ref p] ∧ (SqL K H p ys ∨ SqT K H p ys) ∧ Q (.int ys.length) H) [.ref p] H (.int (xs.length : Int)) := fun H1 e _ q => ⟨p, xs, rfl, Or.inr (ex_t e h), q H1 (Ex.refl H1)⟩
end
section
variable {K : PySem.W.Frag} {σ : L2.St} {H H' : Hp} {ta tb tc te td ty tv : TE} {t u : TT} {x y z v w : V} {D : Ends} {tz : TS}
/-- isinstance(x, T) of a plain value -/
theorem rc_isi {x : V} {T X : String} {b : Bool} (ht : ∀ H, TyX K H x (.type X)) (hb : kitB X T = some b) : RC (rIsi K) [x, .ty T] H (.bl b) := fun H1 _ _ q => ⟨x, .ty T, .type X, .type T, b, rfl, .ty T, ht H1, kit_ty hb, q H1 (Ex.refl H1)⟩
theorem q_dnew {i : Nat} (k : ∀ p H1, H p = none → Ex H H1 → H1 p = some (.dK []) → tz D (σ.set i (some (.ref p))) H1) : tSeq (tAsg tDNewK (gName i)) tz D σ H := fun p hp => k p _ hp (Ex.new hp) upd_same
theorem q_call {sp : Sp} {dvs vs : List V} {E : XK} {ta : TA} {i : Nat} (h : EvA ta σ H vs) (k : ∀ H1, Ex H H1 → sp (vs ++ dvs) H1 (fun v H2 => tz D (σ.set i (some v)) H2) E) : tSeq (tAsg (tCall sp dvs E ta) (gName i)) tz D σ H := h H (Ex.refl H) _ fun H1 e => k H1 e
end
def Dr (ds : List Int) : Prop := ∀ d ∈ ds, 0 ≤ d ∧ d < 5040
theorem Dr.nil : Dr [] := fun _ h => nomatch h
theorem Dr.app {ds : List Int} {d : Int} (h : Dr ds) (h0 : 0 ≤ d) (h1 : d < 5040) : Dr (ds ++ [d]) := fun e he => by
  rcases List.mem_append.mp he with he | he
  · exact h e he
  · rw [List.mem_singleton.mp he]
    exact ⟨h0, h1⟩
/-- a draw: the k-th one, 0 behind the last -/
def drw (ds : List Int) (k : Nat) : Int := ds.getD k 0
def spStream (K : PySem.W.Frag) : Sp := fun vs H Q _ => ∃ (a : Addr) (ns : List Int) (m : Nat), vs = [.ref a, .int (m : Int)] ∧ SqL K H a (ns.map V.int) ∧ ns.length ≤ 63 ∧ m ≤ 1000 ∧
  ∀ ds : List Int, Dr ds → ds.length ≤ m + 60 → RetL (ds.map V.int) H Q
def spDraw (K : PySem.W.Frag) : Sp := fun vs H Q _ => ∃ (a : Addr) (ds : List Int) (k : Nat), vs = [.ref a, .int (k : Int)] ∧ SqL K H a (ds.map V.int) ∧ RetV (.int (drw ds k)) H Q
theorem spDraw_v {K : PySem.W.Frag} {H : Hp} {a : Addr} {ds : List Int} {j : Int} {k : Nat} (h : SqL K H a (ds.map V.int)) (e : j = (k : Int)) : SpV (spDraw K) [.ref a, .int j] H (.int (drw ds k)) := fun H1 e1 Q q E =>
  ⟨a, ds, k, by rw [e], ex_l e1 h, fun H2 e2 => q H2 e2⟩
def drI (ds : List Int) (j : Int) : Int := drw ds j.toNat
theorem spDrawI {K : PySem.W.Frag} {H : Hp} {a : Addr} {ds : List Int} {j : Int} (h : SqL K H a (ds.map V.int)) (e : 0 ≤ j) : SpV (spDraw K) [.ref a, .int j] H (.int (drI ds j)) := spDraw_v h (by omega)
structure Df (K : PySem.W.Frag) (mg : Str → Option Value) (x : Str) (st : Stmt) (ps : List Str) (f : Addr) (fd : FuncData) : Prop where
  F : Fun K x x st f fd
  b : Binds K fd ps []
  g : mg x = some (.ref f)
theorem df_mk {K : PySem.W.Frag} {mg : Str → Option Value} {h : Heap} (X : K.In h) (G : h.Ns mainGlobals mg) {x : Str} {st : Stmt} {ps : List Str} {f : Addr} {oc : Value} {od an : Option Addr} {sl : Array (Option Value)} {kV dc pm cd ct : Value}
    (a : PySem.W.nsIn K mainGlobals x = some (some (.ref f))) (l : K.lookup f = some ⟨oc, od, .func (PySem.W.fnOf x x (defArgs st) (defBody st) (defScope st) .none kV dc pm an cd ct), sl⟩) (c : PySem.W.codeIn K cd x = true) (k : PySem.W.keepIn K (.ref f) = true)
    (hb : ∀ (kV doc pm : Value) (an : Option Addr) (cdv ct : Value) (us : List Value), us.length = ps.length → bindArgs (PySem.W.fnOf x x (defArgs st) (defBody st) (defScope st) .none kV doc pm an cdv ct) ⟨us, []⟩ = pure (ps.zip us)) :
    ∃ f fd, Df K mg x st ps f fd := ⟨_, _, fun_mk l c k, (fun_mk l c k).binds hb, PySem.W.mg_of X G a⟩
theorem law_mk {K : PySem.W.Frag} {mg : Str → Option Value} {h : Heap} (X : K.In h) (G : h.Ns mainGlobals mg) {st : Stmt} {fa f : Addr} {oc : Value} {od an : Option Addr} {sl : Array (Option Value)} {kV dc pm cd ct : Value} (hfa : mg "law" = some (.ref fa))
    (a : PySem.W.nsIn K mainGlobals "law" = some (some (.ref f))) (l : K.lookup f = some ⟨oc, od, .func (PySem.W.fnOf "law" "law" (defArgs st) (defBody st) (defScope st) .none kV dc pm an cd ct), sl⟩) (c : PySem.W.codeIn K cd "law" = true) (k : PySem.W.keepIn K (.ref f) = true)
    (hb : ∀ (kV doc pm : Value) (an : Option Addr) (cdv ct : Value) (s : Shared) (v : Value), BindsTo s (PySem.W.fnOf "law" "law" (defArgs st) (defBody st) (defScope st) .none kV doc pm an cdv ct) ⟨[v], []⟩ [("script", v)]) :
    ∃ fd, (∀ (s : Shared) (v : Value), BindsTo s fd ⟨[v], []⟩ [("script", v)]) ∧ Fun K "law" "law" st fa fd := by
  have e := hfa.symm.trans (PySem.W.mg_of X G a)
  cases e
  exact ⟨_, fun s v => hb kV dc pm an cd ct s v, fun_mk l c k⟩
end Ap
set_option Elab.async false
set_option linter.all false
set_option maxRecDepth 100000
namespace Ap
open PySem PySem.Spec PyProof.Rows L2 Evl
section
variable {K : PySem.W.Frag} {H H' : Hp}
mutual
theorem dp_mono (e : Ex H H') : ∀ (d : PyData) (v : V), Dp K H v d → Dp K H' v d
  | .none, _, h => by cases h; exact .non
  | .bool b, _, h => by cases h; exact .bl b
  | .int i, _, h => by cases h; exact .int i
  | .str x, _, h => by cases h; exact .str x
  | .list ds, _, h => by
    cases h with
    | lst hs ha => exact .lst (ex_l e hs) (dpa_mono e ds _ ha)
  | .tuple ds, _, h => by
    cases h with
    | tup hs ha => exact .tup (ex_t e hs) (dpa_mono e ds _ ha)
  | .dict _, _, h => by cases h
theorem dpa_mono (e : Ex H H') : ∀ (ds : List PyData) (vs : List V), DpAll K H vs ds → DpAll K H' vs ds
  | [], _, h => by cases h; exact .nil
  | d :: ds, _, h => by
    cases h with
    | cons h1 h2 => exact .cons (dp_mono e d _ h1) (dpa_mono e ds _ h2)
end
theorem dpa_len : ∀ {vs : List V} {ds : List PyData}, DpAll K H vs ds → vs.length = ds.length
  | _, _, .nil => rfl
  | _, _, .cons _ h => by rw [List.length_cons, List.length_cons, dpa_len h]
theorem dpa_at : ∀ {vs : List V} {ds : List PyData} {i : Nat} {d : PyData}, DpAll K H vs ds → ds[i]? = some d → ∃ v, vs[i]? = some v ∧ Dp K H v d
  | _, _, i, d, .nil, h => by simp at h
  | _, _, 0, d, .cons h1 _, h => ⟨_, rfl, by
    have e := Option.some.inj (show some _ = some d from h)
    rw [← e]
    exact h1⟩
  | _, _, i + 1, d, .cons _ h2, h => by
    obtain ⟨v, e, q⟩ := dpa_at (i := i) h2 (by simpa using h)
    exact ⟨v, by simpa using e, q⟩
theorem dpa_app : ∀ {vs ws : List V} {ds es : List PyData}, DpAll K H vs ds → DpAll K H ws es → DpAll K H (vs ++ ws) (ds ++ es)
  | _, _, _, _, .nil, h => h
  | _, _, _, _, .cons h1 h2, h => .cons h1 (dpa_app h2 h)
theorem dpa_one {v : V} {d : PyData} (h : Dp K H v d) : DpAll K H [v] [d] := .cons h .nil
end
mutual
theorem eqv_self : ∀ d : PyData, d.canLay0 = true → PyData.eqv d d = true
  | .none, _ => by simp [PyData.eqv]
  | .bool b, _ => by simp [PyData.eqv]
  | .int i, _ => by simp [PyData.eqv]
  | .str x, _ => by simp [PyData.eqv]
  | .list ds, h => by
    show PyData.eqvAll ds ds = true
    exact eqvAll_self ds (by simpa [PyData.canLay0] using h)
  | .tuple ds, h => by
    show PyData.eqvAll ds ds = true
    exact eqvAll_self ds (by simpa [PyData.canLay0] using h)
  | .dict _, h => by simp [PyData.canLay0] at h
theorem eqvAll_self : ∀ ds : List PyData, PyData.canLayAll0 ds = true → PyData.eqvAll ds ds = true
  | [], _ => by simp [PyData.eqvAll]
  | d :: ds, h => by
    have h' : d.canLay0 = true ∧ PyData.canLayAll0 ds = true := by simpa [PyData.canLayAll0] using h
    simp [PyData.eqvAll, eqv_self d h'.1, eqvAll_self ds h'.2]
end
/-- no dict within, no text out of range, at most n deep -/
def Sd (n : Nat) (d : PyData) : Prop := d.canLay0 = true ∧ d.depth ≤ n
def Sds (n : Nat) (ds : List PyData) : Prop := ∀ d ∈ ds, Sd n d
theorem Sds.drop {n : Nat} {ds : List PyData} (h : Sds n ds) (k : Nat) : Sds n (ds.drop k) := fun e he => h e (List.mem_of_mem_drop he)
theorem Sds.take {n : Nat} {ds : List PyData} (h : Sds n ds) (k : Nat) : Sds n (ds.take k) := fun e he => h e (List.mem_of_mem_take he)
theorem Sd.self {d : PyData} {n : Nat} (h : Sd n d) : PyData.eqv d d = true := eqv_self d h.1
def ov (H H1 H2 : Hp) : Hp := fun a => match H a with
  | some o => some o
  | none => match H1 a with
    | some _ => none
    | none => H2 a
theorem ov_ex {H H1 H2 : Hp} (e : Ex H H1) (e2 : Ex H1 H2) : Ex (ov H H1 H2) H2 := fun a o h => by
  unfold ov at h
  cases h0 : H a with
  | some o' =>
    rw [h0] at h
    rw [← h]
    exact e2 a o' (e a o' h0)
  | none =>
    rw [h0] at h
    cases h1 : H1 a with
    | some o' => rw [h1] at h; cases h
    | none => rw [h1] at h; exact h
theorem ov_base {H H1 H2 : Hp} : Ex H (ov H H1 H2) := fun a o h => by
  unfold ov
  rw [h]
theorem ov_grow {H H1 H2 H3 : Hp} (e2 : Ex H2 H3) : Ex (ov H H1 H2) (ov H H1 H3) := fun a o h => by
  unfold ov at h ⊢
  cases h0 : H a with
  | some o' => rw [h0] at h; exact h
  | none =>
    rw [h0] at h
    cases h1 : H1 a with
    | some o' => rw [h1] at h; cases h
    | none =>
      rw [h1] at h
      exact e2 a o h
theorem ov_later {H H1 H2 H3 : Hp} (e1 : Ex H1 H2) : Ex (ov H H2 H3) (ov H H1 H3) := fun a o h => by
  unfold ov at h ⊢
  cases h0 : H a with
  | some o' => rw [h0] at h; exact h
  | none =>
    rw [h0] at h
    cases h2 : H2 a with
    | some o' => rw [h2] at h; cases h
    | none =>
      rw [h2] at h
      have h1 : H1 a = none := fresh_back e1 h2
      rw [h1]
      exact h
theorem ov_new {H H1 H2 : Hp} {p : Addr} (e : Ex H H1) (e2 : Ex H1 H2) (hp : H2 p = none) {u : HO} : ov H H1 (upd H2 p u) p = some u := by
  have h1 : H1 p = none := fresh_back e2 hp
  have h0 : H p = none := fresh_back e h1
  unfold ov
  rw [h0, h1]
  exact upd_same
def EvD (K : PySem.W.Frag) (te : TE) (σ : L2.St) (H : Hp) (d : PyData) : Prop := ∀ H1, Ex H H1 → ∀ Q : VK, (∀ v H2, Ex H1 H2 → Dp K (ov H H1 H2) v d → Q v H2) → te σ H1 Q
def EvDs (K : PySem.W.Frag) (ta : TA) (σ : L2.St) (H : Hp) (ds : List PyData) : Prop := ∀ H1, Ex H H1 → ∀ Q : List V → Hp → Prop, (∀ vs H2, Ex H1 H2 → DpAll K (ov H H1 H2) vs ds → Q vs H2) → ta σ H1 Q
/-- a new list of data -/
def EvN (K : PySem.W.Frag) (te : TE) (σ : L2.St) (H : Hp) (ds : List PyData) : Prop := ∀ H1, Ex H H1 → ∀ Q : VK, (∀ p xs H2, H1 p = none → Ex H1 H2 → H2 p = some (.lst xs) → DpAll K (ov H H1 H2) xs ds → Q (.ref p) H2) → te σ H1 Q
section
variable {K : PySem.W.Frag} {σ : L2.St} {H H' : Hp} {ta tb tc te : TE} {t u : TT} {x y z v w : V} {d e : PyData} {ds es : List PyData} {r : R2}
theorem ed_of (h : Ev te σ H v) (hd : Dp K H v d) : EvD K te σ H d := fun H1 e Q q => h H1 e Q fun H2 e2 => q v H2 e2 (dp_mono ov_base d v hd)
theorem ed_var {i : Nat} (h : σ[i]? = some (some v)) (hd : Dp K H v d) : EvD K (tVar i) σ H d := ed_of (ev_var h) hd
theorem ed_int {i : Int} (h : Ev te σ H (.int i)) : EvD K te σ H (.int i) := ed_of h (.int i)
theorem ed_str {s : Str} : EvD K (tC (.str s)) σ H (.str s) := ed_of ev_c (.str s)
theorem ed_bool {b : Bool} (h : Ev te σ H (.bl b)) : EvD K te σ H (.bool b) := ed_of h (.bl b)
theorem EvD.mono (e : Ex H H') (h : EvD K te σ H d) : EvD K te σ H' d := fun H1 a Q q => h H1 (e.trans a) Q fun v H2 e2 hd => q v H2 e2 (dp_mono (fun b o hb => by
  unfold ov at hb ⊢
  cases h0 : H b with
  | some o' => rw [h0] at hb; rw [e b o' h0]; exact hb
  | none =>
    rw [h0] at hb
    cases h1 : H1 b with
    | some o' => rw [h1] at hb; cases hb
    | none =>
      rw [h1] at hb
      rw [fresh_back a h1]
      exact hb) d v hd)
theorem eds_nil : EvDs K tNil σ H [] := fun H1 _ _ q => q [] H1 (Ex.refl H1) .nil
theorem eds_cons {tr : TA} (h : EvD K te σ H d) (hr : EvDs K tr σ H ds) : EvDs K (tCons te tr) σ H (d :: ds) := fun H1 e Q q =>
  h H1 e _ fun v H2 e2 hv => hr H2 (e.trans e2) _ fun vs H3 e3 hs => q _ H3 (e2.trans e3) (.cons (dp_mono (ov_grow e3) d v hv) (dpa_mono (ov_later e2) ds vs hs))
theorem ed_tup {ta : TA} (h : EvDs K ta σ H ds) (hl : ds.length ≤ 100000) : EvD K (tTup ta) σ H (.tuple ds) := fun H1 e Q q =>
  h H1 e _ fun vs H2 e2 hs => ⟨by rw [dpa_len hs]; exact sz_of hl, fun p hp => q _ _ (e2.trans (Ex.new hp)) (.tup (st_of (ov_new e e2 hp)) (dpa_mono (ov_grow (Ex.new hp)) ds vs hs))⟩
theorem ed_new (h : EvN K te σ H ds) : EvD K te σ H (.list ds) := fun H1 e Q q => h H1 e _ fun p xs H2 np e2 hp hs => q _ H2 e2 (.lst (sq_of (by
  have h1 := fresh_back e np
  unfold ov
  rw [h1, np]
  exact hp)) hs)
theorem atI_len {α β : Type} {xs : List α} {ys : List β} (h : xs.length = ys.length) {i : Int} {y : β} (hy : atI ys i = some y) : ∃ j : Nat, ys[j]? = some y ∧ ∀ x, xs[j]? = some x → atI xs i = some x := by
  unfold atI at hy ⊢
  cases e : ixN ys.length i with
  | none => rw [e] at hy; cases hy
  | some j =>
    rw [e] at hy
    refine ⟨j, hy, fun x hx => ?_⟩
    rw [h, e]
    exact hx
theorem ed_ixT {i : Int} (ha : EvD K ta σ H (.tuple ds)) (hb : Ev tb σ H (.int i)) (h : atI ds i = some d) : EvD K (tOp (rIxT K) ta tb) σ H d := fun H1 e Q q =>
  ha H1 e _ fun v H2 e2 hv => hb H2 (e.trans e2) _ fun H3 e3 => by
    cases hv with
    | tup hs hd =>
      obtain ⟨j, hj, hx⟩ := atI_len (dpa_len hd) h
      obtain ⟨x, ex, dx⟩ := dpa_at hd hj
      exact ⟨_, _, i, x, rfl, rfl, ex_t ((ov_ex e e2).trans e3) hs, hx x ex, q x H3 (e2.trans e3) (dp_mono (ov_grow e3) d x dx)⟩
theorem ed_tupOf (ha : EvD K ta σ H (.list ds)) : EvD K (tThen ta (kTup K)) σ H (.tuple ds) := fun H1 e Q q =>
  ha H1 e _ fun v H2 e2 hv => by
    cases hv with
    | @lst a xs _ hs hd => exact .inl ⟨a, xs, rfl, ex_l (ov_ex e e2) hs, fun p hp => q _ _ (e2.trans (Ex.new hp)) (.tup (st_of (ov_new e e2 hp)) (dpa_mono (ov_grow (Ex.new hp)) ds xs hd))⟩
theorem ev_lenDT (ha : EvD K ta σ H (.tuple ds)) : Ev (tCB (fun xs H Q => ∃ p ys, xs = [.ref p] ∧ (SqL K H p ys ∨ SqT K H p ys) ∧ Q (.int ys.length) H) (tCons ta tNil)) σ H (.int (ds.length : Int)) := fun H1 e Q q =>
  ha H1 e _ fun v H2 e2 hv => by
    cases hv with
    | @tup a xs _ hs hd => exact ⟨a, xs, rfl, .inr (ex_t (ov_ex e e2) hs), by rw [dpa_len hd]; exact q H2 e2⟩
/-- a promise that gives data, over a base that the caller names -/
def RetD (K : PySem.W.Frag) (B : Hp) (d : PyData) (H : Hp) (Q : VK) : Prop := ∀ v H2, Ex H H2 → Dp K (ov B H H2) v d → Q v H2
variable {D : Ends} {tz : TS} {i : Nat}
theorem q_asgDB {B : Hp} (eB : Ex B H) (h : EvD K te σ B d) (k : ∀ v H1, Ex H H1 → Dp K (ov B H H1) v d → tz D (σ.set i (some v)) H1) : tSeq (tAsg te (gName i)) tz D σ H := h H eB _ fun v H1 e hv => k v H1 e hv
theorem s_retDB {B : Hp} (eB : Ex B H) (h : EvD K te σ B d) (k : ∀ v H1, Ex H H1 → Dp K (ov B H H1) v d → D.rt v H1) : tRet te D σ H := h H eB _ k
def givenD (n : Nat) (f : Nat → Bool) (g : Nat → PyData) : List PyData := ((List.range n).filter f).map g
theorem givenD_yes {n : Nat} {f : Nat → Bool} {g : Nat → PyData} (h : f n = true) : givenD (n + 1) f g = givenD n f g ++ [g n] := by
  unfold givenD
  rw [List.range_succ, List.filter_append, List.map_append, List.filter_cons, if_pos h]
  all_goals rfl
theorem givenD_no {n : Nat} {f : Nat → Bool} {g : Nat → PyData} (h : f n = false) : givenD (n + 1) f g = givenD n f g := by
  unfold givenD
  rw [List.range_succ, List.filter_append, List.map_append, List.filter_cons, if_neg (by rw [h]; decide)]
  show _ ++ [] = _
  rw [List.append_nil]
theorem givenD_len (n : Nat) (f : Nat → Bool) (g : Nat → PyData) : (givenD n f g).length ≤ n := by
  unfold givenD
  rw [List.length_map]
  have h := List.length_filter_le f (List.range n)
  rw [List.length_range] at h
  exact h
/-- the word of a comprehension over the base B, begun at H1: the items lean on the base and on what is new, not on the list itself -/
def CwD (K : PySem.W.Frag) (B H1 : Hp) (f : Nat → Bool) (g : Nat → PyData) (Dl : Addr) (i : Nat) (H' : Hp) : Prop := Ex B H' ∧ Ex H1 H' ∧ ∃ acc, H' Dl = some (.lst acc) ∧ DpAll K (ov B (upd H1 Dl (.lst [])) H') acc (givenD i f g)
theorem cwD_turn {B H1 H' : Hp} {f : Nat → Bool} {g : Nat → PyData} {Dl : Addr} {i : Nat} {σ2 : L2.St} (b1 : Ex B H1) (nD : H1 Dl = none) (p : CwD K B H1 f g Dl i H') (hi : i < 50000) (ht : EvT t σ2 B (f i)) (he : f i = true → EvD K te σ2 B (g i)) :
    t σ2 H' fun b H3 => if b = true then te σ2 H3 fun y H4 => ∃ acc, H4 Dl = some (.lst acc) ∧ acc.length < sizeLine ∧ CwD K B H1 f g Dl (i + 1) (upd H4 Dl (.lst (acc ++ [y]))) else CwD K B H1 f g Dl (i + 1) H3 := by
  obtain ⟨p1, p2, acc, p3, p4⟩ := p
  have nB : B Dl = none := fresh_back b1 nD
  refine ht H' p1 _ fun H3 e3 => ?_
  cases hf : f i with
  | true =>
    show te σ2 H3 fun y H4 => ∃ acc, H4 Dl = some (.lst acc) ∧ acc.length < sizeLine ∧ CwD K B H1 f g Dl (i + 1) (upd H4 Dl (.lst (acc ++ [y])))
    refine he hf H3 (p1.trans e3) _ fun y H4 e4 hy => ⟨acc, e4 Dl _ (e3 Dl _ p3), sz_lt (by rw [dpa_len p4]; have := givenD_len i f g; omega), Ex.mut ((p1.trans e3).trans e4) nB, Ex.mut ((p2.trans e3).trans e4) nD, _, upd_same, ?_⟩
    have k1 : Ex (ov B H3 H4) (ov B (upd H1 Dl (.lst [])) (upd H4 Dl (.lst (acc ++ [y])))) := fun a o ha => by
      unfold ov at ha ⊢
      cases h0 : B a with
      | some o' => rw [h0] at ha; exact ha
      | none =>
        rw [h0] at ha
        cases h3 : H3 a with
        | some o' => rw [h3] at ha; cases ha
        | none =>
          rw [h3] at ha
          have ne : a ≠ Dl := fun e => by
            rw [e, e3 Dl _ p3] at h3
            cases h3
          rw [upd_ne ne, fresh_back (p2.trans e3) h3]
          show upd H4 Dl _ a = some o
          rw [upd_ne ne]
          exact ha
    have k2 : Ex (ov B (upd H1 Dl (.lst [])) H') (ov B (upd H1 Dl (.lst [])) (upd H4 Dl (.lst (acc ++ [y])))) := fun a o ha => by
      unfold ov at ha ⊢
      cases h0 : B a with
      | some o' => rw [h0] at ha; exact ha
      | none =>
        rw [h0] at ha
        by_cases ne : a = Dl
        · rw [ne, upd_same] at ha
          cases ha
        · rw [upd_ne ne] at ha ⊢
          cases h1 : H1 a with
          | some o' => rw [h1] at ha; cases ha
          | none =>
            rw [h1] at ha
            show upd H4 Dl _ a = some o
            rw [upd_ne ne]
            exact e4 a o (e3 a o ha)
    rw [givenD_yes hf]
    exact dpa_app (dpa_mono k2 _ _ p4) (dpa_one (dp_mono k1 _ _ hy))
  | false =>
    show CwD K B H1 f g Dl (i + 1) H3
    refine ⟨p1.trans e3, p2.trans e3, acc, e3 Dl _ p3, ?_⟩
    rw [givenD_no hf]
    exact dpa_mono (ov_grow e3) _ _ p4
theorem cwD_start {B H1 : Hp} {f : Nat → Bool} {g : Nat → PyData} {Dl : Addr} (b1 : Ex B H1) (nD : H1 Dl = none) : CwD K B H1 f g Dl 0 (upd H1 Dl (.lst [])) := ⟨b1.trans (Ex.new nD), Ex.new nD, [], upd_same, .nil⟩
theorem cwD_end {B H1 H' : Hp} {f : Nat → Bool} {g : Nat → PyData} {Dl : Addr} {n : Nat} (p : CwD K B H1 f g Dl n H') : ∃ acc, H' Dl = some (.lst acc) ∧ DpAll K (ov B H1 H') acc (givenD n f g) := by
  obtain ⟨_, _, acc, p3, p4⟩ := p
  refine ⟨acc, p3, dpa_mono (fun a o ha => ?_) _ _ p4⟩
  unfold ov at ha ⊢
  cases h0 : B a with
  | some o' => rw [h0] at ha; exact ha
  | none =>
    rw [h0] at ha
    by_cases ne : a = Dl
    · rw [ne, upd_same] at ha
      cases ha
    · rw [upd_ne ne] at ha
      exact ha
theorem en_lcR1 {ta : TA} {j : Nat} {vs : List Nat} {n : Int} (f : Nat → Bool) (g : Nat → PyData) (h : EvA ta σ H [.int n]) (hn : 0 ≤ n ∧ n ≤ 40000) (hw : ∀ x, wipe ((wipe σ vs).set j (some x)) vs = wipe σ vs)
    (ht : ∀ i : Nat, (i : Int) < n → EvT t ((wipe σ vs).set j (some (.int (i : Int)))) H (f i)) (he : ∀ i : Nat, (i : Int) < n → f i = true → EvD K te ((wipe σ vs).set j (some (.int (i : Int)))) H (g i)) :
    EvN K (tLc (iRng1 ta) (gName j) t te vs) σ H (givenD n.toNat f g) := fun H0 e Q q => h H0 e _ fun H1 e1 => ⟨n, rfl, by omega, by omega, fun Dl hD =>
  lc_range (lo := 0) (n := n.toNat) (CwD K H H1 f g Dl) (cwD_start (e.trans e1) hD) (fun i H' hi p => by
    have e0 : (0 : Int) + (i : Int) = (i : Int) := Int.zero_add _
    show wipe ((wipe σ vs).set j (some (.int ((0 : Int) + (i : Int))))) vs = wipe σ vs ∧ t ((wipe σ vs).set j (some (.int ((0 : Int) + (i : Int))))) H' fun b H3 => if b = true then te ((wipe σ vs).set j (some (.int ((0 : Int) + (i : Int))))) H3 fun y H4 => ∃ acc, H4 Dl = some (.lst acc) ∧ acc.length < sizeLine ∧ CwD K H H1 f g Dl (i + 1) (upd H4 Dl (.lst (acc ++ [y]))) else CwD K H H1 f g Dl (i + 1) H3
    rw [e0]
    exact ⟨hw _, cwD_turn (e.trans e1) hD p (by omega) (ht i (by omega)) (fun hf => he i (by omega) hf)⟩) (fun H' p => by
      obtain ⟨acc, h1, h2⟩ := cwD_end p
      exact q Dl acc H' (fresh_back e1 hD) (e1.trans p.2.1) h1 (dpa_mono (ov_later e1) _ _ h2))⟩
theorem et_nil : EvT tYes σ H true := fun H1 _ _ q => q H1 (Ex.refl H1)
end
end Ap
set_option Elab.async false
set_option linter.all false
set_option maxRecDepth 100000
namespace Ap
open PySem PySem.Spec PyProof.Rows L2 Evl
def tMX (C : Addr) (m : Str) (sp : Sp) (E : L2.St → XK) (ta : TE) (t : TA) : TE := fun σ H Q => ta σ H fun x G => ∃ a dx fs, x = .ref a ∧ G a = some (.ins C dx fs) ∧ fs.lookup m = none ∧ t σ G fun vs G2 => sp (x :: vs) G2 Q (E σ)
/-- a block under a proposition -/
theorem pss_guard {X : Cx} {b : List Stmt} {t : TS} {p : Prop} (h : p → PSs X b t) : PSs X b (fun D σ H => p ∧ t D σ H) := ⟨fun pins s σ H D I q => (h q.1).run pins s σ H D I q.2⟩
/-- try: .. except X as n: suite, the errors of the body of one own class without fields -/
theorem ps_try_own {X : Cx} {C : Addr} {x n : Str} {c : Value} {i : Nat} {body suite : List Stmt} {b₀ : Stmt} {np pos pos' : Pos} {tb : WX → TS} {ts : Addr → TS} {Wout : WX} (hs : X.stack = X.env :: X.outer) (hf : X.env.frame = some X.env.locals) (hN : X.N.Nodup) (hi : X.N[i]? = some n) (hln : X.env.kindOf n = some .local) (hc : Names X x c) (tk : Takes X Wout)
    (hb : ∀ (W : WX) (pn : List (Addr × Obj)) (xe : Value → Shared → Prop), Takes (X.tr pn xe) W → PSs (X.tr pn xe) body (tb W))
    (hsu : ∀ (a : Addr) (oe : Obj) (pn : List (Addr × Obj)), Zc (.ref C) none oe → (∃ vs, oe.data = .fields vs) → PSs (X.suite a ((a, oe) :: pn)) (b₀ :: suite) (ts a)) :
    PS X (.Try body [.ExceptHandler (some (.Name x np)) (some n) (b₀ :: suite) pos'] [] [] pos) (fun D σ H => tb (wAs X.K c i (fun a cls d D σ H => (cls = .ref C ∧ d = none) ∧ ts a D σ H) Wout D) D σ H) :=
  ps_try_as hs hf hN hi hln hc tk (fun W pn xe tk' _ => hb W pn xe tk') (fun a oe cls d pn hz hf => pss_guard fun h => by
    obtain ⟨h1, h2⟩ := h
    subst h1
    subst h2
    exact hsu a oe pn hz hf)
/-- an own error class C over ValueError (through B), as the top left it -/
structure Err (K : PySem.W.Frag) (mg : Str → Option Value) (x : Str) (C B : Addr) : Prop where
  g : mg x = some (.ref C)
  kp : PySem.W.keepIn K (.ref C) = true
  ex : PySem.W.excIn K C [.type "ValueError", .type "Exception", .type "BaseException", .type "object"] "ValueError.__new__" = true
  bs : PySem.W.subIn K (.ref C) (.type "BaseException") = some true
  ty : PySem.W.typeIn K (.ref C) = some (.type "type")
  me : PySem.W.exmOne K (.ref C) (.ref C) = some true
  ec : ExcC K C
  k1 : PySem.W.kitOne K (.ref C) (.ref B) = some true
  k2 : PySem.W.kitOne K (.ref C) (.type "ValueError") = some true
theorem Err.mk' {X : Cx} {x m : Str} {C B : Addr} {j : Nat} {p p2 pos : Pos} (T : Err X.K X.mg x C B) (hg : Gl X x) (hdb : (x == ("__debug__" : Str)) = false := by decide) : PMk X (.Call (.Name x p) [.Constant (.str m) j p2] [] pos) (fun _ H Q => Q (.ref C) none H) :=
  pmk_own PySem.F.excBase_ValueError T.ex T.g T.kp (raises_own T.bs T.ty) hg hdb
/-- isinstance(e, T), e the error in hand -/
theorem ev_isE {K : PySem.W.Frag} {σ : L2.St} {H : Hp} {tx : TE} {D a : Addr} {i : Nat} {c : V} {cv : Value} {b : Bool} (h : σ[i]? = some (some (.ref a))) (hx : Ev tx σ H c) (hc : ∀ u, RelV c u → u = cv) (k : PySem.W.kitOne K (.ref D) cv = some b) : Ev (tCB (rIsE K D a) (tCons (tVar i) (tCons tx tNil))) σ H (.bl b) :=
  ev_cb (ea_cons (ev_var h) (ea_cons hx ea_nil)) fun H1 _ Q q => ⟨c, cv, b, rfl, hc, k, q H1 (Ex.refl H1)⟩
structure Dm (K : PySem.W.Frag) (C : Addr) (x qual : Str) (st : Stmt) (ps : List Str) (f : Addr) (fd : FuncData) : Prop where
  F : Fun K x qual st f fd
  b : Binds K fd ps []
  m : Meth K C x f
theorem dm_mk {K : PySem.W.Frag} {h : Heap} (X : K.In h) {C : Addr} {x qual : Str} {st : Stmt} {ps : List Str} {f : Addr} {oc : Value} {od an : Option Addr} {sl : Array (Option Value)} {kV dc pm cd ct : Value}
    (a : PySem.W.findIn K (.ref C) x = some (some (.ref f))) (i : PySem.W.isFn K (.ref f) = true) (l : K.lookup f = some ⟨oc, od, .func (PySem.W.fnOf x qual (defArgs st) (defBody st) (defScope st) .none kV dc pm an cd ct), sl⟩) (c : PySem.W.codeIn K cd qual = true) (k : PySem.W.keepIn K (.ref f) = true)
    (hb : ∀ (kV doc pm : Value) (an : Option Addr) (cdv ct : Value) (us : List Value), us.length = ps.length → bindArgs (PySem.W.fnOf x qual (defArgs st) (defBody st) (defScope st) .none kV doc pm an cdv ct) ⟨us, []⟩ = pure (ps.zip us)) :
    ∃ f fd, Dm K C x qual st ps f fd := ⟨_, _, fun_mk l c k, (fun_mk l c k).binds hb, ⟨a, i, k⟩⟩
/-- a class of the text with an __init__ -/
structure Kl (K : PySem.W.Frag) (mg : Str → Option Value) (x : Str) (C : Addr) : Prop where
  cl : Cls K C
  g : mg x = some (.ref C)
  makes : PySem.W.makesIn K C = true
  kp : PySem.W.keepIn K (.ref C) = true
theorem Kl.make {K : PySem.W.Frag} {mg : Str → Option Value} {x : Str} {C f : Addr} {q : Str} {st : Stmt} {ps : List Str} {fd : FuncData} (L : Kl K mg x C) (D : Dm K C "__init__" q st ps f fd) : Mk K C f := ⟨L.makes, D.m.at_, D.m.fn, L.kp⟩
theorem kl_mk {K : PySem.W.Frag} {h : Heap} {mg : Str → Option Value} {x : Str} {C : Addr} (X : K.In h) (G : h.Ns mainGlobals mg) (a : PySem.W.nsIn K mainGlobals x = some (some (.ref C))) (pg : PySem.W.plainGet K C Str.empty = true) (hd : PySem.W.hasDictIn K C = true) (po : PySem.W.plainOver K C = true)
    (sa : PySem.W.findIn K (.ref C) "__setattr__" = some (some (.builtin "object.__setattr__"))) (mk : PySem.W.makesIn K C = true) (kp : PySem.W.keepIn K (.ref C) = true) : Kl K mg x C := ⟨⟨pg, hd, po, sa⟩, PySem.W.mg_of X G a, mk, kp⟩
/-- a property of an own class: its getter -/
structure Pr (K : PySem.W.Frag) (C : Addr) (x qual : Str) (st : Stmt) (f : Addr) (fd : FuncData) : Prop where
  F : Fun K x qual st f fd
  b : Binds K fd ["self"] []
  p : ∃ p, PropOf K C x p f
theorem pr_mk {K : PySem.W.Frag} {h : Heap} (X : K.In h) {C : Addr} {x qual : Str} {st : Stmt} {f p : Addr} {rest : List Value} {oc : Value} {od an : Option Addr} {sl : Array (Option Value)} {kV dc pm cd ct : Value}
    (a : PySem.W.findIn K (.ref C) x = some (some (.ref p))) (g : PySem.W.specialIn K (.ref p) "__get__" = some (some (.builtin "property.__get__"))) (t : PySem.W.takesIn K (.ref p) = some true) (r : PySem.W.recIn K p "property" = some (.ref f :: rest))
    (l : K.lookup f = some ⟨oc, od, .func (PySem.W.fnOf x qual (defArgs st) (defBody st) (defScope st) .none kV dc pm an cd ct), sl⟩) (c : PySem.W.codeIn K cd qual = true) (k : PySem.W.keepIn K (.ref f) = true)
    (hb : ∀ (kV doc pm : Value) (an : Option Addr) (cdv ct : Value) (us : List Value), us.length = (["self"] : List Str).length → bindArgs (PySem.W.fnOf x qual (defArgs st) (defBody st) (defScope st) .none kV doc pm an cdv ct) ⟨us, []⟩ = pure ((["self"] : List Str).zip us)) :
    ∃ f fd, Pr K C x qual st f fd := ⟨_, _, fun_mk l c k, (fun_mk l c k).binds hb, p, ⟨a, g, t, rest, r⟩⟩
theorem pe_pr {X : Cx} {CX : CXT} {k : Nat} {C g : Addr} {f : Str} {fd : FuncData} {sp : Sp} {E : XK} {e : Expr} {pos : Pos} {ta : TE} {q : Str} {st : Stmt} (he : PE X e ta) (c : Cls X.K C) (hp : Pr X.K C f q st g fd) (F : FnOk X.prog X.w X.K X.mg X.base CX k g fd ["self"] sp) (hr : Room (k + 1) X.A) (hx : Passes CX X.nox E)
    (hab : attributeBase e f X.env (eval e X.env) = eval e X.env) : PE X (.Attribute e f pos) (tProp C sp [] E ta) := by
  obtain ⟨p, hp'⟩ := hp.p
  exact pe_prop he c hp' F hr hp.b .nil hx hab
section
variable {K : PySem.W.Frag} {σ : L2.St} {H H' : Hp} {ta tb te : TE} {ds es : List PyData}
theorem rc_max2 {i j : Int} : RC (fun xs H Q => ∃ i j, xs = [.int i, .int j] ∧ Q (.int (if j > i then j else i)) H) [.int i, .int j] H (.int (if j > i then j else i)) := fun H1 _ Q q => ⟨i, j, rfl, q H1 (Ex.refl H1)⟩
theorem rc_min2 {i j : Int} : RC (fun xs H Q => ∃ i j, xs = [.int i, .int j] ∧ Q (.int (if j < i then j else i)) H) [.int i, .int j] H (.int (if j < i then j else i)) := fun H1 _ Q q => ⟨i, j, rfl, q H1 (Ex.refl H1)⟩
end
theorem kit_own {K : PySem.W.Frag} {t : Value} {B : Addr} (hd : PySem.W.hasDictIn K B = true) (ht : PySem.W.typeIn K (.ref B) = some (.type "type")) (hs : PySem.W.subIn K t (.ref B) = some true) : PySem.W.kitOne K t (.ref B) = some true := by
  obtain ⟨cd, hc, _⟩ := PySem.W.any_some hd
  unfold PySem.W.kitOne
  split
  · rfl
  · show (if ((PySem.W.clsIn K B).isSome && PySem.W.typeIn K (.ref B) == some (.type "type")) = true then PySem.W.subIn K t (.ref B) else none) = some true
    rw [hc, ht, if_pos (by rfl)]
    exact hs
theorem kit_blt {K : PySem.W.Frag} {t : Value} {n : String} (hm : PySem.W.kitMeta n = true) (hs : PySem.W.subIn K t (.type n) = some true) : PySem.W.kitOne K t (.type n) = some true := by
  unfold PySem.W.kitOne
  split
  · rfl
  · show (if PySem.W.kitMeta n = true then PySem.W.subIn K t (.type n) else none) = some true
    rw [if_pos hm]
    exact hs
theorem err_mk {K : PySem.W.Frag} {h : Heap} {mg : Str → Option Value} {x y : Str} {C B : Addr} (X : K.In h) (G : h.Ns mainGlobals mg) (a : PySem.W.nsIn K mainGlobals x = some (some (.ref C))) (b : PySem.W.nsIn K mainGlobals y = some (some (.ref B))) (kp : PySem.W.keepIn K (.ref C) = true)
    (ex : PySem.W.excIn K C [.type "ValueError", .type "Exception", .type "BaseException", .type "object"] "ValueError.__new__" = true) (bs : PySem.W.subIn K (.ref C) (.type "BaseException") = some true) (ty : PySem.W.typeIn K (.ref C) = some (.type "type")) (ss : PySem.W.subIn K (.ref C) (.ref C) = some true)
    (hg : PySem.W.findIn K (.ref C) "__getattribute__" = some (some (.builtin "BaseException.__getattribute__"))) (hk : PySem.W.findIn K (.ref C) "__getattr__" = some none) (hd : PySem.W.hasDictIn K C = true) (ha : PySem.W.findIn K (.ref C) "__class__" = some (some (.builtin "object.__class__")))
    (hn : PySem.W.specialIn K (.builtin "object.__class__") "__get__" = some (some (.builtin "getset_descriptor.__get__"))) (ht : PySem.W.takesIn K (.builtin "object.__class__") = some true) (hm : PySem.W.mroIn K C (.type "object") = some true)
    (dB : PySem.W.hasDictIn K B = true) (tB : PySem.W.typeIn K (.ref B) = some (.type "type")) (sb : PySem.W.subIn K (.ref C) (.ref B) = some true) (sv : PySem.W.subIn K (.ref C) (.type "ValueError") = some true) : Err K mg x C B ∧ mg y = some (.ref B) :=
  ⟨⟨PySem.W.mg_of X G a, kp, ex, bs, ty, PySem.W.exm_ref bs hd ty ss, ⟨hg, hk, bs, hd, ha, hn, ht, hm⟩, kit_own dB tB sb, kit_blt (by decide +kernel) sv⟩, PySem.W.mg_of X G b⟩
end Ap
set_option Elab.async false
set_option linter.all false
set_option maxRecDepth 100000
namespace Ap
open PySem PySem.Spec PyProof.Rows L2 Evl
mutual
inductive Dx (K : PySem.W.Frag) (H : Hp) : V → PyData → Prop
  | non : Dx K H .non .none
  | bl (b : Bool) : Dx K H (.bl b) (.bool b)
  | int (i : Int) : Dx K H (.int i) (.int i)
  | str (x : Str) : Dx K H (.str x) (.str x)
  | lst {a : Addr} {xs : List V} {ds : List PyData} : SqL K H a xs → DxAll K H xs ds → Dx K H (.ref a) (.list ds)
  | tup {a : Addr} {xs : List V} {ds : List PyData} : SqT K H a xs → DxAll K H xs ds → Dx K H (.ref a) (.tuple ds)
  | dic {a : Addr} {kvs : List (Key × V)} : H a = some (.dK kvs) → Dx K H (.ref a) (.dict [])
inductive DxAll (K : PySem.W.Frag) (H : Hp) : List V → List PyData → Prop
  | nil : DxAll K H [] []
  | cons {v : V} {vs : List V} {d : PyData} {ds : List PyData} : Dx K H v d → DxAll K H vs ds → DxAll K H (v :: vs) (d :: ds)
end
section
variable {K : PySem.W.Frag} {H H' : Hp}
mutual
theorem dx_mono (e : Ex H H') : ∀ (d : PyData) (v : V), Dx K H v d → Dx K H' v d
  | .none, _, h => by cases h; exact .non
  | .bool b, _, h => by cases h; exact .bl b
  | .int i, _, h => by cases h; exact .int i
  | .str x, _, h => by cases h; exact .str x
  | .list ds, _, h => by
    cases h with
    | lst hs ha => exact .lst (Evl.ex_l e hs) (dxa_mono e ds _ ha)
  | .tuple ds, _, h => by
    cases h with
    | tup hs ha => exact .tup (ex_t e hs) (dxa_mono e ds _ ha)
  | .dict _, _, h => by
    cases h with
    | dic h => exact .dic (e _ _ h)
theorem dxa_mono (e : Ex H H') : ∀ (ds : List PyData) (vs : List V), DxAll K H vs ds → DxAll K H' vs ds
  | [], _, h => by cases h; exact .nil
  | d :: ds, _, h => by
    cases h with
    | cons h1 h2 => exact .cons (dx_mono e d _ h1) (dxa_mono e ds _ h2)
end
theorem dxa_len : ∀ {vs : List V} {ds : List PyData}, DxAll K H vs ds → vs.length = ds.length
  | _, _, .nil => rfl
  | _, _, .cons _ h => by rw [List.length_cons, List.length_cons, dxa_len h]
theorem dxa_at : ∀ {vs : List V} {ds : List PyData} {i : Nat} {d : PyData}, DxAll K H vs ds → ds[i]? = some d → ∃ v, vs[i]? = some v ∧ Dx K H v d
  | _, _, i, d, .nil, h => by simp at h
  | _, _, 0, d, .cons h1 _, h => ⟨_, rfl, by
    have e := Option.some.inj (show some _ = some d from h)
    rw [← e]
    exact h1⟩
  | _, _, i + 1, d, .cons _ h2, h => by
    obtain ⟨v, e, q⟩ := dxa_at (i := i) h2 (by simpa using h)
    exact ⟨v, by simpa using e, q⟩
end
def EvX (K : PySem.W.Frag) (te : TE) (σ : L2.St) (H : Hp) (d : PyData) : Prop := ∀ H1, Ex H H1 → ∀ Q : VK, (∀ v H2, Ex H1 H2 → Dx K (ov H H1 H2) v d → Q v H2) → te σ H1 Q
def EvXs (K : PySem.W.Frag) (ta : TA) (σ : L2.St) (H : Hp) (ds : List PyData) : Prop := ∀ H1, Ex H H1 → ∀ Q : List V → Hp → Prop, (∀ vs H2, Ex H1 H2 → DxAll K (ov H H1 H2) vs ds → Q vs H2) → ta σ H1 Q
section
variable {K : PySem.W.Frag} {σ : L2.St} {H H' : Hp} {ta tb tc te : TE} {t u : TT} {x y z v w : V} {d e : PyData} {ds es : List PyData} {r : R2}
theorem ex_of (h : Ev te σ H v) (hd : Dx K H v d) : EvX K te σ H d := fun H1 e Q q => h H1 e Q fun H2 e2 => q v H2 e2 (dx_mono ov_base d v hd)
theorem ex_var {i : Nat} (h : σ[i]? = some (some v)) (hd : Dx K H v d) : EvX K (tVar i) σ H d := ex_of (ev_var h) hd
theorem EvX.mono (e : Ex H H') (h : EvX K te σ H d) : EvX K te σ H' d := fun H1 a Q q => h H1 (e.trans a) Q fun v H2 e2 hd => q v H2 e2 (dx_mono (fun b o hb => by
  unfold ov at hb ⊢
  cases h0 : H b with
  | some o' => rw [h0] at hb; rw [e b o' h0]; exact hb
  | none =>
    rw [h0] at hb
    cases h1 : H1 b with
    | some o' => rw [h1] at hb; cases hb
    | none =>
      rw [h1] at hb
      rw [fresh_back a h1]
      exact hb) d v hd)
theorem exs_nil : EvXs K tNil σ H [] := fun H1 _ _ q => q [] H1 (Ex.refl H1) .nil
theorem exs_cons {tr : TA} (h : EvX K te σ H d) (hr : EvXs K tr σ H ds) : EvXs K (tCons te tr) σ H (d :: ds) := fun H1 e Q q =>
  h H1 e _ fun v H2 e2 hv => hr H2 (e.trans e2) _ fun vs H3 e3 hs => q _ H3 (e2.trans e3) (.cons (dx_mono (ov_grow e3) d v hv) (dxa_mono (ov_later e2) ds vs hs))
theorem ev_lenX (ha : EvX K ta σ H (.list ds)) : Ev (tCB (fun xs H Q => ∃ p ys, xs = [.ref p] ∧ (SqL K H p ys ∨ SqT K H p ys) ∧ Q (.int ys.length) H) (tCons ta tNil)) σ H (.int (ds.length : Int)) := fun H1 e Q q =>
  ha H1 e _ fun v H2 e2 hv => by
    cases hv with
    | @lst a xs _ hs hd => exact ⟨a, xs, rfl, .inl (Evl.ex_l (ov_ex e e2) hs), by rw [dxa_len hd]; exact q H2 e2⟩
theorem ev_lenXT (ha : EvX K ta σ H (.tuple ds)) : Ev (tCB (fun xs H Q => ∃ p ys, xs = [.ref p] ∧ (SqL K H p ys ∨ SqT K H p ys) ∧ Q (.int ys.length) H) (tCons ta tNil)) σ H (.int (ds.length : Int)) := fun H1 e Q q =>
  ha H1 e _ fun v H2 e2 hv => by
    cases hv with
    | @tup a xs _ hs hd => exact ⟨a, xs, rfl, .inr (ex_t (ov_ex e e2) hs), by rw [dxa_len hd]; exact q H2 e2⟩
variable {D : Ends} {tz : TS} {i : Nat}
end
end Ap
set_option Elab.async false
set_option linter.all false
set_option maxRecDepth 100000
set_option maxHeartbeats 2000000
namespace Ap
open PySem PySem.Spec PyProof.Rows L2 Evl
def emptySet (w : World) : Obj := { cls := .type "set", dict := none, data := .set #[] 0 (.fresh 0 0 (!w.params.followText "set-order")) }
theorem emptySet_of {P : Program} {w : World} {h : Heap} : (h.push (emptySet w)).SetOf (mixKind P w) h.objs.size (fun _ => false) 0 :=
  ⟨_, #[], 0, _, Heap.get?_push_size _ rfl, ⟨rfl, rfl, rfl⟩, rfl, (fun e he => by simp at he), (fun k => by simp), (by decide), (by rfl), rfl⟩
/-- the set of no keys at D -/
abbrev hp0 (P : Program) (w : World) (H : Hp) (D : Addr) : Hp := upd H D (SetK P w D (fun _ => false) 0)
/-- the set at D with one key more -/
def Adds (P : Program) (w : World) (D : Addr) (Nx : Hp → Prop) : VK := fun y H => ∃ (k : Key) (S : Key → Bool) (n : Nat), y = kV k ∧ H D = some (SetK P w D S n) ∧ n + 1 < scanBound ∧ Nx (upd H D (SetK P w D (fun j => S j || decide (j = k)) (if S k = true then n else n + 1)))
def ScTurns (P : Program) (w : World) (g : TG) (tt : TT) (te : TE) (τ : L2.St) (vs : List Nat) (D : Addr) (J : It) (Qe : Hp → Prop) (W : Nat → Nat → Hp → Prop) : Prop := ∀ i m H, W i m H →
  (J.stop i H ∧ Qe H) ∨ (J.go i H ∧ ∃ Nx : Hp → Prop, (∀ H', Nx H' → ∃ m', m' < m ∧ W (i + 1) m' H') ∧
    ∀ x H', J.yld i H x H' → g x τ H' fun σ2 H2 => wipe σ2 vs = τ ∧ tt σ2 H2 fun b H3 => if b = true then te σ2 H3 (Adds P w D Nx) else Nx H3)
def tScK (P : Program) (w : World) (wi : TI) (g : TG) (tt : TT) (te : TE) (vs : List Nat) : TE := fun σ H Q => wi σ H fun J H1 => ∀ D, H1 D = none → ∃ W : Nat → Nat → Hp → Prop, (∃ m, W 0 m (hp0 P w H1 D)) ∧ ScTurns P w g tt te (wipe σ vs) vs D J (fun H => Q (.ref D) H) W
section
variable {X : Cx}
theorem adds_ok {pins : List (Addr × Obj)} {σ : L2.St} {H : Hp} {s : Shared} {D : Addr} {Nx : Hp → Prop} {y : V} {u : Value} {E : Value → Shared → Prop} {A : Around} {Q : Value → Shared → Prop} (I : Inv X pins σ H s) (r : RelV y u) (a : Adds X.prog X.w D Nx y H)
    (h : ∀ H' s', Inv X pins σ H' s' → Nx H' → Q .none s') : wpAny (model X.prog X.w) A (call (.builtin "set.add") [.ref D, u]) Q E s := by
  obtain ⟨k, S, n, rfl, hD, room, nx⟩ := a
  refine call_set_add (kV_is r) (key_scan r) (setK_get I hD) room fun h' sb new => ?_
  obtain ⟨o, _, _, _, ho, _⟩ := id new
  exact h _ _ (I.write (e := D) (t' := s.toks + 1) (by rw [hD]; trivial) (.inl rfl) (fun b v hb hv => (sb.2 b hb).trans hv) ⟨o, ho⟩ (setK_new new)) nx
theorem pe_scK {elt tg iter : Expr} {ifs : List Expr} {scope : Scope} {own : List (PySem.Str × Nat)} {pos : Pos} {wi : TI} {g : TG} {tt : TT} {te : TE} (hc : X.calm = true) (hN : X.N.Nodup) (hi : PI X tg iter wi) (ok : BlkOk X.N X.env.scope scope own)
    (hg : ∀ (s : Shared) (H : Hp) (C : Addr) (cl : List (PySem.Str × Addr)) (fp : List Addr), PG (X.blk s H scope (compEnvC scope cl C X.env) fp) tg g) (ht : ∀ (s : Shared) (H : Hp) (C : Addr) (cl : List (PySem.Str × Addr)) (fp : List Addr), PTs (X.blk s H scope (compEnvC scope cl C X.env) fp) ifs tt)
    (he : ∀ (s : Shared) (H : Hp) (C : Addr) (cl : List (PySem.Str × Addr)) (fp : List Addr), PE (X.blk s H scope (compEnvC scope cl C X.env) fp) elt te) (hs : ∀ x, foldedSetIterable iter X.env x = pure x := by intro _; rfl) :
    PE X (.SetComp elt [⟨tg, iter, ifs, 0⟩] scope pos) (tScK X.prog X.w wi g tt te (own.map (·.2))) := by
  refine ⟨fun pins s σ H Q I h => ?_⟩
  rw [PpSet.eval_SetComp]
  -- the closure, the iterated thing, its iterator
  refine wpAny_comprehension_free (use := none) rfl hs (closure_ok fun y hy e => (ok.free y hy e).elim (fun k => I.ok.has _ (.inl k)) fun k => I.ok.has _ (.inr k)) ok.kind (fun y hy e => by rw [ok.uniq y hy, e])
    (thn (hi.run pins s σ H _ I h) fun xv s1 hx => thn hx fun itv s2 h2 => ?_)
  obtain ⟨it, fp, tn, J, H2, rfl, I2, T, st2, f2, q⟩ := h2
  -- the empty set
  refine PpSet.newSet_ok (newEnv_comp ?_)
  obtain ⟨D, hD⟩ : ∃ D, D = s2.heap.objs.size := ⟨_, rfl⟩
  rw [← hD]
  obtain ⟨W, ⟨m0, w0⟩, turn⟩ := q D (I2.hok.fresh (Nat.le_of_eq hD.symm))
  obtain ⟨s3, h3⟩ : ∃ s3 : Shared, s3 = { s2 with heap := s2.heap.push (emptySet X.w) } := ⟨_, rfl⟩
  have hs3 : s3.heap = s2.heap.push (emptySet X.w) := by rw [h3]
  have kp3 : ∀ b o, s2.heap.get? b = some o → s3.heap.get? b = some o := fun b o e => by rw [hs3]; exact Heap.get?_push_of_some _ e
  have I3 : Inv X pins σ (hp0 X.prog X.w H2 D) s3 := by
    rw [h3]
    refine I2.laid (t' := s2.toks) (fun b o e => Heap.get?_push_of_some _ e) (Nat.le_of_eq hD.symm) ?_
    rw [hD]
    exact setK_new emptySet_of
  obtain ⟨H3, hH3⟩ : ∃ H3, H3 = hp0 X.prog X.w H2 D := ⟨_, rfl⟩
  rw [← hH3] at I3 w0
  -- what the iterator keeps stays apart from it
  have f3 : ∀ b ∈ fp, FpOk X pins H3 b ∧ b < s3.heap.objs.size := fun b hb => by
    obtain ⟨o, e, _⟩ := T.obj _ _ st2 b hb
    have hlt := Heap.lt_size e
    refine ⟨⟨?_, (f2 b hb).2⟩, by rw [hs3, Heap.size_push]; exact Nat.lt_succ_of_lt hlt⟩
    rw [hH3]
    show upd H2 D _ b = none
    rw [upd_ne (by rw [hD]; exact Nat.ne_of_lt hlt)]
    exact (f2 b hb).1
  have n3 : ∀ b ∈ fp, H3 b = none := fun b hb => (f3 b hb).1.1
  -- the block's own variables
  have I4 := block_start I3 ok hN f3
  show codeAny _ _ (.compStart (.SetComp elt [⟨tg, iter, ifs, 0⟩] scope pos) 0 (.ref it) (.ref D) (compEnvC scope (cellsFrom ((s2.heap.push (emptySet X.w)).objs.size + 1) scope.names (cloFrom X.env.cells scope.names [])) (s2.heap.push (emptySet X.w)).objs.size X.env)) (compPost (model X.prog X.w) X.A X.xe none (EP X pins σ Q) (.ref D) (s2.heap.push (emptySet X.w)).objs.size) { s2 with heap := pushCells ((s2.heap.push (emptySet X.w)).push { cls := .type "dict", data := .dict #[] }) scope.names }
  rw [← hs3, show ({ s2 with heap := pushCells (s3.heap.push { cls := .type "dict", data := .dict #[] }) scope.names } : Shared) = { s3 with heap := pushCells (s3.heap.push { cls := .type "dict", data := .dict #[] }) scope.names } by rw [h3]]
  have pg := hg s3 H3 s3.heap.objs.size (cellsFrom (s3.heap.objs.size + 1) scope.names (cloFrom X.env.cells scope.names [])) fp
  have pt := ht s3 H3 s3.heap.objs.size (cellsFrom (s3.heap.objs.size + 1) scope.names (cloFrom X.env.cells scope.names [])) fp
  have pe := he s3 H3 s3.heap.objs.size (cellsFrom (s3.heap.objs.size + 1) scope.names (cloFrom X.env.cells scope.names [])) fp
  have st4 : tn 0 (pushCells (s3.heap.push { cls := .type "dict", data := .dict #[] }) scope.names) := T.keep _ _ _ st2 fun b _ o e => pushCells_keeps _ _ _ _ (Heap.get?_push_of_some _ (kp3 b o e))
  generalize hce : compEnvC scope (cellsFrom (s3.heap.objs.size + 1) scope.names (cloFrom X.env.cells scope.names [])) s3.heap.objs.size X.env = ce at I4 pg pt pe ⊢
  have cL : ce.locals = s3.heap.objs.size := by subst hce; rfl
  generalize hs4 : ({ s3 with heap := pushCells (s3.heap.push { cls := .type "dict", data := .dict #[] }) scope.names } : Shared) = s4 at I4 ⊢
  have st4 : tn 0 s4.heap := by
    rw [← hs4]
    exact st4
  have fpk : ∀ {τ : L2.St} {H' : Hp} {s' : Shared}, Inv (X.blk s3 H3 scope ce fp) [] τ H' s' → (∀ b ∈ fp, H' b = none) → ∀ b ∈ fp, FpOk (X.blk s3 H3 scope ce fp) [] H' b := fun I' nn b hb =>
    ⟨nn b hb, (I'.ok.exf b hb).1, I'.ok.exfs b hb, .inl hb, fun x c e => (I'.ok.exf b hb).2 x c e, fun p hp => absurd (show p ∈ ([] : List (Addr × Obj)) ++ [] from hp) (by simp)⟩
  -- the loop
  have loop : codeAny (model X.prog X.w) X.A (.compLoop (.SetComp elt [⟨tg, iter, ifs, 0⟩] scope pos) 0 (.ref it) (.ref D) ce) (compPost (model X.prog X.w) X.A X.xe none (EP X pins σ Q) (.ref D) s3.heap.objs.size) s4 := by
    refine PpSet.compLoopS_any (fun n s' => ∃ i H', Inv (X.blk s3 H3 scope ce fp) [] (wipe σ (own.map (·.2))) H' s' ∧ tn i s'.heap ∧ (∀ b ∈ fp, H' b = none) ∧ W i n H') ?_ m0 ⟨0, H3, I4, st4, n3, w0⟩
    rintro n s5 ⟨i, H5, I5, st5, n5, w5⟩
    rcases turn i n H5 w5 with ⟨stop, qe⟩ | ⟨go, Nx, hNx, step⟩
    · -- it is through: back in the block around
      refine thnF (T.done (X.blk s3 H3 scope ce fp) rfl rfl rfl hc i [] s5 _ H5 (fun _ _ => False) I5 (fpk I5 n5) st5 stop) fun r s6 ⟨hr, I6⟩ => ?_
      subst hr
      obtain ⟨m, hn, _⟩ := I6.loc
      have hn : s6.heap.Ns s3.heap.objs.size m := cL ▸ (show s6.heap.Ns ce.locals m from hn)
      have nC : H5 s3.heap.objs.size = none := cL ▸ (show H5 ce.locals = none from I6.free)
      have I7 : Inv X pins σ H5 s6 := I3.call' (ch := fp) I6.os I6.base I6.hok I6.bare fun b hb => ⟨(f3 b hb).1.2.2.2.1, (f3 b hb).1.2.1, (f3 b hb).1.2.2.2.2.1, (f3 b hb).1.2.2.2.2.2⟩
      obtain ⟨k0, k1, k2, k3, k4, k5⟩ := I3.fpOk (Nat.le_refl _) nC
      exact ⟨m, hn, fun h'' sb => ⟨.ref D, H5, I7.turned (t' := s6.toks) (fun b o hb e => (sb.2 b hb).trans e) k0 k1 k3 k4 k5, rfl, qe⟩⟩
    · -- one item more
      refine thnF (T.item (X.blk s3 H3 scope ce fp) rfl rfl rfl hc i [] s5 _ H5 (fun _ _ => False) I5 (fpk I5 n5) st5 go) fun r s6 ⟨u, hr, h6⟩ => ?_
      subst hr
      refine thnF h6 fun _ s7 ⟨x, H7, I7, r7, y7, st7, n7⟩ => ?_
      refine thnF (pg.run _ s7 _ H7 x u _ (I7.pinned (fpk I7 n7) (T.obj _ _ st7)) r7 (step x H7 y7)) fun _ s8 ⟨σ8, H8, I8, hw8, q8⟩ => ?_
      refine thnF (pt.run _ s8 σ8 H8 _ I8 q8) fun b s9 ⟨H9, I9, q9⟩ => ?_
      have fin : ∀ (s' : Shared) (H' : Hp), Inv (X.blk s3 H3 scope ce fp) ([] ++ pinsAt fp s7.heap) σ8 H' s' → Nx H' → ∃ m, m < n ∧ ∃ i H', Inv (X.blk s3 H3 scope ce fp) [] (wipe σ (own.map (·.2))) H' s' ∧ tn i s'.heap ∧ (∀ b ∈ fp, H' b = none) ∧ W i m H' := fun s' H' I' nx => by
        have pin' : ∀ b ∈ fp, ∀ o, s7.heap.get? b = some o → s'.heap.get? b = some o ∧ H' b = none := fun b hb o e =>
          have z := I'.pin (b, o) (List.mem_append_right _ (List.mem_append_right _ (mem_pinsAt hb e)))
          ⟨z.1, z.2.1⟩
        obtain ⟨m', hm, w'⟩ := hNx H' nx
        exact ⟨m', hm, i + 1, H', (I'.unpinned (pins := [])).weak (by rw [← hw8, wipe_length]) (fun j v e => (wipe_some (hw8.symm ▸ e)).1), T.keep _ _ _ st7 fun b hb o e => (pin' b hb o e).1, fun b hb => by
          obtain ⟨o, e, _⟩ := T.obj _ _ st7 b hb
          exact (pin' b hb o e).2, w'⟩
      cases b with
      | false =>
        simp only [Bool.false_eq_true, if_false] at q9 ⊢
        exact fin s9 H9 I9 q9
      | true =>
        simp only [if_true] at q9 ⊢
        exact thnF (pe.run _ s9 σ8 H9 _ I9 q9) fun z s10 ⟨y, H10, I10, r10, ad⟩ => adds_ok (X := X.blk s3 H3 scope ce fp) I10 r10 ad fun H' s11 I11 nx => fin s11 H' I11 nx
  exact PpSet.codeAny_compStart_set loop (T.self X.A 0 _ _ _ st4 loop)
/-- len of a set of keys -/
def rLenK (P : Program) (w : World) : List V → Hp → VK → Prop := fun xs H Q => ∃ (a : Addr) (S : Key → Bool) (n : Nat), xs = [V.ref a] ∧ H a = some (SetK P w a S n) ∧ Q (.int (n : Int)) H
theorem call_lenK : CallR X (.builtin "len") (rLenK X.prog X.w) := by
  intro pins s σ H xs us Q I r h
  obtain ⟨a, S, n, rfl, ha, q⟩ := h
  obtain ⟨u, rfl, rx⟩ := vals1 r
  cases rx
  obtain ⟨o, es, ep, t, ho, hex, hd, _, _, hb, hf, rfl⟩ := setK_get I ha
  exact call_len_set ho hex hd hf (by have : scanBound = 4096 := rfl; omega) ⟨.int es.size, H, I.tok _, ⟨s.toks + 1, rfl⟩, q⟩
end
def setStep (f : Int → Bool) (p : (Key → Bool) × Nat) (x : Int) : (Key → Bool) × Nat := if f x = true then (fun j => p.1 j || decide (j = Sum.inl x), if p.1 (Sum.inl x) = true then p.2 else p.2 + 1) else p
def setSt (f : Int → Bool) (ns : List Int) : (Key → Bool) × Nat := ns.foldl (setStep f) (fun _ => false, 0)
theorem setSt_snoc (f : Int → Bool) (ns : List Int) (x : Int) : setSt f (ns ++ [x]) = setStep f (setSt f ns) x := by
  unfold setSt
  rw [List.foldl_append]
  rfl
theorem setSt_le (f : Int → Bool) : ∀ ns : List Int, (setSt f ns).2 ≤ ns.length := fun ns => by
  suffices h : ∀ (ns : List Int) (p : (Key → Bool) × Nat), (ns.foldl (setStep f) p).2 ≤ p.2 + ns.length by
    have := h ns (fun _ => false, 0)
    simpa [setSt] using this
  intro ns
  induction ns with
  | nil => intro p; simp
  | cons x r ih =>
    intro p
    have h1 := ih (setStep f p x)
    have h2 : (setStep f p x).2 ≤ p.2 + 1 := by
      unfold setStep
      split
      · dsimp only
        split <;> omega
      · omega
    simp only [List.foldl_cons, List.length_cons]
    omega
/-- its items are as many as it tells -/
theorem setSt_acc (f : Int → Bool) (ns : List Int) : ∃ acc : List Int, acc.Nodup ∧ (setSt f ns).2 = acc.length ∧ (∀ x, (setSt f ns).1 (Sum.inl x) = true ↔ x ∈ acc) ∧ ∀ x, x ∈ acc ↔ x ∈ ns ∧ f x = true := by
  suffices h : ∀ (ns : List Int) (p : (Key → Bool) × Nat) (a0 : List Int), a0.Nodup → p.2 = a0.length → (∀ x, p.1 (Sum.inl x) = true ↔ x ∈ a0) → ∃ acc : List Int, acc.Nodup ∧ (ns.foldl (setStep f) p).2 = acc.length ∧ (∀ x, (ns.foldl (setStep f) p).1 (Sum.inl x) = true ↔ x ∈ acc) ∧ ∀ x, x ∈ acc ↔ x ∈ a0 ∨ (x ∈ ns ∧ f x = true) by
    obtain ⟨acc, h1, h2, h3, h4⟩ := h ns (fun _ => false, 0) [] List.nodup_nil rfl (fun x => by simp)
    exact ⟨acc, h1, h2, h3, fun x => (h4 x).trans (by simp)⟩
  intro ns
  induction ns with
  | nil => exact fun p a0 h1 h2 h3 => ⟨a0, h1, h2, h3, fun x => by simp⟩
  | cons y r ih =>
    intro p a0 h1 h2 h3
    rw [List.foldl_cons]
    by_cases hf : f y = true
    · by_cases hy : y ∈ a0
      · obtain ⟨acc, k1, k2, k3, k4⟩ := ih (setStep f p y) a0 h1 (by unfold setStep; rw [if_pos hf]; show (if p.1 (Sum.inl y) = true then p.2 else p.2 + 1) = _; rw [if_pos ((h3 y).mpr hy), h2]) (fun x => by
          unfold setStep
          rw [if_pos hf]
          show (p.1 (Sum.inl x) || decide ((Sum.inl x : Key) = Sum.inl y)) = true ↔ _
          rw [Bool.or_eq_true, h3 x, decide_eq_true_iff]
          exact ⟨fun h => h.elim id fun e => by rw [Sum.inl.inj e]; exact hy, .inl⟩)
        refine ⟨acc, k1, k2, k3, fun x => (k4 x).trans ⟨fun h => h.elim .inl fun h => .inr ⟨List.mem_cons_of_mem _ h.1, h.2⟩, fun h => h.elim .inl fun h => ?_⟩⟩
        rcases List.mem_cons.mp h.1 with e | m
        · exact .inl (e ▸ hy)
        · exact .inr ⟨m, h.2⟩
      · obtain ⟨acc, k1, k2, k3, k4⟩ := ih (setStep f p y) (y :: a0) (List.nodup_cons.mpr ⟨hy, h1⟩) (by unfold setStep; rw [if_pos hf]; show (if p.1 (Sum.inl y) = true then p.2 else p.2 + 1) = _; rw [if_neg (fun q => hy ((h3 y).mp q)), h2]; rfl) (fun x => by
          unfold setStep
          rw [if_pos hf]
          show (p.1 (Sum.inl x) || decide ((Sum.inl x : Key) = Sum.inl y)) = true ↔ _
          rw [Bool.or_eq_true, h3 x, decide_eq_true_iff, List.mem_cons]
          exact ⟨fun h => h.elim .inr fun e => .inl (Sum.inl.inj e), fun h => h.elim (fun e => .inr (by rw [e])) .inl⟩)
        refine ⟨acc, k1, k2, k3, fun x => (k4 x).trans ⟨fun h => ?_, fun h => ?_⟩⟩
        · rcases h with h | h
          · rcases List.mem_cons.mp h with e | m
            · exact .inr ⟨e ▸ List.mem_cons_self, e ▸ hf⟩
            · exact .inl m
          · exact .inr ⟨List.mem_cons_of_mem _ h.1, h.2⟩
        · rcases h with h | h
          · exact .inl (List.mem_cons_of_mem _ h)
          · rcases List.mem_cons.mp h.1 with e | m
            · exact .inl (e ▸ List.mem_cons_self)
            · exact .inr ⟨m, h.2⟩
    · obtain ⟨acc, k1, k2, k3, k4⟩ := ih p a0 h1 h2 h3
      have e0 : setStep f p y = p := if_neg hf
      rw [e0]
      refine ⟨acc, k1, k2, k3, fun x => (k4 x).trans ⟨fun h => h.elim .inl fun h => .inr ⟨List.mem_cons_of_mem _ h.1, h.2⟩, fun h => h.elim .inl fun h => ?_⟩⟩
      rcases List.mem_cons.mp h.1 with e | m
      · exact absurd (e ▸ h.2) hf
      · exact .inr ⟨m, h.2⟩
section
variable {P : Program} {w : World} {K : PySem.W.Frag} {σ : L2.St} {H : Hp} {tl : TE} {t : TT} {te : TE}
/-- len({x for x in xs if ..}) of a list of integers -/
theorem ev_lenSc {a : Addr} {ns : List Int} {j : Nat} {vs : List Nat} (f : Int → Bool) (h : Ev tl σ H (.ref a)) (hx : SqL K H a (ns.map V.int)) (hz : ns.length ≤ 1000) (hw : ∀ x, wipe ((wipe σ vs).set j (some x)) vs = wipe σ vs)
    (ht : ∀ x : Int, EvT t ((wipe σ vs).set j (some (.int x))) H (f x)) (he : ∀ x : Int, Ev te ((wipe σ vs).set j (some (.int x))) H (.int x)) :
    Ev (tCB (rLenK P w) (tCons (tScK P w (iList K tl) (gName j) t te vs) tNil)) σ H (.int ((setSt f ns).2 : Int)) := fun H1 e Q q => h H1 e _ fun H2 e2 => ⟨a, rfl, ⟨_, ex_l (e.trans e2) hx⟩, fun D hD => by
    refine ⟨fun i m H' => m = ns.length - i ∧ i ≤ ns.length ∧ Ex H2 H' ∧ H' D = some (SetK P w D (setSt f (ns.take i)).1 (setSt f (ns.take i)).2), ⟨ns.length, rfl, Nat.zero_le _, Ex.new hD, upd_same⟩, ?_⟩
    rintro i m H' ⟨rfl, hi, e3, hS⟩
    have hx' : SqL K H' a (ns.map V.int) := ex_l ((e.trans e2).trans e3) hx
    by_cases hlt : i < ns.length
    · have hni : (ns.map V.int)[i]? = some (.int ns[i]) := by rw [List.getElem?_map, List.getElem?_eq_getElem hlt]; rfl
      have htk : ns.take (i + 1) = ns.take i ++ [ns[i]] := by rw [List.take_succ, List.getElem?_eq_getElem hlt]; rfl
      refine .inr ⟨⟨_, _, hx', hni⟩, fun H3 => Ex H2 H3 ∧ H3 D = some (SetK P w D (setSt f (ns.take (i + 1))).1 (setSt f (ns.take (i + 1))).2), fun H3 p => ⟨ns.length - (i + 1), by omega, rfl, hlt, p⟩, fun x H3 y => ?_⟩
      obtain ⟨rfl, y⟩ := y
      have ex := Option.some.inj ((y _ hx').symm.trans hni)
      subst ex
      refine ⟨hw _, ht _ H3 ((e.trans e2).trans e3) _ fun H4 e4 => ?_⟩
      rw [htk, setSt_snoc]
      unfold setStep
      cases hf : f ns[i] with
      | true =>
        show te _ H4 _
        refine he _ H4 (((e.trans e2).trans e3).trans e4) _ fun H5 e5 => ⟨Sum.inl ns[i], _, _, rfl, e5 _ _ (e4 _ _ hS), ?_, ?_⟩
        · have h1 := setSt_le f (ns.take i)
          have h2 : (ns.take i).length ≤ ns.length := by rw [List.length_take]; omega
          have : scanBound = 4096 := rfl
          omega
        · rw [if_pos rfl]
          exact ⟨Ex.mut ((e3.trans e4).trans e5) hD, upd_same⟩
      | false =>
        show Ex H2 H4 ∧ _
        rw [if_neg (by decide)]
        exact ⟨e3.trans e4, e4 _ _ hS⟩
    · have ei : i = ns.length := by omega
      subst ei
      rw [List.take_length] at hS
      exact .inl ⟨⟨_, hx', by rw [List.length_map]; exact Nat.le_refl _⟩, D, _, _, rfl, hS, q H' (e2.trans e3)⟩⟩
end
end Ap
set_option Elab.async false
set_option linter.all false
set_option maxRecDepth 100000
namespace Ap
open PySem PySem.Spec PyProof.Rows L2 Evl
def tyN : PyData → String
  | .none => "NoneType"
  | .bool _ => "bool"
  | .int _ => "int"
  | .str _ => "str"
  | .list _ => "list"
  | .tuple _ => "tuple"
  | .dict _ => "dict"
theorem tyx_dx {K : PySem.W.Frag} {H : Hp} : ∀ {d : PyData} {v : V}, Dx K H v d → TyX K H v (.type (tyN d))
  | _, _, .non => .base .non
  | _, _, .bl b => .base (.bl b)
  | _, _, .int i => .base (.int i)
  | _, _, .str x => .base (.str x)
  | _, _, .lst hs _ => by
    rcases hs with (h | ⟨o, h⟩) | ⟨o, its, n, h, hc, _⟩
    · exact .base (.lst h)
    · exact .base (.frz h)
    · exact .kList h hc
  | _, _, .tup hs _ => by
    rcases hs with (h | ⟨o, h⟩) | ⟨o, its, n, h, hc, _⟩
    · exact .base (.tup h)
    · exact .fTuple h
    · exact .kTuple h hc
  | _, _, .dic h => .base (.dK h)
def isInt : PyData → Bool
  | .int _ => true
  | .bool _ => true
  | _ => false
def isBoo : PyData → Bool
  | .bool _ => true
  | _ => false
def isStr : PyData → Bool
  | .str _ => true
  | _ => false
def isTup : PyData → Bool
  | .tuple _ => true
  | _ => false
theorem kit_int : ∀ d : PyData, kitB (tyN d) "int" = some (isInt d)
  | .none => (by decide +kernel : kitB "NoneType" "int" = some false)
  | .bool _ => (by decide +kernel : kitB "bool" "int" = some true)
  | .int _ => (by decide +kernel : kitB "int" "int" = some true)
  | .str _ => (by decide +kernel : kitB "str" "int" = some false)
  | .list _ => (by decide +kernel : kitB "list" "int" = some false)
  | .tuple _ => (by decide +kernel : kitB "tuple" "int" = some false)
  | .dict _ => (by decide +kernel : kitB "dict" "int" = some false)
theorem kit_bool : ∀ d : PyData, kitB (tyN d) "bool" = some (isBoo d)
  | .none => (by decide +kernel : kitB "NoneType" "bool" = some false)
  | .bool _ => (by decide +kernel : kitB "bool" "bool" = some true)
  | .int _ => (by decide +kernel : kitB "int" "bool" = some false)
  | .str _ => (by decide +kernel : kitB "str" "bool" = some false)
  | .list _ => (by decide +kernel : kitB "list" "bool" = some false)
  | .tuple _ => (by decide +kernel : kitB "tuple" "bool" = some false)
  | .dict _ => (by decide +kernel : kitB "dict" "bool" = some false)
theorem kit_str : ∀ d : PyData, kitB (tyN d) "str" = some (isStr d)
  | .none => (by decide +kernel : kitB "NoneType" "str" = some false)
  | .bool _ => (by decide +kernel : kitB "bool" "str" = some false)
  | .int _ => (by decide +kernel : kitB "int" "str" = some false)
  | .str _ => (by decide +kernel : kitB "str" "str" = some true)
  | .list _ => (by decide +kernel : kitB "list" "str" = some false)
  | .tuple _ => (by decide +kernel : kitB "tuple" "str" = some false)
  | .dict _ => (by decide +kernel : kitB "dict" "str" = some false)
theorem kit_tup : ∀ d : PyData, kitB (tyN d) "tuple" = some (isTup d)
  | .none => (by decide +kernel : kitB "NoneType" "tuple" = some false)
  | .bool _ => (by decide +kernel : kitB "bool" "tuple" = some false)
  | .int _ => (by decide +kernel : kitB "int" "tuple" = some false)
  | .str _ => (by decide +kernel : kitB "str" "tuple" = some false)
  | .list _ => (by decide +kernel : kitB "list" "tuple" = some false)
  | .tuple _ => (by decide +kernel : kitB "tuple" "tuple" = some true)
  | .dict _ => (by decide +kernel : kitB "dict" "tuple" = some false)
section
variable {K : PySem.W.Frag} {σ : L2.St} {H : Hp} {te : TE} {d : PyData} {T : String} {b : Bool}
theorem ev_isiX (h : EvX K te σ H d) (k : kitB (tyN d) T = some b) : Ev (tCB (rIsi K) (tCons te (tCons (tC (.ty T)) tNil))) σ H (.bl b) := fun H1 e Q q => h H1 e _ fun v H2 e2 hv =>
  ⟨v, .ty T, .type (tyN d), .type T, b, rfl, .ty T, tyx_dx (dx_mono (ov_ex e e2) d v hv), kit_ty k, q H2 e2⟩
end
/-- bounded: texts, lists and tuples of at most 1000, at most n deep -/
inductive Okd : Nat → PyData → Prop
  | non {n : Nat} : Okd n .none
  | bl {n : Nat} (b : Bool) : Okd n (.bool b)
  | int {n : Nat} (i : Int) : Okd n (.int i)
  | str {n : Nat} {x : Str} (h : x.length ≤ 1000) : Okd n (.str x)
  | dic {n : Nat} {kvs : List (PyData × PyData)} : Okd n (.dict kvs)
  | lst {n : Nat} {ds : List PyData} (h : ds.length ≤ 1000) (hs : ∀ d, d ∈ ds → Okd n d) : Okd (n + 1) (.list ds)
  | tup {n : Nat} {ds : List PyData} (h : ds.length ≤ 1000) (hs : ∀ d, d ∈ ds → Okd n d) : Okd (n + 1) (.tuple ds)
  | lsa {n : Nat} {ds : List PyData} (h : ds.length ≤ 1000) : Okd n (.list ds)
section
variable {K : PySem.W.Frag} {σ : L2.St} {H : Hp} {te tl : TE} {t : TT}
theorem fn_false {P : Program} {w : World} {K : PySem.W.Frag} {mg : Str → Option Value} {base : Heap} {CX : CXT} {k : Nat} {f : Addr} {fd : FuncData} {ps : List Str} : FnOk P w K mg base CX k f fd ps (fun _ _ _ _ => False) := ⟨fun _ _ _ _ h => h.elim, fun _ _ _ _ _ _ _ _ _ _ _ _ _ h => h.elim⟩
end
end Ap
set_option Elab.async false
set_option linter.all false
set_option maxRecDepth 100000
namespace Ap
open PySem PySem.Spec PyProof.Rows L2 Evl ClX
theorem Okd.mono {n m : Nat} {d : PyData} (h : Okd n d) : n ≤ m → Okd m d := by
  induction h generalizing m with
  | non => exact fun _ => .non
  | bl b => exact fun _ => .bl b
  | int i => exact fun _ => .int i
  | str h => exact fun _ => .str h
  | dic => exact fun _ => .dic
  | lst h hs ih =>
    intro hl
    obtain ⟨k, rfl⟩ : ∃ k, m = k + 1 := ⟨m - 1, by omega⟩
    exact .lst h fun d hd => ih d hd (by omega)
  | tup h hs ih =>
    intro hl
    obtain ⟨k, rfl⟩ : ∃ k, m = k + 1 := ⟨m - 1, by omega⟩
    exact .tup h fun d hd => ih d hd (by omega)
  | lsa h => exact fun _ => .lsa h
end Ap
set_option Elab.async false
set_option linter.all false
set_option maxRecDepth 100000
set_option Elab.async false
set_option linter.all false
set_option maxRecDepth 100000
set_option Elab.async false
set_option linter.all false
set_option maxRecDepth 100000
set_option Elab.async false
set_option linter.all false
set_option maxRecDepth 100000
set_option maxHeartbeats 4000000
namespace LamP
open PySem PySem.Spec PyProof.Rows L2 LamX Evl
/-- the table's entries are known -/
def TblIn (H : Hp) (ps : Array Value) (q : Str) : Prop := TriplesOk ps.toList ∧ ∀ (pos : Pos) (cv : Value), codeAmong pos ps.toList = some cv → ∃ c, cv = .ref c ∧ H c = some (CodeO c q)
theorem TblIn.mono {H H' : Hp} {ps : Array Value} {q : Str} (e : Ex H H') (h : TblIn H ps q) : TblIn H' ps q := ⟨h.1, fun pos cv hc => (h.2 pos cv hc).elim fun c z => ⟨c, z.1, e _ _ z.2⟩⟩
theorem TblIn.nil {H : Hp} {q : Str} : TblIn H #[] q := ⟨True.intro, fun pos cv hc => by
  have z : codeAmong pos [] = some cv := hc
  simp [codeAmong] at z⟩
/-- a function's object, known -/
def LamO (f : Addr) (o : Obj) : HO := .ext fun h => h.get? f = some o
def tLamM (P : Addr) (q : Str) (mk : Value → Addr → Value → Obj) : TE := fun σ H Q => ∃ ps, H P = some (.tbl ps) ∧ TblIn H ps q ∧ ∀ (f c' : Addr) (pm ctv : Value) (ps' : Array Value) (H1 : Hp), Ex (upd H P (.tbl ps')) H1 → (∀ G : Hp, TblIn G ps q → (H c' = none → G c' = some (CodeO c' q)) → TblIn G ps' q) → H1 c' = some (CodeO c' q) → H1 f = none → Q (.ref f) (upd H1 f (LamO f (mk pm c' ctv)))
section
variable {X : Cx} {pins : List (Addr × Obj)} {σ : L2.St} {H : Hp} {s : Shared}
theorem pe_lamM {c P : Addr} {params : Arguments} {body : Expr} {scope : Scope} {pos : Pos} (TB : TabB X.base X.mg c P) (hcode : X.env.code = .ref c) (hdef : defaultsOf params X.env = ([], [])) (hfree : ∀ y ∈ scope.names, y.2 ≠ .free) (hclo : cloFrom X.env.cells scope.names [] = []) :
    PE X (.Lambda params body scope pos) (tLamM P (X.env.qual ++ "<lambda>") fun pm c' ctv => PySem.W.kla_obj "<lambda>" (X.env.qual ++ "<lambda>") params body scope [] pm c' ctv) := by
  refine ⟨fun pins s σ H Q I h => ?_⟩
  obtain ⟨ps, hP, ⟨ht, ha⟩, k⟩ := h
  have hfr : ∀ y ∈ scope.names, y.2 = .free → ∃ c, X.env.cells.lookup y.1 = some c := fun y hy z => absurd z (hfree y hy)
  refine PySem.W.kla_eval hdef ?_
  have bP : s.heap.BuiltinsAt X.mg P := TB.bm.keeps I.bk
  have hP' : s.heap.get? P = some { cls := .none, data := .fields ps } := I.hok P _ hP
  have lay : ∀ {h' : Heap} {tk : Nat} {H' : Hp} {f : Addr} {o : Obj}, Inv X pins σ H' { s with heap := h', toks := tk } → o.isFreed = false → f = h'.objs.size → Inv X pins σ (upd H' f (LamO f o)) { s with heap := h'.push o, toks := tk } := fun {h' tk H' f o} J hf e => by
    subst e
    exact J.laid (fun b u z => Heap.get?_push_of_some _ z) (Nat.le_refl _) ⟨Heap.get?_push_size _ hf, ⟨o, Heap.get?_push_size _ hf⟩, fun h1 h2 z st => st o z⟩
  cases hc : codeAmong pos ps.toList with
  | none =>
    refine PySem.W.kla_makeFunction (mg := X.mg) (c := c) (P := P) (ps := ps) (closure_ok hfr) I.ok.glob (I.mod.glob.keeps I.bk) hcode (TB.code.keeps I.bk) hP' ht hc TB.gP bP fun c' ctv h' tk hx hge hlt hrec htb => ?_
    obtain ⟨c2, oc, vs, t, e2, hoc, hd, hv⟩ := hrec
    cases e2
    have nC : H c' = none := I.hok.fresh hge
    have J := inv_table (t' := tk) (q := X.env.qual ++ "<lambda>") (more := #[rawInt pos.line, rawInt pos.col, .ref c']) (h' := h') I hP (fun b o hb e => hx b o hb e) htb hge ⟨oc, vs, t, hoc, hd, hv⟩
    have eL : (ps ++ #[rawInt pos.line, rawInt pos.col, .ref c']).toList = ps.toList ++ [rawInt pos.line, rawInt pos.col, .ref c'] := by simp
    have nPc : P ≠ c' := ne_of_none hP nC
    have nf : upd (upd H P (.tbl (ps ++ #[rawInt pos.line, rawInt pos.col, .ref c']))) c' (CodeO c' (X.env.qual ++ "<lambda>")) h'.objs.size = none := J.hok.fresh (Nat.le_refl _)
    rw [hclo]
    refine ⟨.ref h'.objs.size, _, lay J rfl rfl, rfl, k _ c' _ ctv _ _ (Ex.new (by rw [upd_ne nPc.symm]; exact nC)) (fun G hG hn => ⟨by rw [eL]; exact PySem.TriplesOk_snoc _ _ _ _ ht, fun p' cv hcv => ?_⟩) upd_same nf⟩
    rw [eL] at hcv
    rcases among_app _ ht hcv with z | z
    · exact hG.2 p' cv z
    · exact ⟨c', z, hn nC⟩
  | some cv =>
    obtain ⟨c', e, hco⟩ := ha pos cv hc
    subst e
    refine PySem.W.kla_makeFunctionHit (mg := X.mg) (c := c) (P := P) (ps := ps) (closure_ok hfr) I.ok.glob (I.mod.glob.keeps I.bk) hcode (TB.code.keeps I.bk) hP' ht hc bP fun ctv h' tk hx hsz => ?_
    have J : Inv X pins σ H { s with heap := h', toks := tk } := I.kept hx
    have eH : upd H P (.tbl ps) = H := funext fun b => by
      by_cases hb : b = P
      · rw [hb, upd_same, hP]
      · rw [upd_ne hb]
    rw [hclo]
    exact ⟨.ref h'.objs.size, _, lay J rfl rfl, rfl, k _ c' _ ctv ps H (by rw [eH]; exact Ex.refl H) (fun G hG _ => hG) hco (J.hok.fresh (Nat.le_refl _))⟩
end
theorem lam_run {P : Program} {w : World} {K : PySem.W.Frag} {mg : Str → Option Value} {base : Heap} {k : Nat} {f c' : Addr} {q : Str} {params : Arguments} {body : Expr} {scope : Scope} {pm ctv : Value} {N : List Str} {y : Str} {tb : TE} (S : FnScope N [y] scope)
    (hbind : ∀ (pm cv ctv u : Value), bindArgs (PySem.W.kla_fn "<lambda>" q params body scope [] pm cv ctv) ⟨[u], []⟩ = pure [(y, u)])
    (hbody : ∀ (A : Around) (outer : List Env) (s : Shared) (H : Hp) (f : Addr) (cv : Value), Room k (A.deeper (envOfC q scope s.heap.objs.size f cv)) → PE (cxOf C8.CX0 P w K mg base N q scope f cv A outer s H C8.E0) body tb)
    {A : Around} {outer : List Env} {s : Shared} {H : Hp} {u : Value} {v : V} {Q : VK} (hr : Room (k + 1) A) (e0 : Env0 P w K mg base A outer s H) (hf : s.heap.get? f = some (PySem.W.kla_obj "<lambda>" q params body scope [] pm c' ctv)) (hc : H c' = some (CodeO c' q)) (rv : RelV v u) (h : tb (start N [v]) H Q) :
    codeAny (model P w) A (.call (.ref f) ⟨[u], []⟩) (CR C8.CX0 outer P w H s Q C8.E0) s := by
  obtain ⟨⟨oc, vs, t, hoc, hdc, hvc⟩, _, _⟩ := e0.hok c' _ hc
  refine PySem.W.kla_callFunE hr.depth hf rfl S.co S.gen rfl ⟨c', oc, vs, t, rfl, hoc, hdc, hvc⟩ ?_
  rw [hbind]
  have lim : s.heap.NoLimit := e0.mod.nolimit.keeps fun b o e => (e0.bs b o e).1
  have hkind : ∀ z ∈ [(y, u)], scope.names.lookup z.1 = some .local ∨ (scope.names.lookup z.1 = some .cell ∧ ((cellsFrom (s.heap.objs.size + 1) scope.names []).lookup z.1).isSome = true) := fun z hz => by
    rw [List.mem_singleton.mp hz]
    rcases S.par y List.mem_cons_self with e | e
    · exact .inl e
    · exact .inr ⟨e, PySem.W.cellsFrom_some _ _ _ (.inl e)⟩
  refine wpAny_pure (wpAny_newFunctionEnv_cells S.kind hkind fun env he s1 x => ?_)
  subst he
  refine ⟨lim.keeps x.toInCall.keep, PySem.W.kla_codeExpr ?_⟩
  have I : Inv (cxOf C8.CX0 P w K mg base N q scope f (.ref c') A outer s H C8.E0) [] (start N [v]) H s1 := inv_start (ps := [y]) (us := [u]) S hr.hd e0 rfl (.cons rv .nil) x
  refine wpAny_mono ((hbody A outer s H f (.ref c') (hr.deeper _)).run [] s1 _ H Q I h) (fun u' s' hs => ?_) fun e s' hs => hs
  obtain ⟨v', H', J, rv', qq⟩ := hs
  exact ⟨v', H', J.os, J.bare, J.base, J.hok, rv', qq⟩
section
variable {X : Cx} {pins : List (Addr × Obj)} {σ : L2.St} {H : Hp} {s s' : Shared}
theorem inv_new (I : Inv X pins σ H s) {b : Addr} (hb : s.heap.objs.size ≤ b) : X.s_0.heap.objs.size ≤ b ∧ b ≠ X.env.locals ∧ (∀ x c, X.env.cells.lookup x = some c → c ≠ b) ∧ (∀ p ∈ X.pn ++ pins, p.1 ≠ b) ∧ b ∉ frs X.stack ∧ H b = none := by
  have lt : ∀ c o, s.heap.get? c = some o → c ≠ b := fun c o e => Nat.ne_of_lt (Nat.lt_of_lt_of_le (Heap.lt_size e) hb)
  refine ⟨Nat.le_trans I.sz hb, ?_, fun x c e => ?_, fun p hp => ?_, fun z => ?_, I.hok.fresh hb⟩
  · obtain ⟨m, ⟨o, _, _, ho, _⟩, _⟩ := I.loc
    exact (lt _ o ho).symm
  · obtain ⟨v, o, ho, _⟩ := I.cell x c e
    exact lt c o ho
  · exact lt _ _ (I.pin p hp).1
  · obtain ⟨_, o, ho, _⟩ := Heap.FunFrames.mem I.stack z
    exact lt _ o ho rfl
theorem inv_moved {Z : List Addr} (I : Inv X pins σ H s) (m : Moved Z (fun a b => b = a) s s') (hz : ∀ b ∈ Z, X.s_0.heap.objs.size ≤ b ∧ b ≠ X.env.locals ∧ (∀ x c, X.env.cells.lookup x = some c → c ≠ b) ∧ (∀ p ∈ X.pn ++ pins, p.1 ≠ b) ∧ b ∉ frs X.stack) (hn : ∀ b ∈ Z, H b = none) : Inv X pins σ H s' := by
  obtain ⟨hh, g, d, t, os⟩ := s'
  obtain ⟨m1, m2, m3, m4, m5⟩ := m
  dsimp only at m1 m2 m3 m4
  subst m2 m4
  have nz : ∀ b u, H b = some u → b ∉ Z := fun b u e z => by
    rw [hn b z] at e
    cases e
  refine I.step (g' := s.gens) (d' := d) (t' := t) (ch := Z) (fun b hb => ⟨.inr (hz b hb).1, (hz b hb).2.1, (hz b hb).2.2.1, (hz b hb).2.2.2.1⟩) (fun b o _ _ hc e _ => m1 b o hc e) (fun b o _ _ hc e _ => ⟨o.slots, m1 b o hc e⟩) (fun _ _ _ _ n => n) (fun b o hc e => ⟨o, m1 b o hc e⟩) (fun _ _ e => e) (fun _ _ _ e => e) (fun b ps e => ⟨#[], by rw [e]; simp⟩) (fun m hm => ?_) (fun b u e => ?_) I.bare
  · obtain ⟨o, es, ep, ho, r⟩ := hm
    exact ⟨o, es, ep, m1 _ o (fun z => (hz _ z).2.1 rfl) ho, r⟩
  · refine (I.hok b u e).stay (fun c v hc q => m1 c v ?_ q) (fun _ q => q) fun _ _ q => q
    rcases hc with z | z
    · rw [z]; exact nz b u e
    · exact nz c _ z
theorem vals_back : ∀ {ys : List V} {us : List Value} {ns : List Int}, Vals ys us → IntsAre us ns → ys = ns.map V.int := by
  intro ys us ns r
  induction r generalizing ns with
  | nil =>
    intro h
    cases h
    rfl
  | cons r rs ih =>
    intro h
    cases h with
    | cons n t h =>
      rename_i y ys us ns
      have e : y = V.int n := by
        cases y with
        | int m =>
          obtain ⟨t', e⟩ := r
          cases e
          rfl
        | non => cases r
        | bl b => cases r
        | ref a => cases r
        | ty a => cases r
        | str a => exact r.elim fun _ e => nomatch e
        | byt a => exact r.elim fun _ e => nomatch e
        | flt a => exact r.elim fun _ e => nomatch e
      rw [ih h, e]
      rfl
theorem vals_at : ∀ {xs : List V} {us : List Value} {i : Nat} {u : Value}, Vals xs us → us[i]? = some u → ∃ x, xs[i]? = some x ∧ RelV x u
  | _, _, i, u, .nil, h => by
    rw [List.getElem?_nil] at h
    cases h
  | _, _, 0, u, .cons r rs, h => by
    cases h
    exact ⟨_, rfl, r⟩
  | _, _, i + 1, u, .cons r rs, h => vals_at (i := i) rs h
end
def btL (kf : Nat → List Int) (i j : Nat) : Bool := Ob.lexAt (fun a => decide ((kf i).getD a 0 = (kf j).getD a 0)) (fun a => decide ((kf j).getD a 0 < (kf i).getD a 0)) (decide ((kf i).length > (kf j).length)) 0 (min (kf i).length (kf j).length)
def rMaxL (K : PySem.W.Frag) (q : Str) (params : Arguments) (body : Expr) (scope : Scope) (N : List Str) (tb : TE) : List V → List V → Hp → VK → Prop := fun vs zs H Q => ∃ (l f c' : Addr) (pm ctv : Value) (xs : List V) (kf : Nat → List Int), vs = [.ref l] ∧ zs = [.ref f] ∧ SqL K H l xs ∧ 0 < xs.length ∧ H f = some (LamO f (PySem.W.kla_obj "<lambda>" q params body scope [] pm c' ctv)) ∧ H c' = some (CodeO c' q) ∧
  (∀ i x, xs[i]? = some x → ∀ H1, Ex H H1 → ∀ Q' : VK, (∀ t, H1 t = none → Q' (.ref t) (upd H1 t (.tup ((kf i).map V.int)))) → tb (start N [x]) H1 Q') ∧ ∀ x H1, xs[argBest (btL kf) (xs.length - 1)]? = some x → Ex H H1 → Q x H1
theorem cmp_tups {A : Around} {s : Shared} {a b : Addr} {its its2 : List Value} {ns ms : List Int} (i1 : IntsAre its ns) (i2 : IntsAre its2 ms) (p1 : s.heap.IsTuple a its.toArray) (p2 : s.heap.IsTuple b its2.toArray) (hu : A.units < cLine) :
    Ob.RcOp .Gt A s (.ref a) (.ref b) (Ob.lexAt (fun j => decide (ns.getD j 0 = ms.getD j 0)) (fun j => decide (ms.getD j 0 < ns.getD j 0)) (decide (ns.length > ms.length)) 0 (min ns.length ms.length)) := by
  have e1 : its.toArray.size = ns.length := by rw [List.size_toArray]; exact i1.length
  have e2 : its2.toArray.size = ms.length := by rw [List.size_toArray]; exact i2.length
  have a1 : ∀ j (h : j < its.toArray.size), ∃ t, its.toArray[j] = .int (ns.getD j 0) t := fun j h => PyProof.Rows.IntsAre.int_at i1 _ _ (by simp at h; simp [h])
  have a2 : ∀ j (h : j < its2.toArray.size), ∃ t, its2.toArray[j] = .int (ms.getD j 0) t := fun j h => PyProof.Rows.IntsAre.int_at i2 _ _ (by simp at h; simp [h])
  have R := Ob.RcOp.tuples_gt (A := A) (s := s) (e := fun j => decide (ns.getD j 0 = ms.getD j 0)) (r := fun j => decide (ms.getD j 0 < ns.getD j 0)) p1 p2 hu (fun j h1 h2 => by
    obtain ⟨t, et⟩ := a1 j h1
    obtain ⟨t', et'⟩ := a2 j h2
    rw [et, et']
    have z : (ns.getD j 0 == ms.getD j 0) = decide (ns.getD j 0 = ms.getD j 0) := by
      rw [Bool.eq_iff_iff, beq_iff_eq, decide_eq_true_iff]
    rw [← z]
    exact SeqAt.EqAt.int_int _ _ _ _) (fun j h1 h2 _ => by
    obtain ⟨t, et⟩ := a1 j h1
    obtain ⟨t', et'⟩ := a2 j h2
    rw [et, et']
    exact Ob.RcOp.gt_int _ _ _ _)
  rw [e1, e2] at R
  exact R
/-- a tuple of ints > another -/
def rGtT (K : PySem.W.Frag) : R2 := fun x y H Q => ∃ (a b : Addr) (ns ms : List Int), x = .ref a ∧ y = .ref b ∧ SqT K H a (ns.map V.int) ∧ SqT K H b (ms.map V.int) ∧
  Q (.bl (Ob.lexAt (fun j => decide (ns.getD j 0 = ms.getD j 0)) (fun j => decide (ms.getD j 0 < ns.getD j 0)) (decide (ns.length > ms.length)) 0 (min ns.length ms.length))) H
theorem op_gtT {X : Cx} (hu : X.A.units < cLine) : OpR X (compareOp .Gt) (rGtT X.K) := by
  intro pins s σ H x y v u Q I rx ry h
  obtain ⟨a, b, ns, ms, rfl, rfl, ha, hb, q⟩ := h
  cases rx
  cases ry
  obtain ⟨its, r1, p1, _⟩ := I.tuple ha
  obtain ⟨its2, r2, p2, _⟩ := I.tuple hb
  exact cmp_tups (Vals.ints r1) (Vals.ints r2) p1 p2 hu _ _ _ _ ⟨.bl _, H, I, rfl, q⟩
theorem tup_keep {h h' : Heap} {a : Addr} {items : Array Value} (x : h.IsTuple a items) (k : ∀ o, h.get? a = some o → h'.get? a = some o) : h'.IsTuple a items := by
  obtain ⟨o, h1, h2⟩ := x
  exact ⟨o, k o h1, h2⟩
theorem cr_maxL {X : Cx} {k : Nat} {q : Str} {params : Arguments} {body : Expr} {scope : Scope} {N : List Str} {y : Str} {tb : TE} (S : FnScope N [y] scope) (hbind : ∀ (pm cv ctv u : Value), bindArgs (PySem.W.kla_fn "<lambda>" q params body scope [] pm cv ctv) ⟨[u], []⟩ = pure [(y, u)])
    (hbody : ∀ (A : Around) (outer : List Env) (s : Shared) (H : Hp) (f : Addr) (cv : Value), Room k (A.deeper (envOfC q scope s.heap.objs.size f cv)) → PE (cxOf C8.CX0 X.prog X.w X.K X.mg X.base N q scope f cv A outer s H C8.E0) body tb) (hr : Room (k + 2) X.A) :
    CallRK X (.builtin "max") [Str.ofString "key"] (rMaxL X.K q params body scope N tb) := by
  intro pins s σ H vs zs us ws Q I r1 r2 h
  obtain ⟨l, f, c', pm, ctv, xs, kf, rfl, rfl, hs, h0, hf, hc, hk, q1⟩ := h
  rw [Vals.ref1 r1, Vals.ref1 r2]
  show wpAny _ X.A (call (.builtin "max") [.ref l] [(Str.ofString "key", .ref f)]) _ _ s
  refine call_max_walkK ?_
  obtain ⟨its, rv, hl, _⟩ := I.list hs
  refine wpAny_pyIter_list hl.isList ?_
  generalize hs2 : ({ s with heap := s.heap.push { cls := .type "list_iterator", data := .fields #[.ref l, .int 0 0] } } : Shared) = s2
  have sz2 : s2.heap.objs.size = s.heap.objs.size + 1 := by rw [← hs2]; exact Heap.size_push _ _
  have kp2 : ∀ b o, s.heap.get? b = some o → s2.heap.get? b = some o := fun b o e => by rw [← hs2]; exact Heap.get?_push_of_some _ e
  have J2 : Inv X pins σ H s2 := by rw [← hs2]; exact I.kept fun b o e => Heap.get?_push_of_some _ e
  have hIt : s2.heap.IsListIter s.heap.objs.size l 0 := by rw [← hs2]; exact ⟨_, Heap.get?_push_size _ rfl, rfl, rfl⟩
  have nI := inv_new I (Nat.le_refl s.heap.objs.size)
  have nS := inv_new I (b := s2.heap.objs.size) (by omega)
  have llt : l < s.heap.objs.size := hl.isList.elim fun o z => Heap.lt_size z.1
  have lI : l ≠ s.heap.objs.size := Nat.ne_of_lt llt
  have IS : s.heap.objs.size ≠ s2.heap.objs.size := by omega
  have lt1 : s.heap.objs.size < s2.heap.objs.size := by omega
  have lt2 : l < s2.heap.objs.size := Nat.lt_trans llt lt1
  generalize hSS : s2.heap.objs.size = SS at nS IS lt1 lt2 ⊢
  generalize hII : s.heap.objs.size = II at nI IS lI hIt lt1 ⊢
  let JH : Hp → Shared → Prop := fun H' s' => Inv X pins σ H' s' ∧ Ex H H' ∧ (∀ b, H b = none → H' b = none ∨ ∃ ys, H' b = some (.tup ys)) ∧ H' II = none ∧ H' SS = none
  let St : Nat → Shared → Prop := fun i s' => ∃ its, Vals xs its ∧ s'.heap.IsListIter II l i ∧ s'.heap.IsList l its.toArray
  let VV : Nat → Value → Shared → Prop := fun i k' s' => ∃ t its, k' = .ref t ∧ IntsAre its (kf i) ∧ s'.heap.IsTuple t its.toArray ∧ t ≠ II ∧ t ≠ SS ∧ t ∉ frs X.stack ∧ H t = none
  have W : WalksS X.prog X.w X.A.in1 II [II, l] [II] (fun a b => b = a) xs.length (fun i v => ∃ x, xs[i]? = some x ∧ RelV x v) St := by
    have WL := fun items : Array Value => (Walks.list (prog := X.prog) (w := X.w) (A := X.A.in1) hr.in1.hd II l lI items).toS
    have szE : ∀ {its : List Value}, Vals xs its → its.toArray.size = xs.length := fun r => by rw [List.size_toArray]; exact r.length.symm
    have atE : ∀ {its : List Value} {i : Nat} {v : Value}, Vals xs its → its.toArray[i]? = some v → ∃ x, xs[i]? = some x ∧ RelV x v := fun r e => by
      rw [List.getElem?_toArray] at e
      exact vals_at r e
    exact ⟨(WL #[]).sub, (WL #[]).grefl, (WL #[]).gtrans, fun i s h' tk ⟨its, r, a, b⟩ ht hk => ⟨its, r, (WL _).frame i s h' tk ⟨a, b⟩ ht hk⟩,
      fun i s Q E hi ⟨its, r, a, b⟩ hQ => (WL its.toArray).item i s Q E (by rw [szE r]; exact hi) ⟨a, b⟩ fun v s' hv st m => hQ v s' (atE r hv) ⟨its, r, st.1, st.2⟩ m,
      fun s Q E ⟨its, r, a, b⟩ hQ => (WL its.toArray).done s Q E (by rw [szE r]; exact ⟨a, b⟩) hQ,
      fun i s Q E ⟨its, r, a, b⟩ hQ => (WL its.toArray).self i s Q E ⟨a, b⟩ hQ⟩
  have hZ : ∀ b ∈ [SS, II], X.s_0.heap.objs.size ≤ b ∧ b ≠ X.env.locals ∧ (∀ x c, X.env.cells.lookup x = some c → c ≠ b) ∧ (∀ p ∈ X.pn ++ pins, p.1 ≠ b) ∧ b ∉ frs X.stack := fun b hb => by
    rcases List.mem_cons.mp hb with rfl | hb
    · exact ⟨nS.1, nS.2.1, nS.2.2.1, nS.2.2.2.1, nS.2.2.2.2.1⟩
    · rw [List.mem_singleton.mp hb]
      exact ⟨nI.1, nI.2.1, nI.2.2.1, nI.2.2.2.1, nI.2.2.2.2.1⟩
  refine ⟨II, [II, l], [II], fun a b => b = a, xs.length, _, St, (fun s' => ∃ H', JH H' s'), VV, btL kf, rfl, W, ⟨its, rv, hIt, ?_⟩, fun b hb => ?_, h0, ⟨?keep, ?keepV, ?turn, ?cmp⟩, ⟨H, J2, Ex.refl H, fun b hb => .inl hb, nI.2.2.2.2.2, nS.2.2.2.2.2⟩, fun v s' ⟨x, hx, rx⟩ ⟨H', I', e', _⟩ => ⟨x, H', I', rx, q1 x H' hx e'⟩⟩
  case keep =>
    intro s1 s3 ⟨H', I', e', dt, n1, n2⟩ m
    exact ⟨H', inv_moved I' m hZ (fun b hb => by
      rcases List.mem_cons.mp hb with rfl | hb
      · exact n2
      · rw [List.mem_singleton.mp hb]; exact n1), e', dt, n1, n2⟩
  case keepV =>
    intro i k' s1 s3 ⟨t, its, e, hi, ht, n1, n2, n3, n4⟩ m
    exact ⟨t, its, e, hi, tup_keep ht fun o z => m.heap t o (fun z => by
      rcases List.mem_cons.mp z with z | z
      · exact n2 z
      · exact n1 (List.mem_singleton.mp z)) z, n1, n2, n3, n4⟩
  case cmp =>
    intro i j ki kj s1 Q E _ ⟨t, its, e, hi, ht, _⟩ ⟨t', its', e', hi', ht', _⟩ hq
    rw [e, e']
    exact cmp_tups hi hi' ht ht' hr.in1.units0 _ _ _ _ hq
  case turn =>
    intro i v s1 o Q E hi ⟨x, hx, rx⟩ ⟨H', I', e', dt, n1, n2⟩ ⟨its1, rv1, hit1, hl1⟩ hS kk
    have hfo : s1.heap.get? f = some (PySem.W.kla_obj "<lambda>" q params body scope [] pm c' ctv) := (I'.hok f _ (e' f _ hf)).1
    refine wpAny_call (codeAny_mono (lam_run (A := X.A.in1) (H := H') S hbind hbody hr.in1 I'.env0.in1 hfo (e' c' _ hc) rx (hk i x hx H' e' (fun v H2 => ∃ t, v = .ref t ∧ H' t = none ∧ H2 = upd H' t (.tup ((kf i).map V.int))) fun t nt => ⟨t, rfl, nt, rfl⟩)) fun r s3 hq => ?_)
    cases r with
    | error e => exact (show False from hq).elim
    | ok fl =>
      cases fl with
      | next => exact False.elim hq
      | brk => exact False.elim hq
      | cont => exact False.elim hq
      | ret u =>
        obtain ⟨v', H2, os, bare, un, hok, rv', t, rfl, nt, rfl⟩ := hq
        obtain rfl : u = Value.ref t := rv'
        have I2 : Inv X pins σ (upd H' t (.tup ((kf i).map V.int))) s3 := by
          obtain ⟨hh, g, d, tk, os'⟩ := s3
          obtain rfl : os' = s1.os := os
          exact I'.call (h' := hh) (g' := g) (d' := d) (t' := tk) (ch := []) un hok bare (fun b z => absurd z (by simp))
        have new : ∀ b o, s1.heap.get? b = some o → H' b = none → b ≠ t := fun b o e n z => by
          have := un.free b o e n (by simp)
          rw [z, upd_same] at this
          cases this
        have keep : ∀ b o, s1.heap.get? b = some o → H' b = none → b ∉ frs X.stack → s3.heap.get? b = some o := fun b o e n nf => un.keep b o e n nf (by simp)
        obtain ⟨oI, eI, _⟩ := id hit1
        have tI := new II oI eI n1
        have tS := new SS o hS n2
        have nf : t ∉ frs X.stack := fun z => by
          obtain ⟨_, oz, ez, _⟩ := Heap.FunFrames.mem I'.stack z
          exact new t oz ez nt rfl
        have nHt : H t = none := by
          cases h : H t with
          | none => rfl
          | some o =>
            rw [e' t o h] at nt
            cases nt
        obtain ⟨its2, rv2, hl2, _⟩ := I2.list (ex_l (e'.trans (Ex.new nt)) hs)
        obtain ⟨_, its3, rv3, tp3⟩ := hok t _ upd_same
        refine kk _ s3 ⟨_, I2, e'.trans (Ex.new nt), fun b hb => ?_, by rw [upd_ne tI]; exact n1, by rw [upd_ne tS]; exact n2⟩ ⟨its2, rv2, hit1.at fun o z => keep II o z n1 nI.2.2.2.2.1, hl2.isList⟩ (keep SS o hS n2 nS.2.2.2.2.1) ⟨t, its3, rfl, Vals.ints rv3, tp3, tI.symm, tS.symm, nf, nHt⟩ fun j k' ⟨t', its', ek, hi', ht', m1, m2, m3, m4⟩ => ?_
        · by_cases hbt : b = t
          · exact .inr ⟨_, by rw [hbt, upd_same]⟩
          · rw [upd_ne hbt]
            exact dt b hb
        · rcases dt t' m4 with z | ⟨ys, z⟩
          · exact ⟨t', its', ek, hi', tup_keep ht' fun o e => keep t' o e z m3, m1, m2, m3, m4⟩
          · obtain ⟨_, its0, rv0, ⟨o0, e0, _, k0, d0⟩⟩ := I'.hok t' _ z
            obtain ⟨o1, e1, _, k1, d1⟩ := id ht'
            rw [e0] at e1
            cases e1
            rw [d0] at d1
            have e2 : its0 = its' := by
              have := (Data.seq.injEq .. ▸ d1 : its0.toArray = its'.toArray ∧ k0 = k1).1
              exact congrArg Array.toList this
            subst e2
            have eys := vals_back rv0 hi'
            have tt : t' ≠ t := fun zz => by
              rw [zz, nt] at z
              cases z
            obtain ⟨_, its4, rv4, tp4⟩ := hok t' (.tup ys) (by rw [upd_ne tt]; exact z)
            rw [eys] at rv4
            exact ⟨t', its4, ek, Vals.ints rv4, tp4, m1, m2, m3, m4⟩
  · exact hl.isList.elim fun o z => ⟨o, kp2 _ _ z.1, z.2⟩
  · rcases List.mem_cons.mp hb with rfl | hb
    · exact lt1
    · rw [List.mem_singleton.mp hb]
      exact lt2
theorem pe_maxlam {X : Cx} {k : Nat} {c P : Addr} {ex : Expr} {te tb : TE} {params : Arguments} {body : Expr} {scope : Scope} {p pos lpos kpos : Pos} {N : List Str} {y : Str} (TB : TabB X.base X.mg c P) (hcode : X.env.code = .ref c) (hdef : defaultsOf params X.env = ([], [])) (hclo : cloFrom X.env.cells scope.names [] = []) (S : FnScope N [y] scope)
    (hbind : ∀ (pm cv ctv u : Value), bindArgs (PySem.W.kla_fn "<lambda>" (X.env.qual ++ "<lambda>") params body scope [] pm cv ctv) ⟨[u], []⟩ = pure [(y, u)])
    (hbody : ∀ (A : Around) (outer : List Env) (s : Shared) (H : Hp) (f : Addr) (cv : Value), Room k (A.deeper (envOfC (X.env.qual ++ "<lambda>") scope s.heap.objs.size f cv)) → PE (cxOf C8.CX0 X.prog X.w X.K X.mg X.base N (X.env.qual ++ "<lambda>") scope f cv A outer s H C8.E0) body tb) (hr : Room (k + 2) X.A)
    (hx : PE X ex te) (hg : Gl X "max") (hm : X.mg "max" = none) (hs : starEach [ex] X.env = (false, eval ex X.env) :: starEach [] X.env := by rfl) (he : backTo pos (starEach [ex] X.env) = (false, eval ex X.env) :: backTo pos (starEach [] X.env) := by rfl) (hpl : (backTo pos (starEach [ex] X.env)).any (·.1) = false := by rfl) :
    PE X (.Call (.Name "max" p) [ex] [⟨some "key", .Lambda params body scope lpos, kpos⟩] pos) (tCKw (rMaxL X.K (X.env.qual ++ "<lambda>") params body scope N tb) (tCons te tNil) (tCons (tLamM P (X.env.qual ++ "<lambda>") fun pm c' ctv => PySem.W.kla_obj "<lambda>" (X.env.qual ++ "<lambda>") params body scope [] pm c' ctv) tNil)) :=
  pe_callBK (cr_maxL S hbind hbody hr) hg hm (by rfl) (pa_cons hx pa_nil hs) (pk_cons (pe_lamM TB hcode hdef S.nofree hclo) pk_nil) (by decide) (by decide) he hpl
end LamP
namespace L2
open PySem PySem.Spec PyProof.Rows
theorem Fun.okXC {P : Program} {w : World} {K : PySem.W.Frag} {mg : Str → Option Value} {base : Heap} {x qual : Str} {st : Stmt} {f c : Addr} {fd : FuncData} {N ps : List Str} {k : Nat} {sp : Sp} (F : Fun K x qual st f fd) (hc : fd.code = .ref c) (S : FnScope N ps (defScope st)) (len : ∀ vs H Q E, sp vs H Q E → vs.length = ps.length)
    (hbody : ∀ (A : Around) (outer : List Env) (s : Shared) (H : Hp) (vs : List V) (Q : VK) (E : XK), Room k (A.deeper (envOfC qual (defScope st) s.heap.objs.size f (.ref c))) → sp vs H Q E →
      ∃ t, PSs (cxOf (L2.CX P w) P w K mg base N qual (defScope st) f (.ref c) A outer s H E) (defBody st) t ∧ t { nx := fun _ H' => Q .non H', rt := Q } (start N vs) H) : FnOk P w K mg base (L2.CX P w) (k + 1) f fd ps sp := by
  obtain ⟨oc, od, kV, doc, pm, an, cdv, ct, osl, rfl, lk, hcd⟩ := F.ex
  obtain rfl : cdv = .ref c := hc
  exact fn_of lk hcd S len fun A outer s H vs Q E hr hsp => hbody A outer s H vs Q E hr hsp
end L2
set_option Elab.async false
set_option linter.all false
set_option maxRecDepth 100000
namespace Ap
open PySem PySem.Spec PyProof.Rows L2 Evl
section
variable {K : PySem.W.Frag} {σ : L2.St} {H H' : Hp} {ta tb tc te : TE} {t u : TT} {x y z v w : V}
theorem et_orF (h1 : EvT t σ H false) (h2 : EvT u σ H false) : EvT (tOr t u) σ H false := et_or (a := false) (b := false) h1 (fun _ => h2)
theorem et_orL (h1 : EvT t σ H true) : EvT (tOr t u) σ H true := fun H1 e Q q => h1 H1 e _ fun H2 e2 => (q H2 e2 : Q true H2)
theorem et_andT (h1 : EvT t σ H true) (h2 : EvT u σ H true) : EvT (tAnd t u) σ H true := et_and (a := true) (b := true) h1 (fun _ => h2)
theorem et_nt (h : EvT t σ H true) : EvT (tNot t) σ H false := et_not h
theorem et_nf (h : EvT t σ H false) : EvT (tNot t) σ H true := et_not h
theorem ev_andT (h1 : Ev ta σ H (.bl true)) (h2 : Ev tb σ H (.bl true)) : Ev (tAndV ta tb) σ H (.bl true) := ev_andV (a := true) (b := true) h1 (fun _ => h2)
theorem ev_orF (h1 : Ev ta σ H (.bl false)) (h2 : Ev tb σ H (.bl false)) : Ev (tOrV ta tb) σ H (.bl false) := ev_orV (a := false) (b := false) h1 (fun _ => h2)
theorem ev_nt (h : Ev ta σ H (.bl true)) : Ev (tNotV ta) σ H (.bl false) := ev_notV h
theorem ev_nf (h : Ev ta σ H (.bl false)) : Ev (tNotV ta) σ H (.bl true) := ev_notV h
theorem rc_isiI : RC (rIsi K) [.int x', .ty "int"] H (.bl true) := rc_isi (X := "int") (fun _ => .base (.int _)) (by decide +kernel)
theorem rc_isiIB : RC (rIsi K) [.int x', .ty "bool"] H (.bl false) := rc_isi (X := "int") (fun _ => .base (.int _)) (by decide +kernel)
theorem rc_isiB : RC (rIsi K) [.bl x', .ty "bool"] H (.bl true) := rc_isi (X := "bool") (fun _ => .base (.bl _)) (by decide +kernel)
theorem rc_isiBI : RC (rIsi K) [.bl x', .ty "int"] H (.bl true) := rc_isi (X := "bool") (fun _ => .base (.bl _)) (by decide +kernel)
theorem rv_eqI {i j : Int} : RV rEq (.int i) (.int j) H (.bl (decide (i = j))) := by
  have h := rv_eq (x := .int i) (y := .int j) (H := H) rfl
  have e : decide (V.int i = V.int j) = decide (i = j) := by
    by_cases q : i = j
    · rw [decide_eq_true q, decide_eq_true (by rw [q])]
    · rw [decide_eq_false q, decide_eq_false (fun h => q (V.int.inj h))]
  rwa [e] at h
theorem rv_neI {i j : Int} : RV rNe (.int i) (.int j) H (.bl (!decide (i = j))) := by
  have h := rv_ne (x := .int i) (y := .int j) (H := H) rfl
  have e : decide (V.int i = V.int j) = decide (i = j) := by
    by_cases q : i = j
    · rw [decide_eq_true q, decide_eq_true (by rw [q])]
    · rw [decide_eq_false q, decide_eq_false (fun h => q (V.int.inj h))]
  rwa [e] at h
end
end Ap
set_option Elab.async false
set_option linter.all false
set_option maxRecDepth 100000
namespace Ap
open PySem PySem.Spec PyProof.Rows L2 Evl
structure MP where
  p : Hp → Hp → Prop
  m : ∀ B B' H H', Ex B B' → Ex H H' → p B H → p B' H'
def cutIn (S : Addr → Bool) (H : Hp) : Hp := fun a => if S a = true then H a else none
theorem cutIn_ex {S : Addr → Bool} {H H' : Hp} (e : Ex H H') : Ex (cutIn S H) (cutIn S H') := fun a o h => by
  unfold cutIn at h ⊢
  split at h
  · rename_i q
    rw [if_pos q]
    exact e a o h
  · cases h
theorem cutIn_sub {S : Addr → Bool} {H : Hp} : Ex (cutIn S H) H := fun a o h => by
  unfold cutIn at h
  split at h
  · exact h
  · cases h
theorem cutIn_at {S : Addr → Bool} {H : Hp} {a : Addr} {o : HO} (h : cutIn S H a = some o) : S a = true ∧ H a = some o := by
  unfold cutIn at h
  split at h
  · rename_i q
    exact ⟨q, h⟩
  · cases h
theorem cutIn_yes {S : Addr → Bool} {H : Hp} {a : Addr} (h : S a = true) : cutIn S H a = H a := by
  unfold cutIn
  rw [if_pos h]
theorem cutIn_no {S : Addr → Bool} {H : Hp} {a : Addr} (h : S a = false) : cutIn S H a = none := by
  unfold cutIn
  rw [if_neg (by rw [h]; decide)]
def Emp : MP := ⟨fun _ _ => True, fun _ _ _ _ _ _ _ => trivial⟩
def Pt (a : Addr) (o : HO) : MP := ⟨fun _ H => H a = some o, fun _ _ _ _ _ e h => e _ _ h⟩
def Star (P Q : MP) : MP := ⟨fun B H => ∃ S : Addr → Bool, P.p B (cutIn S H) ∧ Q.p B (cutIn (fun a => !S a) H), fun _ _ _ _ b e ⟨S, h1, h2⟩ => ⟨S, P.m _ _ _ _ b (cutIn_ex e) h1, Q.m _ _ _ _ b (cutIn_ex e) h2⟩⟩
def Stars : List MP → MP
  | [] => Emp
  | P :: l => Star P (Stars l)
def ExM {α : Type} (f : α → MP) : MP := ⟨fun B H => ∃ x, (f x).p B H, fun _ _ _ _ b e ⟨x, h⟩ => ⟨x, (f x).m _ _ _ _ b e h⟩⟩
theorem cut_cut {S T : Addr → Bool} {H : Hp} : cutIn S (cutIn T H) = cutIn (fun a => T a && S a) H := by
  funext a
  unfold cutIn
  cases hs : S a <;> cases ht : T a <;> simp [hs, ht]
theorem cut_all {H : Hp} : cutIn (fun _ => true) H = H := funext fun a => cutIn_yes rfl
theorem cut_all' {H : Hp} : cutIn (fun a => !((fun _ => false) a)) H = H := funext fun a => cutIn_yes rfl
theorem star_comm {P Q : MP} {B H : Hp} (h : (Star P Q).p B H) : (Star Q P).p B H := by
  obtain ⟨S, h1, h2⟩ := h
  refine ⟨fun a => !S a, h2, ?_⟩
  have e : (fun a => !!S a) = S := by
    funext a
    exact Bool.not_not _
  show P.p B (cutIn (fun a => !!S a) H)
  rw [e]
  exact h1
theorem star_l {P Q : MP} {B H : Hp} (h : (Star P Q).p B H) : P.p B H := by
  obtain ⟨S, h1, h2⟩ := h
  exact P.m _ _ _ _ (Ex.refl B) cutIn_sub h1
theorem star_r {P Q : MP} {B H : Hp} (h : (Star P Q).p B H) : Q.p B H := by
  obtain ⟨S, h1, h2⟩ := h
  exact Q.m _ _ _ _ (Ex.refl B) cutIn_sub h2
theorem star_mono {P P' Q Q' : MP} {B H : Hp} (hp : ∀ H, P.p B H → P'.p B H) (hq : ∀ H, Q.p B H → Q'.p B H) (h : (Star P Q).p B H) : (Star P' Q').p B H := by
  obtain ⟨S, h1, h2⟩ := h
  exact ⟨S, hp _ h1, hq _ h2⟩
theorem star_swap {P Q R : MP} {B H : Hp} (h : (Star P (Star Q R)).p B H) : (Star Q (Star P R)).p B H := by
  obtain ⟨S, h1, T, h2, h3⟩ := h
  rw [cut_cut] at h2 h3
  refine ⟨fun a => !S a && T a, h2, fun a => S a, ?_, ?_⟩
  · rw [cut_cut]
    refine P.m _ _ _ _ (Ex.refl B) (fun a o h => ?_) h1
    obtain ⟨q, h⟩ := cutIn_at h
    rw [cutIn_yes (by show (!(!S a && T a) && S a) = true; rw [q]; rfl)]
    exact h
  · rw [cut_cut]
    refine R.m _ _ _ _ (Ex.refl B) (fun a o h => ?_) h3
    obtain ⟨q, h⟩ := cutIn_at h
    have q : (!S a && !T a) = true := q
    rw [cutIn_yes (by
      show (!(!S a && T a) && !S a) = true
      cases hs : S a <;> cases ht : T a <;> rw [hs, ht] at q <;> first | rfl | cases q)]
    exact h
theorem star_assoc {P Q R : MP} {B H : Hp} (h : (Star (Star P Q) R).p B H) : (Star P (Star Q R)).p B H := star_mono (fun _ h => h) (fun _ h => star_comm h) (star_swap (star_mono (P' := R) (fun _ h => h) (fun _ h => h) (star_comm h)) |> star_mono (fun _ h => h) (fun _ h => h))
theorem star_assoc' {P Q R : MP} {B H : Hp} (h : (Star P (Star Q R)).p B H) : (Star (Star P Q) R).p B H := by
  have h1 : (Star R (Star P Q)).p B H := by
    have h2 : (Star P (Star R Q)).p B H := star_mono (fun _ h => h) (fun _ h => star_comm h) h
    exact star_swap h2
  exact star_comm h1
theorem stars_app : ∀ {l k : List MP} {B H : Hp}, (Star (Stars l) (Stars k)).p B H → (Stars (l ++ k)).p B H
  | [], _, _, _, h => star_r h
  | P :: l, k, _, _, h => star_mono (fun _ h => h) (fun _ h => stars_app h) (star_assoc h)
theorem stars_app' : ∀ {l k : List MP} {B H : Hp}, (Stars (l ++ k)).p B H → (Star (Stars l) (Stars k)).p B H
  | [], _, _, _, h => ⟨fun _ => false, trivial, by
    rw [cut_all']
    exact h⟩
  | P :: l, k, _, _, h => star_assoc' (star_mono (fun _ h => h) (fun _ h => stars_app' h) h)
theorem stars_pull : ∀ (l : List MP) (i : Nat) {B H : Hp} {P : MP}, l[i]? = some P → (Stars l).p B H → (Stars (P :: l.eraseIdx i)).p B H
  | [], i, _, _, _, e, _ => by simp at e
  | Q :: l, 0, _, _, _, e, h => by
    cases (show some Q = some _ from e)
    exact h
  | Q :: l, i + 1, _, _, P, e, h => star_swap (star_mono (P := Q) (Q := Stars l) (Q' := Stars (P :: l.eraseIdx i)) (fun _ h => h) (fun _ h => stars_pull l i (by simpa using e) h) h)
theorem stars_put : ∀ (l : List MP) (i : Nat) {B H : Hp} {P P' : MP}, l[i]? = some P → (Stars (P' :: l.eraseIdx i)).p B H → (Stars (l.set i P')).p B H
  | [], i, _, _, _, _, e, _ => by simp at e
  | Q :: l, 0, _, _, _, _, e, h => h
  | Q :: l, i + 1, _, _, P, P', e, h => star_mono (P := Q) (Q := Stars (P' :: l.eraseIdx i)) (Q' := Stars (l.set i P')) (fun _ h => h) (fun _ h => stars_put l i (P := P) (by simpa using e) h) (star_swap h)
theorem stars_at {l : List MP} {i : Nat} {B H : Hp} {P : MP} (e : l[i]? = some P) (h : (Stars l).p B H) : P.p B H := star_l (stars_pull l i e h)
/-- the base (what never changes), and what stands apart from it -/
def At (B : Hp) (l : List MP) (H : Hp) : Prop := ∃ S : Addr → Bool, Ex B (cutIn S H) ∧ (Stars l).p B (cutIn (fun a => !S a) H)
section
variable {K : PySem.W.Frag} {B H H1 : Hp} {l l' : List MP} {P Q : MP} {i : Nat} {a p : Addr} {o u : HO}
theorem at_map (f : ∀ H, (Stars l).p B H → (Stars l').p B H) (h : At B l H) : At B l' H := by
  obtain ⟨S, h1, h2⟩ := h
  exact ⟨S, h1, f _ h2⟩
theorem at_base (h : At B l H) : Ex B H := by
  obtain ⟨S, h1, h2⟩ := h
  exact h1.trans cutIn_sub
theorem at_ex (h : At B l H) (e : Ex H H1) : At B l H1 := by
  obtain ⟨S, h1, h2⟩ := h
  exact ⟨S, h1.trans (cutIn_ex e), (Stars l).m _ _ _ _ (Ex.refl B) (cutIn_ex e) h2⟩
theorem at_p (i : Nat) (e : l[i]? = some P) (h : At B l H) : P.p B H := by
  obtain ⟨S, h1, h2⟩ := h
  exact P.m _ _ _ _ (Ex.refl B) cutIn_sub (stars_at e h2)
theorem at_get (i : Nat) (e : l[i]? = some (Pt a o)) (h : At B l H) : H a = some o := at_p i e h
theorem at_drop (h : At B (P :: l) H) : At B l H := at_map (l := P :: l) (fun _ h => star_r h) h
theorem at_swap {R : MP} (h : At B (P :: R :: l) H) : At B (R :: P :: l) H := at_map (l := P :: R :: l) (l' := R :: P :: l) (fun _ h => star_swap h) h
theorem at_stars {k : List MP} (h : At B (Stars k :: l) H) : At B (k ++ l) H := at_map (l := Stars k :: l) (fun _ h => stars_app h) h
theorem at_stars' (k : List MP) (h : At B (k ++ l) H) : At B (Stars k :: l) H := at_map (l' := Stars k :: l) (fun _ h => stars_app' h) h
theorem at_exm {α : Type} {f : α → MP} (h : At B (ExM f :: l) H) : ∃ x, At B (f x :: l) H := by
  obtain ⟨S, h1, T, ⟨x, h2⟩, h3⟩ := h
  exact ⟨x, S, h1, T, h2, h3⟩
theorem at_exm' {α : Type} {f : α → MP} (x : α) (h : At B (f x :: l) H) : At B (ExM f :: l) H := by
  obtain ⟨S, h1, T, h2, h3⟩ := h
  exact ⟨S, h1, T, ⟨x, h2⟩, h3⟩
theorem upd_cut {S : Addr → Bool} (hS : S a = false) : cutIn S (upd H a o) = cutIn S H := by
  funext b
  by_cases q : b = a
  · rw [q, cutIn_no hS, cutIn_no hS]
  · unfold cutIn
    rw [upd_ne q]
/-- what stands at one of the places is written -/
theorem star_upd (h : (Star (Pt a o) P).p B H) : (Star (Pt a u) P).p B (upd H a u) := by
  obtain ⟨S, h1, h2⟩ := h
  have hs := (cutIn_at (show cutIn S H a = some o from h1)).1
  refine ⟨S, ?_, ?_⟩
  · show cutIn S (upd H a u) a = some u
    rw [cutIn_yes hs, upd_same]
  · rw [upd_cut (S := fun b => !S b) (by rw [hs]; rfl)]
    exact h2
theorem cut_upd {S : Addr → Bool} (hS : S a = true) : cutIn S (upd H a o) = upd (cutIn S H) a o := by
  funext b
  by_cases q : b = a
  · rw [q, cutIn_yes hS, upd_same, upd_same]
  · rw [upd_ne q]
    unfold cutIn
    rw [upd_ne q]
theorem at_upd (i : Nat) (e : l[i]? = some (Pt a o)) (h : At B l H) : At B (l.set i (Pt a u)) (upd H a u) := by
  obtain ⟨S, h1, h2⟩ := h
  have hs : (!S a) = true := (cutIn_at (show cutIn (fun a => !S a) H a = some o from stars_at e h2)).1
  have hs' : S a = false := by
    cases q : S a
    · rfl
    · rw [q] at hs; cases hs
  refine ⟨S, by rw [upd_cut hs']; exact h1, ?_⟩
  rw [cut_upd hs]
  exact stars_put l i e (star_upd (stars_pull l i e h2))
/-- something new -/
theorem star_new (h : P.p B H) (np : H p = none) (e : Ex H H1) (hp : H1 p = some o) : (Star (Pt p o) P).p B H1 := by
  refine ⟨fun a => decide (a = p), ?_, P.m _ _ _ _ (Ex.refl B) (fun a u h => ?_) h⟩
  · show cutIn (fun a => decide (a = p)) H1 p = some o
    rw [cutIn_yes (decide_eq_true rfl)]
    exact hp
  · have ne : a ≠ p := ne_of_none h np
    rw [cutIn_yes (by show (!decide (a = p)) = true; rw [decide_eq_false ne]; rfl)]
    exact e a u h
theorem at_new (h : At B l H) (np : H p = none) (e : Ex H H1) (hp : H1 p = some o) : At B (Pt p o :: l) H1 := by
  obtain ⟨S, h1, h2⟩ := h
  refine ⟨fun a => S a && !decide (a = p), fun a u ha => ?_, ?_⟩
  · obtain ⟨q, hh⟩ := cutIn_at (h1 a u ha)
    rw [cutIn_yes (by show (S a && !decide (a = p)) = true; rw [q, decide_eq_false (ne_of_none hh np)]; rfl)]
    exact e a u hh
  · refine star_new (P := Stars l) (H := cutIn (fun a => !S a) H) h2 ?_ (fun a u ha => ?_) ?_
    · unfold cutIn
      split
      · exact np
      · rfl
    · obtain ⟨q, hh⟩ := cutIn_at ha
      rw [cutIn_yes (by
        show (!(S a && !decide (a = p))) = true
        cases hs : S a
        · rfl
        · rw [hs] at q; cases q)]
      exact e a u hh
    · rw [cutIn_yes (by show (!(S p && !decide (p = p))) = true; rw [decide_eq_true rfl]; simp)]
      exact hp
/-- a new thing that belongs to the base from now on: all that is new does -/
theorem at_grow (h : At B l H) (e : Ex H H1) : At (ov B H H1) l H1 := by
  obtain ⟨S, h1, h2⟩ := h
  refine ⟨fun a => S a || (H a).isNone, ?_, (Stars l).m _ _ _ _ ov_base (fun a o ha => ?_) h2⟩
  · intro a o ha
    unfold ov at ha
    cases hb : B a with
    | some o' =>
      rw [hb] at ha
      have hc := h1 a o' hb
      obtain ⟨q, hh⟩ := cutIn_at hc
      rw [cutIn_yes (by show (S a || (H a).isNone) = true; rw [q]; rfl), ← ha]
      exact e a o' hh
    | none =>
      rw [hb] at ha
      cases h0 : H a with
      | some o' => rw [h0] at ha; cases ha
      | none =>
        rw [h0] at ha
        rw [cutIn_yes (by show (S a || (H a).isNone) = true; rw [h0]; simp)]
        exact ha
  · obtain ⟨q, hh⟩ := cutIn_at ha
    rw [cutIn_yes (by
      show (!(S a || (H a).isNone)) = true
      rw [hh]
      cases hs : S a
      · rfl
      · rw [hs] at q; cases q)]
    exact e a o hh
end
theorem stars_perm {l l' : List MP} (h : l.Perm l') : ∀ {B H : Hp}, (Stars l).p B H → (Stars l').p B H := by
  induction h with
  | nil => exact fun h => h
  | cons x _ ih => exact fun h => star_mono (P := x) (fun _ h => h) (fun _ h => ih h) h
  | swap x y l => exact fun h => star_swap h
  | trans _ _ ih1 ih2 => exact fun h => ih2 (ih1 h)
theorem at_perm {B H : Hp} {l l' : List MP} (p : l.Perm l') (h : At B l H) : At B l' H := at_map (fun _ h => stars_perm p h) h
theorem range_get {α : Type} (d : α) : ∀ l : List α, (List.range l.length).map (fun i => l.getD i d) = l := fun l => by
  refine List.ext_getElem (by simp) fun i h1 h2 => ?_
  simp [List.getD_eq_getElem?_getD, List.getElem?_eq_getElem h2]
theorem at_ix {B H : Hp} {l : List MP} (n : Nat) (is : List Nat) (h : At B l H) (hp : is.isPerm (List.range n) = true := by decide) (hn : n ≤ l.length := by simp) : At B (is.map (fun i => l.getD i Emp) ++ l.drop n) H := by
  refine at_perm ?_ h
  have p := List.isPerm_iff.mp hp
  have e : (List.range n).map (fun i => l.getD i Emp) = l.take n := by
    have e1 := range_get Emp (l.take n)
    rw [List.length_take, Nat.min_eq_left hn] at e1
    refine Eq.trans (List.map_congr_left fun i hi => ?_) e1
    have hi := List.mem_range.mp hi
    rw [List.getD_eq_getElem?_getD, List.getD_eq_getElem?_getD, List.getElem?_take_of_lt hi]
  have q := (p.map (fun i => l.getD i Emp)).append_right (l.drop n)
  rw [e, List.take_append_drop] at q
  exact q.symm
end Ap
set_option Elab.async false
set_option linter.all false
set_option maxRecDepth 100000
namespace Ap
open PySem PySem.Spec PyProof.Rows L2 Evl
structure Rr where
  r : V → Hp → Prop
  m : ∀ {v : V} {B B' : Hp}, Ex B B' → r v B → r v B'
section
variable {K : PySem.W.Frag} {σ : L2.St} {B B' H H' : Hp} {l l' : List MP} {ta tb te : TE} {t : TT} {x y v : V} {d : PyData} {ds : List PyData} {R R' : Rr} {P : MP} {i j : Nat} {a p : Addr} {o u : HO}
theorem at_tup {vs : List V} (hA : At B l H) (hp : H p = none) : Ex B (ov B H (upd H p (.tup vs))) ∧ At (ov B H (upd H p (.tup vs))) l (upd H p (.tup vs)) ∧ ov B H (upd H p (.tup vs)) p = some (.tup vs) :=
  ⟨ov_base, at_grow hA (Ex.new hp), ov_new (at_base hA) (Ex.refl H) hp⟩
variable {D : Ends} {tz tu tw : TS}
theorem qe_asg (hA : At B l H) (h : Ev te σ H x) (k : ∀ H1, At B l H1 → tz D (σ.set i (some x)) H1) : tSeq (tAsg te (gName i)) tz D σ H := q_asg h fun H1 e => k H1 (at_ex hA e)
theorem ev_fld {C dx : Addr} {fs : List (Str × V)} {f : Str} (h : Ev ta σ H (.ref a)) (ha : H a = some (.ins C dx fs)) (c : Cls K C) (n : NoAttr K C f) (hl : fs.lookup f = some v) : Ev (tFld K ta f) σ H v := fun H1 e Q q => h H1 e _ fun H2 e2 => ⟨a, C, dx, fs, v, rfl, (e.trans e2) _ _ ha, c, n, hl, q H2 e2⟩
theorem qe_fld {C dx : Addr} {fs : List (Str × V)} {f : Str} (k : Nat) (hk : l[k]? = some (Pt a (.ins C dx fs))) (hA : At B l H) (hv : Ev tb σ H y) (ho : ∀ H1, Ev ta σ H1 (.ref a)) (c : Cls K C) (n : NoAttr K C f) (hl : fs.length < 1000) (g : ∀ H1, At B (l.set k (Pt a (.ins C dx (putF f y fs)))) H1 → tz D σ H1) : tSeq (sFld K ta tb f) tz D σ H :=
  hv H (Ex.refl H) _ fun H1 e1 => ho H1 H1 (Ex.refl H1) _ fun H2 e2 => ⟨a, C, dx, fs, rfl, at_get k hk (at_ex hA (e1.trans e2)), c, n, hl, g _ (at_upd k hk (at_ex hA (e1.trans e2)))⟩
/-- o.f = {} -/
theorem qe_fldD {C dx : Addr} {fs : List (Str × V)} {f : Str} (k : Nat) (hk : l[k]? = some (Pt a (.ins C dx fs))) (hA : At B l H) (ho : ∀ H1, Ev ta σ H1 (.ref a)) (c : Cls K C) (n : NoAttr K C f) (hl : fs.length < 1000) (g : ∀ p H1, At B (Pt p (.dK []) :: l.set k (Pt a (.ins C dx (putF f (.ref p) fs)))) H1 → tz D σ H1) : tSeq (sFld K ta tDNewK f) tz D σ H := fun p hp =>
  have hA1 := at_new hA hp (Ex.new hp) upd_same
  ho _ _ (Ex.refl _) _ fun H2 e2 => ⟨a, C, dx, fs, rfl, at_get (k + 1) (by simpa using hk) (at_ex hA1 e2), c, n, hl, g p _ (by
    have h := at_upd (u := .ins C dx (putF f (.ref p) fs)) (k + 1) (by simpa using hk) (at_ex hA1 e2)
    simpa using h)⟩
theorem se_fldD {C dx : Addr} {fs : List (Str × V)} {f : Str} (k : Nat) (hk : l[k]? = some (Pt a (.ins C dx fs))) (hA : At B l H) (ho : ∀ H1, Ev ta σ H1 (.ref a)) (c : Cls K C) (n : NoAttr K C f) (hl : fs.length < 1000) (g : ∀ p H1, At B (Pt p (.dK []) :: l.set k (Pt a (.ins C dx (putF f (.ref p) fs)))) H1 → D.nx σ H1) : sFld K ta tDNewK f D σ H :=
  qe_fldD (tz := fun D => D.nx) k hk hA ho c n hl g
/-- C(..) -/
theorem make_at {C : Addr} {sp : Sp} {E : XK} {ta : TA} {vs : List V} {Q : VK} (hA : At B l H) (h : EvA ta σ H vs) (k : ∀ x dx H1, At B (Pt x (.ins C dx []) :: l) H1 → sp (.ref x :: (vs ++ [])) H1 (fun v H2 => v = .non ∧ Q (.ref x) H2) E) : tMake C sp [] E ta σ H Q := h H (Ex.refl H) _ fun H1 e1 x dx nx ndx ne => by
  have h1 := at_new (at_ex hA e1) ndx (Ex.new ndx) (upd_same (o := .own x))
  have nx' : upd H1 dx (.own x) x = none := by rw [upd_ne (Ne.symm ne)]; exact nx
  have h2 := at_new h1 nx' (Ex.new nx') (upd_same (o := .ins C dx []))
  exact k x dx _ (at_drop (at_swap h2))
end
mutual
theorem dp_dx {K : PySem.W.Frag} {H : Hp} : ∀ (d : PyData) (v : V), Dp K H v d → Dx K H v d
  | .none, _, h => by cases h; exact .non
  | .bool b, _, h => by cases h; exact .bl b
  | .int i, _, h => by cases h; exact .int i
  | .str x, _, h => by cases h; exact .str x
  | .list ds, _, h => by
    cases h with
    | lst hs ha => exact .lst hs (dpa_dxa ds _ ha)
  | .tuple ds, _, h => by
    cases h with
    | tup hs ha => exact .tup hs (dpa_dxa ds _ ha)
  | .dict _, _, h => by cases h
theorem dpa_dxa {K : PySem.W.Frag} {H : Hp} : ∀ (ds : List PyData) (vs : List V), DpAll K H vs ds → DxAll K H vs ds
  | [], _, h => by cases h; exact .nil
  | d :: ds, _, h => by
    cases h with
    | cons h1 h2 => exact .cons (dp_dx d _ h1) (dpa_dxa ds _ h2)
end
def isLst : PyData → Bool
  | .list _ => true
  | _ => false
theorem kit_lst : ∀ d : PyData, kitB (tyN d) "list" = some (isLst d)
  | .none => (by decide +kernel : kitB "NoneType" "list" = some false)
  | .bool _ => (by decide +kernel : kitB "bool" "list" = some false)
  | .int _ => (by decide +kernel : kitB "int" "list" = some false)
  | .str _ => (by decide +kernel : kitB "str" "list" = some false)
  | .list _ => (by decide +kernel : kitB "list" "list" = some true)
  | .tuple _ => (by decide +kernel : kitB "tuple" "list" = some false)
  | .dict _ => (by decide +kernel : kitB "dict" "list" = some false)
theorem kitAny2 {K : PySem.W.Frag} {X T1 T2 : String} {b1 b2 : Bool} (h1 : kitB X T1 = some b1) (h2 : kitB X T2 = some b2) : PySem.W.kitAny K (.type X) [.type T1, .type T2] = some (b1 || b2) := by
  refine kitAny_cons (kit_ty h1) (fun e => ?_) (fun e => by rw [e]; rfl)
  rw [e, Bool.false_or]
  exact kitAny_cons (kit_ty h2) (fun e => by rw [e]; exact kitAny_nil) (fun e => e)
section
variable {K : PySem.W.Frag} {σ : L2.St} {H : Hp} {te ta tb : TE} {d : PyData} {ds : List PyData} {T T1 T2 : String} {b b1 b2 : Bool}
/-- isinstance(x, (T1, T2)) -/
theorem ev_isiT2 (h : EvX K te σ H d) (h1 : kitB (tyN d) T1 = some b1) (h2 : kitB (tyN d) T2 = some b2) : Ev (tCB (rIsiT K) (tCons te (tCons (tTup (tCons (tC (.ty T1)) (tCons (tC (.ty T2)) tNil))) tNil))) σ H (.bl (b1 || b2)) := fun H1 e Q q => h H1 e _ fun v H2 e2 hv => ⟨sz_of (by decide : 2 ≤ 100000), fun p hp =>
  ⟨v, p, [.ty T1, .ty T2], .type (tyN d), [.type T1, .type T2], b1 || b2, rfl, upd_same, .cons (.ty T1) (.cons (.ty T2) .nil), tyx_dx (dx_mono ((ov_ex e e2).trans (Ex.new hp)) d v hv), kitAny2 h1 h2, q _ (e2.trans (Ex.new hp))⟩⟩
theorem ev_lenX2 (h : d = .list ds ∨ d = .tuple ds) (ha : EvX K ta σ H d) : Ev (tCB (fun xs H Q => ∃ p ys, xs = [.ref p] ∧ (SqL K H p ys ∨ SqT K H p ys) ∧ Q (.int ys.length) H) (tCons ta tNil)) σ H (.int (ds.length : Int)) := by
  rcases h with rfl | rfl
  · exact ev_lenX ha
  · exact ev_lenXT ha
theorem ex_ix2 {i : Int} {e : PyData} (h : d = .list ds ∨ d = .tuple ds) (ha : EvX K ta σ H d) (hb : Ev tb σ H (.int i)) (hi : atI ds i = some e) : EvX K (tOp (rIx K) ta tb) σ H e := fun H1 e1 Q q =>
  ha H1 e1 _ fun v H2 e2 hv => hb H2 (e1.trans e2) _ fun H3 e3 => by
    rcases h with rfl | rfl
    · cases hv with
      | lst hs hd =>
        obtain ⟨j, hj, hx⟩ := atI_len (dxa_len hd) hi
        obtain ⟨x, ex, dx⟩ := dxa_at hd hj
        exact .inl ⟨_, _, i, x, rfl, rfl, Evl.ex_l ((ov_ex e1 e2).trans e3) hs, hx x ex, q x H3 (e2.trans e3) (dx_mono (ov_grow e3) _ x dx)⟩
    · cases hv with
      | tup hs hd =>
        obtain ⟨j, hj, hx⟩ := atI_len (dxa_len hd) hi
        obtain ⟨x, ex, dx⟩ := dxa_at hd hj
        exact .inr (.inl ⟨_, _, i, x, rfl, rfl, ex_t ((ov_ex e1 e2).trans e3) hs, hx x ex, q x H3 (e2.trans e3) (dx_mono (ov_grow e3) _ x dx)⟩)
/-- a call on data: its arguments known as data alone -/
theorem ev_callD {sp : Sp} {E : XK} {ta : TA} {x : V} (h : EvXs K ta σ H ds) (hs : ∀ vs H1, Ex H H1 → DxAll K H1 vs ds → ∀ Q : VK, (∀ H2, Ex H1 H2 → Q x H2) → sp (vs ++ []) H1 Q E) : Ev (tCall sp [] E ta) σ H x := fun H1 e Q q => h H1 e _ fun vs H2 e2 hv => hs vs H2 (e.trans e2) (dxa_mono (ov_ex e e2) _ _ hv) Q fun H3 e3 => q H3 (e2.trans e3)
end
/-- bounded, and no dict within -/
inductive Okn : Nat → PyData → Prop
  | non {n : Nat} : Okn n .none
  | bl {n : Nat} (b : Bool) : Okn n (.bool b)
  | int {n : Nat} (i : Int) : Okn n (.int i)
  | str {n : Nat} (x : Str) : Okn n (.str x)
  | lst {n : Nat} {ds : List PyData} (h : ds.length ≤ 50000) (hs : ∀ d, d ∈ ds → Okn n d) : Okn (n + 1) (.list ds)
  | tup {n : Nat} {ds : List PyData} (h : ds.length ≤ 50000) (hs : ∀ d, d ∈ ds → Okn n d) : Okn (n + 1) (.tuple ds)
theorem Okn.mono {n m : Nat} {d : PyData} (h : Okn n d) : n ≤ m → Okn m d := by
  induction h generalizing m with
  | non => exact fun _ => .non
  | bl b => exact fun _ => .bl b
  | int i => exact fun _ => .int i
  | str x => exact fun _ => .str x
  | lst h hs ih =>
    intro hl
    obtain ⟨k, rfl⟩ : ∃ k, m = k + 1 := ⟨m - 1, by omega⟩
    exact .lst h fun d hd => ih d hd (by omega)
  | tup h hs ih =>
    intro hl
    obtain ⟨k, rfl⟩ : ∃ k, m = k + 1 := ⟨m - 1, by omega⟩
    exact .tup h fun d hd => ih d hd (by omega)
def spSame (K : PySem.W.Frag) (n : Nat) : Sp := fun vs H Q _ => ∃ (x y : V) (d : PyData), vs = [x, y] ∧ Dx K H x d ∧ Dx K H y d ∧ Okn n d ∧ RetV (.bl true) H Q
theorem et_isN {σ : L2.St} {H : Hp} {ta : TE} {x : V} (h : Ev ta σ H x) : EvT (tTest (tOp (fun x y H Q => y = .non ∧ Q (.bl (decide (x = .non))) H) ta (tC .non))) σ H (decide (x = .non)) := et_test (ev_op h ev_c (fun G _ _ q => ⟨rfl, q G (Ex.refl G)⟩))
theorem ev_isN {σ : L2.St} {H : Hp} {ta : TE} {x : V} (h : Ev ta σ H x) : Ev (tOp (fun x y H Q => y = .non ∧ Q (.bl (decide (x = .non))) H) ta (tC .non)) σ H (.bl (decide (x = .non))) := ev_op h ev_c (fun G _ _ q => ⟨rfl, q G (Ex.refl G)⟩)
theorem rv_eqT {H : Hp} {x : V} (h : scal x x = true) : RV rEq x x H (.bl true) := by
  have := rv_eq (H := H) h
  rwa [decide_eq_true rfl] at this
/-- what an expression does, its value set to a name | dropped | tested -/
theorem q_do {σ : L2.St} {H : Hp} {D : Ends} {tz : TS} {te : TE} {i : Nat} (h : te σ H (fun v H' => tz D (σ.set i (some v)) H')) : tSeq (tAsg te (gName i)) tz D σ H := h
theorem s_do {σ : L2.St} {H : Hp} {D : Ends} {te : TE} {i : Nat} (h : te σ H (fun v H' => D.nx (σ.set i (some v)) H')) : tAsg te (gName i) D σ H := h
section
variable {K : PySem.W.Frag} {σ : L2.St} {H : Hp} {te ta tb : TE} {tr : TA} {v : V} {D : Ends} {tz : TS} {E : XK} {sp : Sp} {r : R2}
theorem go_cons {Q : List V → Hp → Prop} (h : Ev te σ H v) (k : ∀ H1, Ex H H1 → tr σ H1 fun xs H2 => Q (v :: xs) H2) : tCons te tr σ H Q := h H (Ex.refl H) _ k
theorem go_cons' {Q : List V → Hp → Prop} (h : te σ H fun v H1 => tr σ H1 fun xs H2 => Q (v :: xs) H2) : tCons te tr σ H Q := h
theorem go_nil {Q : List V → Hp → Prop} (h : Q [] H) : tNil σ H Q := h
theorem go_lst {Q : VK} (h : tr σ H fun xs H1 => xs.length ≤ sizeLine ∧ ∀ p, H1 p = none → Q (.ref p) (upd H1 p (.lst xs))) : tLst tr σ H Q := h
theorem go_tup {Q : VK} (h : tr σ H fun xs H1 => xs.length ≤ sizeLine ∧ ∀ p, H1 p = none → Q (.ref p) (upd H1 p (.tup xs))) : tTup tr σ H Q := h
theorem go_call {Q : VK} (h : tr σ H fun vs H1 => sp (vs ++ []) H1 Q E) : tCall sp [] E tr σ H Q := h
theorem go_op {Q : VK} (h : ta σ H fun x H1 => tb σ H1 fun y H2 => r x y H2 Q) : tOp r ta tb σ H Q := h
theorem go_ev {Q : VK} (h : Ev te σ H v) (k : ∀ H1, Ex H H1 → Q v H1) : te σ H Q := h H (Ex.refl H) Q k
end
end Ap
set_option Elab.async false
set_option linter.all false
set_option maxRecDepth 100000
set_option Elab.async false
set_option linter.all false
set_option maxRecDepth 100000
namespace Ap
open PySem PySem.Spec PyProof.Rows L2
/-- o.m(), m may raise -/
theorem pe_mx0 {X : Cx} {CX : CXT} {k : Nat} {f C : Addr} {fd : FuncData} {ps : List Str} {sp : Sp} {E : L2.St → XK} {m : Str} {pos apos : Pos} {o : Expr} {ta : TE} {pl : Sem Bool}
    (he : PE X o ta) (c : Cls X.K C) (hm : Meth X.K C m f) (F : FnOk X.prog X.w X.K X.mg X.base CX k f fd ps sp) (hr : Room k X.A) (hb : Binds X.K fd ps []) (hx : ∀ σ, PassesAt CX X σ (E σ))
    (z3 : eval (.Call (.Attribute o m apos) [] [] pos) X.env = (do { let ov ← eval o X.env; standAt apos.atName; let (f, first) ← holding [ov] (getMethod ov m pl); callWith pos f first (backTo pos (starEach [] X.env)) (backToKw pos (keywordEach [] X.env)) }) := by rfl) :
    PE X (.Call (.Attribute o m apos) [] [] pos) (tMX C m sp E ta tNil) := ⟨fun pins s σ H Q I h => PySem.W.methodCall_KW (pl := pl) (thn (he.run pins s σ H _ I h) fun u s1 hh => by
  obtain ⟨x, G, J, rx, a, dx, fs, ex, ea, l, q⟩ := hh
  subst ex
  cases (show u = Value.ref a from rx)
  exact getmeth_ok J ea c hm l (PySem.W.callWith_K0 (first := [.ref a]) J.kIn hm.kp (run_fnS (us := [.ref a]) (vs := [.ref a]) F hr hb (hx σ) J (.cons rfl .nil) q))) z3⟩
theorem kit_ownB {K : PySem.W.Frag} {t : Value} {B : Addr} {b : Bool} (hd : PySem.W.hasDictIn K B = true) (ht : PySem.W.typeIn K (.ref B) = some (.type "type")) (hs : PySem.W.subIn K t (.ref B) = some b) (hne : b = false → (t == Value.ref B) = false) : PySem.W.kitOne K t (.ref B) = some b := by
  obtain ⟨cd, hc, _⟩ := PySem.W.any_some hd
  unfold PySem.W.kitOne
  cases b with
  | true =>
    split
    · rfl
    · show (if ((PySem.W.clsIn K B).isSome && PySem.W.typeIn K (.ref B) == some (.type "type")) = true then PySem.W.subIn K t (.ref B) else none) = some true
      rw [hc, ht, if_pos (by rfl)]
      exact hs
  | false =>
    rw [if_neg (by rw [hne rfl]; decide)]
    show (if ((PySem.W.clsIn K B).isSome && PySem.W.typeIn K (.ref B) == some (.type "type")) = true then PySem.W.subIn K t (.ref B) else none) = some false
    rw [hc, ht, if_pos (by rfl)]
    exact hs
end Ap
set_option Elab.async false
set_option linter.all false
set_option maxRecDepth 100000
set_option Elab.async false
set_option linter.all false
set_option maxRecDepth 100000
set_option maxHeartbeats 2000000
namespace Ap
open PySem PySem.Spec PyProof.Rows L2 Evl
open He (ga ma eqO eqO_ok ba frG frG_in FnV)
section
variable {K : PySem.W.Frag} {h : Heap} {mg : Str → Option Value}
theorem hf_g {x : Str} (c : bG K x = true) : PySem.W.nsIn K mainGlobals x = some (some (.ref (ga K x))) := eqO_ok c
theorem hf_free (X : K.In h) (G : h.Ns mainGlobals mg) {x : Str} (c : bFree K x = true) : mg x = none := PySem.W.mg_none_of X G (eqO_ok c)
theorem hf_df (X : K.In h) (G : h.Ns mainGlobals mg) {x : Str} {st : Stmt} {ps : List Str} (c : bDf K x = true) (e : fnV K (ga K x) = fnD x x st)
    (hb : ∀ (kV doc pm : Value) (an : Option Addr) (cdv ct : Value) (us : List Value), us.length = ps.length → bindArgs (PySem.W.fnOf x x (defArgs st) (defBody st) (defScope st) .none kV doc pm an cdv ct) ⟨us, []⟩ = pure (ps.zip us)) : ∃ f fd, Df K mg x st ps f fd := by
  obtain ⟨c1, c2⟩ := ba c
  obtain ⟨c2, c3⟩ := ba c2
  obtain ⟨oc, od, osl, kV, doc, pm, an, cdv, ct, l, cc⟩ := hf_fn_got e c3
  exact df_mk X G (hf_g c1) l cc c2 hb
theorem hf_law (X : K.In h) (G : h.Ns mainGlobals mg) {st : Stmt} {fa : Addr} (hfa : mg "law" = some (.ref fa)) (c : bDf K "law" = true) (e : fnV K (ga K "law") = fnD "law" "law" st)
    (hb : ∀ (kV doc pm : Value) (an : Option Addr) (cdv ct : Value) (s : Shared) (v : Value), BindsTo s (PySem.W.fnOf "law" "law" (defArgs st) (defBody st) (defScope st) .none kV doc pm an cdv ct) ⟨[v], []⟩ [("script", v)]) :
    ∃ fd, (∀ (s : Shared) (v : Value), BindsTo s fd ⟨[v], []⟩ [("script", v)]) ∧ Fun K "law" "law" st fa fd := by
  obtain ⟨c1, c2⟩ := ba c
  obtain ⟨c2, c3⟩ := ba c2
  obtain ⟨oc, od, osl, kV, doc, pm, an, cdv, ct, l, cc⟩ := hf_fn_got e c3
  exact law_mk X G hfa (hf_g c1) l cc c2 hb
theorem hf_kl (X : K.In h) (G : h.Ns mainGlobals mg) {x : Str} (c : bKl K x = true) : Kl K mg x (ga K x) := by
  obtain ⟨c1, c⟩ := ba c
  obtain ⟨c2, c⟩ := ba c
  obtain ⟨c3, c⟩ := ba c
  obtain ⟨c4, c⟩ := ba c
  obtain ⟨c5, c⟩ := ba c
  obtain ⟨c6, c7⟩ := ba c
  exact kl_mk X G (hf_g c1) c2 c3 c4 (eqO_ok c5) c6 c7
theorem hf_na {x f : Str} (c : bNa K x f = true) : NoAttr K (ga K x) f := eqO_ok c
theorem hf_dm (X : K.In h) {x m q : Str} {st : Stmt} {ps : List Str} (c : bDm K x m q = true) (e : fnV K (ma K (ga K x) m) = fnD m q st)
    (hb : ∀ (kV doc pm : Value) (an : Option Addr) (cdv ct : Value) (us : List Value), us.length = ps.length → bindArgs (PySem.W.fnOf m q (defArgs st) (defBody st) (defScope st) .none kV doc pm an cdv ct) ⟨us, []⟩ = pure (ps.zip us)) : ∃ f fd, Dm K (ga K x) m q st ps f fd := by
  obtain ⟨c1, c⟩ := ba c
  obtain ⟨c2, c⟩ := ba c
  obtain ⟨c3, c4⟩ := ba c
  obtain ⟨oc, od, osl, kV, doc, pm, an, cdv, ct, l, cc⟩ := hf_fn_got e c4
  exact dm_mk X (eqO_ok c1) c2 l cc c3 hb
theorem hf_pr (X : K.In h) {x m q : Str} {st : Stmt} (c : bPr K x m q = true) (e : fnV K (hf_pa K x m) = fnD m q st)
    (hb : ∀ (kV doc pm : Value) (an : Option Addr) (cdv ct : Value) (us : List Value), us.length = (["self"] : List Str).length → bindArgs (PySem.W.fnOf m q (defArgs st) (defBody st) (defScope st) .none kV doc pm an cdv ct) ⟨us, []⟩ = pure ((["self"] : List Str).zip us)) : ∃ f fd, Pr K (ga K x) m q st f fd := by
  obtain ⟨c1, c⟩ := ba c
  obtain ⟨c2, c⟩ := ba c
  obtain ⟨c3, c⟩ := ba c
  obtain ⟨c4, c⟩ := ba c
  obtain ⟨c5, c6⟩ := ba c
  obtain ⟨oc, od, osl, kV, doc, pm, an, cdv, ct, l, cc⟩ := hf_fn_got e c6
  obtain ⟨rest, r⟩ := hf_rec_got c4
  exact pr_mk X (eqO_ok c1) (eqO_ok c2) (of_decide_eq_true c3) r l cc c5 hb
theorem hf_err (X : K.In h) (G : h.Ns mainGlobals mg) {x y : Str} (c : bErr K x y = true) : Err K mg x (ga K x) (ga K y) ∧ mg y = some (.ref (ga K y)) ∧ PySem.W.nsIn K mainGlobals x = some (some (.ref (ga K x))) := by
  obtain ⟨c1, c⟩ := ba c
  obtain ⟨c2, c⟩ := ba c
  obtain ⟨c3, c⟩ := ba c
  obtain ⟨c4, c⟩ := ba c
  obtain ⟨c5, c⟩ := ba c
  obtain ⟨c6, c⟩ := ba c
  obtain ⟨c7, c⟩ := ba c
  obtain ⟨c8, c⟩ := ba c
  obtain ⟨c9, c⟩ := ba c
  obtain ⟨c10, c⟩ := ba c
  obtain ⟨c11, c⟩ := ba c
  obtain ⟨c12, c⟩ := ba c
  obtain ⟨c13, c⟩ := ba c
  obtain ⟨c14, c⟩ := ba c
  obtain ⟨c15, c⟩ := ba c
  obtain ⟨c16, c⟩ := ba c
  obtain ⟨c17, c18⟩ := ba c
  obtain ⟨e1, e2⟩ := err_mk X G (hf_g c1) (hf_g c2) c3 c4 (of_decide_eq_true c5) (of_decide_eq_true c6) (of_decide_eq_true c7) (eqO_ok c8) (eqO_ok c9) c10 (eqO_ok c11) (eqO_ok c12) (of_decide_eq_true c13) (of_decide_eq_true c14) c15 (of_decide_eq_true c16) (of_decide_eq_true c17) (of_decide_eq_true c18)
  exact ⟨e1, e2, hf_g c1⟩
end
end Ap
set_option Elab.async false
set_option linter.all false
set_option maxRecDepth 100000
set_option maxHeartbeats 2000000
namespace Ap
open PySem PySem.Spec PyProof.Rows L2
open He (ga ba)
theorem dropF_get {K : PySem.W.Frag} {p a : Addr} {o : Obj} : (dropF K p).lookup a = some o → K.lookup a = some o ∧ a ≠ p := by
  induction K with
  | nil => intro h; cases h
  | cons x r ih =>
    obtain ⟨b, u⟩ := x
    unfold dropF
    rw [List.filter_cons]
    intro h
    by_cases hb : b = p
    · rw [if_neg (by simp [hb])] at h
      obtain ⟨h1, h2⟩ := ih h
      refine ⟨?_, h2⟩
      rw [List.lookup_cons]
      have : (a == b) = false := by rw [hb]; simpa using h2
      rw [this]
      exact h1
    · rw [if_pos (by simpa using hb)] at h
      rw [List.lookup_cons] at h ⊢
      by_cases ha : a = b
      · have : (a == b) = true := by simpa using ha
        rw [this] at h ⊢
        exact ⟨h, by rw [ha]; exact hb⟩
      · have : (a == b) = false := by simpa using ha
        rw [this] at h ⊢
        exact ih h
theorem dropF_in {K : PySem.W.Frag} {p : Addr} {h : Heap} (X : K.In h) : (dropF K p).In h := fun a o e => X a o (dropF_get e).1
theorem dropF_no {K : PySem.W.Frag} {p : Addr} : (dropF K p).lookup p = none := by
  cases h : (dropF K p).lookup p with
  | none => rfl
  | some o => exact absurd rfl (dropF_get h).2
theorem hf_tb {K : PySem.W.Frag} {p : Addr} {h : Heap} (X : K.In h) (c : bTb K p = true) : h.get? p = some { cls := .none, data := .fields #[] } := by
  unfold bTb at c
  split at c
  · rename_i us sl e
    obtain ⟨c1, c2⟩ := ba c
    have e1 : us = #[] := by
      obtain ⟨l⟩ := us
      cases l with
      | nil => rfl
      | cons _ _ => cases c1
    have e2 : sl = #[] := by
      obtain ⟨l⟩ := sl
      cases l with
      | nil => rfl
      | cons _ _ => cases c2
    subst e1 e2
    exact X _ _ e
  · cases c
theorem hf_co {K : PySem.W.Frag} {c p : Addr} {h : Heap} (X : K.In h) (z : bCo K c p = true) : PySem.W.CodeHd h c p := by
  unfold bCo at z
  split at z
  · rename_i T od vs sl e
    obtain ⟨w1, w2⟩ := ba z
    obtain ⟨w3, w4⟩ := ba w2
    have e1 : T = "code" := eq_of_beq w1
    subst e1
    unfold bVals at w3
    obtain ⟨y1, x2⟩ := ba w3
    obtain ⟨y2, x3⟩ := ba x2
    obtain ⟨y3, x4⟩ := ba x3
    obtain ⟨y4, y5⟩ := ba x4
    have hne : c ≠ p := by simpa using w4
    clear z w1 w2 w3 w4 x2 x3 x4
    split at y1
    · rename_i a ea
      have : a = p := eq_of_beq y1
      subst this
      split at y2
      · rename_i file tf e2
        split at y3
        · rename_i flags tg e3
          split at y4
          · rename_i inF e4
            split at y5
            · rename_i text tt e5
              exact ⟨_, vs, file, tf, flags, tg, inF, text, tt, X _ _ e, rfl, rfl, ea, by rw [Array.getD_eq_getD_getElem?, ea]; rfl, e2, e3, e4, e5, hne⟩
            · cases y5
          · cases y4
        · cases y3
      · cases y2
    · cases y1
  · cases z
theorem hf_cd {K : PySem.W.Frag} {mg : Str → Option Value} {x : Str} {p f : Addr} {h : Heap} {st : Stmt} {ps : List Str} {fd : FuncData} (X : K.In h) (G : h.Ns mainGlobals mg) (D : Df K mg x st ps f fd) (b : bDf K x = true) (z : bCd K x p = true) : ∃ c, fd.code = .ref c ∧ PySem.W.CodeHd h c p := by
  have hf : f = ga K x := by
    have e := PySem.W.mg_of X G (hf_g (ba b).1)
    rw [D.g] at e
    exact Value.ref.inj (Option.some.inj e)
  obtain ⟨oc, od, kV, doc, pm, an, cdv, ct, osl, rfl, lk, hcd⟩ := D.F.ex
  unfold bCd at z
  rw [← hf, lk] at z
  cases cdv with
  | ref c => exact ⟨c, rfl, hf_co X z⟩
  | _ => exact nomatch (show false = true from z)
end Ap
set_option Elab.async false
set_option linter.all false
set_option maxRecDepth 100000
set_option maxHeartbeats 4000000
namespace Ap
open PySem PySem.Spec PyProof.Rows L2 Evl PySem.W
local macro_rules | `(tactic| walk_at "sq") => `(tactic| first | assumption | (refine Evl.ex_l (by assumption) ?_; walk_at "sq"))
local macro_rules | `(tactic| walk_at "st") => `(tactic| first | assumption | (refine Evl.ex_t (by assumption) ?_; walk_at "st"))
local macro_rules | `(tactic| walk_at "ev") => `(tactic| (repeat' (first
  | (with_reducible first
    | exact ev_c
    | refine' ev_var ?_
    | exact ea_nil
    | refine' ea_cons ?_ ?_
    | refine' ev_op ?_ ?_ ?_
    | refine' ev_chain ?_ ?_ ?_ ?_ ?_
    | refine' ev_un ?_ ?_
    | exact rv_I0
    | refine' rv_I ?_
    | refine' ev_cb ?_ ?_
    | refine' ev_call ?_ ?_
    | exact rc_int
    | exact rc_max2
    | exact rc_min2
    | exact ru_neg
    | exact rc_isiI
    | exact rc_isiIB
    | exact rc_isiB
    | exact rc_isiBI
    | exact rv_eqI
    | exact rv_neI
    | refine' et_test ?_
    | refine' et_B ?_)
  | ((with_reducible show _ = _); rfl)
  | ((with_reducible show SqL _ _ _ _); walk_at "sq")
  | ((with_reducible show SqT _ _ _ _); walk_at "st")
  | ((with_reducible show CPow _ _); exact ⟨by decide, by decide, by decide⟩)
  | ((with_reducible show CDiv _ _); first | exact ⟨by decide, by decide⟩ | exact ⟨by omega, by omega⟩)
  | ((with_reducible show CMul _ _); first | exact .inr (by decide) | exact .inl (by decide) | exact .inr ⟨by omega, by omega⟩ | exact .inl ⟨by omega, by omega⟩)
  | ((with_reducible show SpV (spDraw _) _ _ _); refine' spDrawI ?_ ?_)
  | ((with_reducible show SpV _ _ _ _); walk_at "sp")
  | ((with_reducible show RC _ _ _ _); refine' rc_len ?_)
  | ((with_reducible show RV _ _ _ _ _); first | exact rv_eq rfl | exact rv_ne rfl | (refine' rv_ixL ?hq ?eq; (case hq => walk_at "sq"); (case eq => rfl)))
  | ((with_reducible show _ ≤ _); first | decide | omega)
  | ((with_reducible show _ < _); first | decide | omega)
  | decide)))
local macro_rules | `(tactic| walk_at "bo") => `(tactic| first | rfl | exact decide_eq_true (by omega) | exact decide_eq_false (by omega) | (rw [decide_eq_true (by omega)]; done) | (rw [decide_eq_false (by omega)]; done) | (simp; omega) | (simp; done))
local macro_rules | `(tactic| walk_at "tf") => `(tactic| first
  | ((with_reducible refine' et_orF ?_ ?_) <;> walk_at "tf")
  | ((with_reducible refine' et_andT ?_ ?_) <;> walk_at "tf")
  | ((with_reducible refine' et_nt ?_) <;> walk_at "tf")
  | ((with_reducible refine' et_nf ?_) <;> walk_at "tf")
  | (refine' et_is ?c ?d; (case c => walk_at "ev"); (case d => walk_at "bo")))
local macro_rules | `(tactic| walk_at "vt") => `(tactic| first
  | ((with_reducible refine' ev_andT ?_ ?_) <;> walk_at "vt")
  | ((with_reducible refine' ev_orF ?_ ?_) <;> walk_at "vt")
  | ((with_reducible refine' ev_nt ?_) <;> walk_at "vt")
  | ((with_reducible refine' ev_nf ?_) <;> walk_at "vt")
  | (refine' ev_is ?c ?d; (case c => walk_at "ev"); (case d => first | rfl | (refine congrArg V.bl ?_; walk_at "bo"))))
def topS (i : Nat) : Stmt := PySem.Challenge.pw_appendhall_k48_election_keeps_first_prom.main.body.getD i (.Pass ⟨0, 0, 0, 0⟩)
abbrev s_majority : Stmt := topS 6
abbrev N_majority : List Str := ["count"]
theorem sc_majority : FnScope N_majority ["count"] (defScope s_majority) := ⟨rfl, rfl, rfl, by decide +kernel, rfl, by decide +kernel, by decide +kernel⟩
abbrev s_has_majority : Stmt := topS 7
abbrev N_has_majority : List Str := ["members", "count", "member"]
theorem sc_has_majority : FnScope N_has_majority ["members", "count"] (defScope s_has_majority) := ⟨rfl, rfl, rfl, by decide +kernel, rfl, by decide +kernel, by decide +kernel⟩
abbrev s_best : Stmt := topS 8
abbrev N_best : List Str := ["candidates"]
theorem sc_best : FnScope N_best ["candidates"] (defScope s_best) := ⟨rfl, rfl, rfl, by decide +kernel, rfl, by decide +kernel, by decide +kernel⟩
abbrev s_Election___init__ : Stmt := inClass (topS 10) 0
abbrev N_Election___init__ : List Str := ["self", "journals"]
theorem sc_Election___init__ : FnScope N_Election___init__ ["self", "journals"] (defScope s_Election___init__) := ⟨rfl, rfl, rfl, by decide +kernel, rfl, by decide +kernel, by decide +kernel⟩
abbrev s_Election_note : Stmt := inClass (topS 10) 1
abbrev N_Election_note : List Str := ["self", "journal", "epoch", "log"]
theorem sc_Election_note : FnScope N_Election_note ["self", "journal", "epoch", "log"] (defScope s_Election_note) := ⟨rfl, rfl, rfl, by decide +kernel, rfl, by decide +kernel, by decide +kernel⟩
abbrev s_Election_promised : Stmt := inClass (topS 10) 2
abbrev N_Election_promised : List Str := ["self", "journal"]
theorem sc_Election_promised : FnScope N_Election_promised ["self", "journal"] (defScope s_Election_promised) := ⟨rfl, rfl, rfl, by decide +kernel, rfl, by decide +kernel, by decide +kernel⟩
abbrev s_Election_decided : Stmt := inClass (topS 10) 3
abbrev N_Election_decided : List Str := ["self"]
theorem sc_Election_decided : FnScope N_Election_decided ["self"] (defScope s_Election_decided) := ⟨rfl, rfl, rfl, by decide +kernel, rfl, by decide +kernel, by decide +kernel⟩
abbrev s_Election_choice : Stmt := inClass (topS 10) 4
abbrev N_Election_choice : List Str := ["self", "candidates", "journal", "epoch", "log"]
theorem sc_Election_choice : FnScope N_Election_choice ["self"] (defScope s_Election_choice) := ⟨rfl, rfl, rfl, by decide +kernel, rfl, by decide +kernel, by decide +kernel⟩
abbrev s_Log___init__ : Stmt := inClass (topS 12) 0
abbrev N_Log___init__ : List Str := ["self", "base", "image", "records"]
theorem sc_Log___init__ : FnScope N_Log___init__ ["self", "base", "image", "records"] (defScope s_Log___init__) := ⟨rfl, rfl, rfl, by decide +kernel, rfl, by decide +kernel, by decide +kernel⟩
abbrev s_Log_length : Stmt := inClass (topS 12) 1
abbrev N_Log_length : List Str := ["self"]
theorem sc_Log_length : FnScope N_Log_length ["self"] (defScope s_Log_length) := ⟨rfl, rfl, rfl, by decide +kernel, rfl, by decide +kernel, by decide +kernel⟩
abbrev s_Log_value : Stmt := inClass (topS 12) 10
abbrev N_Log_value : List Str := ["self"]
theorem sc_Log_value : FnScope N_Log_value ["self"] (defScope s_Log_value) := ⟨rfl, rfl, rfl, by decide +kernel, rfl, by decide +kernel, by decide +kernel⟩
abbrev s__law_stream : Stmt := topS 14
abbrev N__law_stream : List Str := ["script", "many", "draws", "cell", "rest", "k", "mixed"]
theorem sc__law_stream : FnScope N__law_stream ["script", "many"] (defScope s__law_stream) := ⟨rfl, rfl, rfl, by decide +kernel, rfl, by decide +kernel, by decide +kernel⟩
abbrev s__law_draw : Stmt := topS 15
abbrev N__law_draw : List Str := ["draws", "k"]
theorem sc__law_draw : FnScope N__law_draw ["draws", "k"] (defScope s__law_draw) := ⟨rfl, rfl, rfl, by decide +kernel, rfl, by decide +kernel, by decide +kernel⟩
abbrev s__law_same : Stmt := topS 16
abbrev N__law_same : List Str := ["actual", "due", "k"]
theorem sc__law_same : FnScope N__law_same ["actual", "due"] (defScope s__law_same) := ⟨rfl, rfl, rfl, by decide +kernel, rfl, by decide +kernel, by decide +kernel⟩
abbrev s__law_choice : Stmt := topS 17
abbrev N__law_choice : List Str := ["election", "e"]
theorem sc__law_choice : FnScope N__law_choice ["election"] (defScope s__law_choice) := ⟨rfl, rfl, rfl, by decide +kernel, rfl, by decide +kernel, by decide +kernel⟩
abbrev s__law_due : Stmt := topS 18
abbrev N__law_due : List Str := ["first", "count", "chosen", "k", "epoch", "value", "rank"]
theorem sc__law_due : FnScope N__law_due ["first", "count"] (defScope s__law_due) := ⟨rfl, rfl, rfl, by decide +kernel, rfl, by decide +kernel, by decide +kernel⟩
abbrev s__law_holds : Stmt := topS 19
abbrev N__law_holds : List Str := ["election", "first", "count", "k"]
theorem sc__law_holds : FnScope N__law_holds ["election", "first", "count"] (defScope s__law_holds) := ⟨rfl, rfl, rfl, by decide +kernel, rfl, by decide +kernel, by decide +kernel⟩
abbrev s__law_noted : Stmt := topS 20
abbrev N__law_noted : List Str := ["election", "first", "journal", "epoch", "value"]
theorem sc__law_noted : FnScope N__law_noted ["election", "first", "journal", "epoch", "value"] (defScope s__law_noted) := ⟨rfl, rfl, rfl, by decide +kernel, rfl, by decide +kernel, by decide +kernel⟩
abbrev s_law : Stmt := topS 21
abbrev N_law : List Str := ["script", "draws", "count", "large", "election", "other", "first", "second", "step", "draw", "more", "journal", "epoch", "base", "records", "k", "value"]
theorem sc_law : FnScope N_law ["script"] (defScope s_law) := ⟨rfl, rfl, rfl, by decide +kernel, rfl, by decide +kernel, by decide +kernel⟩
section
variable {P : Program} {w : World} {K : PySem.W.Frag} {mg : Str → Option Value} {base : Heap}
def inB (c : Int) (x : Int) : Bool := decide (0 ≤ x) && decide (x < c)
def hmB (ns : List Int) (c : Int) : Bool := decide (((setSt (inB c) ns).2 : Int) ≥ c / 2 + 1)
structure Glo (mg : Str → Option Value) : Prop where
  len : mg "len" = none
  int : mg "int" = none
  range : mg "range" = none
  max : mg "max" = none
  min : mg "min" = none
  isinstance : mg "isinstance" = none
  bool : mg "bool" = none
  tuple : mg "tuple" = none
  list : mg "list" = none
  str : mg "str" = none
  ValueError : mg "ValueError" = none
theorem ok_draw {f : Addr} {fd : FuncData} {k : Nat} (F : Fun K "_law_draw" "_law_draw" s__law_draw f fd) (T : Glo mg) : FnOk P w K mg base CX0 (k + 1) f fd ["draws", "k"] (spDraw K) := by
  refine F.ok sc__law_draw (fun vs H Q E h => ?_) (fun cdv A outer s H vs Q E hr h => ?_)
  · obtain ⟨a, ds, k, rfl, _⟩ := h
    rfl
  · obtain ⟨a, ds, k, rfl, hS, q⟩ := h
    refine ⟨_, (pss_cons (ps_if (pt_cmpR op_lt (pv 1) (pe_callB call_len_seq (by rfl) T.len PySem.boot_len (pa_cons (pv 0) pa_nil)) (nomark _))
  (pss_one (ps_ret (pe_ix ix_list (pv 0) (pv 1) (fun _ _ => rfl))))
  pss_nil)
  (pss_one (ps_ret pe_int))), ?_⟩
    refine' q_when ?c (fun hb H1 e1 => ?_) (fun hb H1 e1 => ?_)
    case c => walk_at "ev"
    · have hb := of_decide_eq_true hb
      rw [List.length_map] at hb
      have hk : k < ds.length := by omega
      refine s_ret (v := .int (drw ds k)) (ev_op (ev_var rfl) (ev_var rfl) (rv_ixL (ex_l e1 hS) ?_)) fun H2 e2 => q _ (e1.trans e2)
      have e0 : (ds.map V.int)[k]? = some (.int (drw ds k)) := by
        rw [List.getElem?_map, List.getElem?_eq_getElem hk]
        unfold drw
        rw [List.getD_eq_getElem?_getD, List.getElem?_eq_getElem hk]
        rfl
      exact atI_nat e0
    · have hb := of_decide_eq_false hb
      rw [List.length_map] at hb
      refine s_ret ev_c fun H2 e2 => ?_
      have e0 : drw ds k = 0 := by
        unfold drw
        rw [List.getD_eq_getElem?_getD, List.getElem?_eq_none (by omega)]
        rfl
      rw [← e0]
      exact q _ (e1.trans e2)
def DW (H0 : Hp) (l : Addr) (m : Nat) (H' : Hp) : Prop := H0 l = none ∧ Ex H0 H' ∧ ∃ ds : List Int, H' l = some (.lst (ds.map V.int)) ∧ Dr ds ∧ ds.length ≤ m
theorem DW.app {H0 H1 H2 : Hp} {l : Addr} {m : Nat} {ds : List Int} {d : Int} (n : H0 l = none) (e : Ex H0 H1) (D : Dr ds) (hl : ds.length ≤ m) (h0 : 0 ≤ d) (h1 : d < 5040) (e2 : Ex H1 H2) : DW H0 l (m + 1) (upd H2 l (.lst (ds.map V.int ++ [V.int d]))) :=
  ⟨n, Ex.mut (e.trans e2) n, ds ++ [d], by rw [upd_same, List.map_append]; rfl, D.app h0 h1, by rw [List.length_append, List.length_singleton]; omega⟩
theorem ok_stream {f : Addr} {fd : FuncData} {k : Nat} (F : Fun K "_law_stream" "_law_stream" s__law_stream f fd) (T : Glo mg) : FnOk P w K mg base CX0 (k + 1) f fd ["script", "many"] (spStream K) := by
  refine F.ok sc__law_stream (fun vs H Q E h => ?_) (fun cdv A outer s H vs Q E hr h => ?_)
  · obtain ⟨a, ns, m, rfl, _⟩ := h
    rfl
  · obtain ⟨a, ns, m, rfl, hS, hn, hm, q⟩ := h
    refine ⟨_, (pss_cons (ps_set (i := 2) sc__law_stream.nd rfl (.inl rfl) (pe_lst pa_nil))
  (pss_cons (ps_for PassesOwn.never rfl (pi_list (pv 0)) (pg_name (i := 3) sc__law_stream.nd rfl (.inl rfl))
  (pss_cons (ps_if (pt_cmpR op_ge (pe_callB call_len_seq (by rfl) T.len PySem.boot_len (pa_cons (pv 2) pa_nil)) (pv 1) (nomark _))
  (pss_one ps_break)
  pss_nil)
  (pss_one (ps_if (pt_cmpR op_ge (pv 3) (pe_op op_pow pe_int pe_int) (nomark _))
  (pss_cons (ps_set (i := 4) sc__law_stream.nd rfl (.inl rfl) (pv 3))
  (pss_one (ps_for PassesOwn.never rfl (pi_range1 (by rfl) T.range (pa_cons pe_int pa_nil)) (pg_name (i := 5) sc__law_stream.nd rfl (.inl rfl))
  (pss_one (ps_if (pt_cmpR op_gt (pv 4) pe_int (nomark _))
  (pss_cons (ps_expr (pe_bm PySem.F.plainAttrs_list PySem.F.slot_list_append PySem.F.type_list_append mt_append (pv 2) (pa_cons (pe_op op_mod (pe_callTy call_int1 (by rfl) T.int (by decide +kernel) (pa_cons (pv 4) pa_nil)) pe_int) pa_nil)))
  (pss_one (ps_set (i := 4) sc__law_stream.nd rfl (.inl rfl) (pe_op op_fdiv (pv 4) pe_int))))
  pss_nil)))))
  (pss_cons (ps_set (i := 6) sc__law_stream.nd rfl (.inl rfl) (pe_op op_mod (pe_callTy call_int1 (by rfl) T.int (by decide +kernel) (pa_cons (pe_op op_add (pe_op op_add (pe_op op_mul (pv 3) pe_int) (pe_op op_mul (pe_callB call_len_seq (by rfl) T.len PySem.boot_len (pa_cons (pv 2) pa_nil)) pe_int)) pe_int) pa_nil)) pe_int))
  (pss_one (ps_for PassesOwn.never rfl (pi_range1 (by rfl) T.range (pa_cons pe_int pa_nil)) (pg_name (i := 5) sc__law_stream.nd rfl (.inl rfl))
  (pss_cons (ps_set (i := 6) sc__law_stream.nd rfl (.inl rfl) (pe_op op_mod (pe_callTy call_int1 (by rfl) T.int (by decide +kernel) (pa_cons (pe_op op_add (pe_op op_add (pe_op op_mul (pv 6) pe_int) (pe_op op_mul pe_int (pv 5))) pe_int) pa_nil)) pe_int))
  (pss_one (ps_expr (pe_bm PySem.F.plainAttrs_list PySem.F.slot_list_append PySem.F.type_list_append mt_append (pv 2) (pa_cons (pe_op op_mod (pe_callTy call_int1 (by rfl) T.int (by decide +kernel) (pa_cons (pe_op op_fdiv (pv 6) pe_int) pa_nil)) pe_int) pa_nil))))))))))))
  (pss_one (ps_ret (pv 2))))), ?_⟩
    refine' q_asgL (xs := []) (el_lst ea_nil (by decide)) (fun l H1 nl e1 h1 => ?_)
    have hS1 : SqL K H1 a (ns.map V.int) := ex_l e1 hS
    refine' q_forLn (a := a) (xs := ns.map V.int) (ev_var rfl) hS1 (fun i σ' H' => ∃ y3 y4 y5 y6, σ' = [some (.ref a), some (.int (m : Int)), some (.ref l), y3, y4, y5, y6] ∧ DW H l (m + 60) H') (fun H2 e2 => ?_) (fun i σ' H' _ p => ?_) (fun i x σ' H' hx p => ?_) (fun σ' H' p => ?_)
    · exact ⟨none, none, none, none, rfl, nl, e1.trans e2, [], e2 l _ h1, Dr.nil, Nat.zero_le _⟩
    · obtain ⟨_, _, _, _, _, _, e, _⟩ := p
      exact ex_l e hS
    · obtain ⟨y3, y4, y5, y6, rfl, n, e, ds, hd, D, hl⟩ := p
      obtain ⟨c, rfl⟩ : ∃ c, x = V.int c := by
        rw [List.getElem?_map] at hx
        cases h : ns[i]? with
        | none => rw [h] at hx; cases hx
        | some c => rw [h] at hx; exact ⟨c, (Option.some.inj hx).symm⟩
      have hL : SqL K H' l (ds.map V.int) := sq_of hd
      refine' q_when ?c (fun hb H2 e2 => ?_) (fun hb H2 e2 => ?_)
      case c => walk_at "ev"
      · -- break
        refine s_ret (ev_var rfl) fun H3 e3 => ?_
        exact q ds D hl l H3 n ((e.trans e2).trans e3) (e3 l _ (e2 l _ hd))
      · have hb := of_decide_eq_false hb
        rw [List.length_map] at hb
        have hlt : ds.length < m := by omega
        have hd2 := e2 l _ hd
        have E2 := e.trans e2
        refine' s_if ?c (fun hc H3 e3 => ?_) (fun hc H3 e3 => ?_)
        case c => walk_at "ev"
        · -- a great one
          refine' q_asg (ev_var rfl) (fun H4 e4 => ?_)
          refine' s_forR1 (n := 60) (ea_cons ev_c ea_nil) (by decide) (fun i σ' H' => ∃ (r : Int) (y5 : Option V), σ' = [some (.ref a), some (.int (m : Int)), some (.ref l), some (.int c), some (.int r), y5, y6] ∧ DW H l (m + i) H') (fun H5 e5 => ⟨c, _, rfl, n, ((E2.trans e3).trans e4).trans e5, ds, e5 l _ (e4 l _ (e3 l _ hd2)), D, by omega⟩) (fun i σ' H' hi p => ?_) (fun σ' H' p => ?_)
          · obtain ⟨r, z5, rfl, n', e', ds', hd', D', hl'⟩ := p
            have hL' : SqL K H' l (ds'.map V.int) := sq_of hd'
            refine' s_when ?c (fun hb H6 e6 => ?_) (fun hb H6 e6 => ?_)
            case c => walk_at "ev"
            · refine' q_app (l := l) (xs := ds'.map V.int) (v := .int (r % 5040)) (e6 l _ hd') (ev_var rfl) ?c (by rw [List.length_map]; omega) (fun H7 e7 => ?_)
              case c => walk_at "ev"
              refine' s_asg (v := .int (r / 5040)) ?c (fun H8 e8 => ?_)
              case c => exact ev_op (ev_var rfl) ev_c (rv_I ⟨by decide, by decide⟩)
              obtain ⟨_, k2, k3⟩ := DW.app n' (e'.trans e6) D' hl' (Int.emod_nonneg r (by decide)) (Int.emod_lt_of_pos r (by decide)) e7
              obtain ⟨ds8, k4, k5, k6⟩ := k3
              exact ⟨r / 5040, _, rfl, n', k2.trans e8, ds8, e8 l _ k4, k5, k6⟩
            · exact ⟨r, _, rfl, n', e'.trans e6, ds', e6 l _ hd', D', by omega⟩
          · obtain ⟨r, z5, rfl, w⟩ := p
            exact ⟨_, _, _, _, rfl, w⟩
        · -- a plain one
          refine' q_asg ?c (fun H4 e4 => ?_)
          case c =>
            have hL3 : SqL K H3 l (ds.map V.int) := sq_of (e3 l _ hd2)
            refine' ev_op (ev_cb (ea_cons (ev_op (ev_op (ev_op (ev_var rfl) ev_c (rv_I (.inr (by decide)))) (ev_op (ev_cb (ea_cons (ev_var rfl) ea_nil) (rc_len hL3)) ev_c (rv_I (.inr (by decide)))) rv_I0) ev_c rv_I0) ea_nil) rc_int) ev_c (rv_I (by decide))
          refine' s_forR1 (n := 4) (ea_cons ev_c ea_nil) (by decide) (fun i σ' H' => ∃ (r : Int) (y5 : Option V), σ' = [some (.ref a), some (.int (m : Int)), some (.ref l), some (.int c), y4, y5, some (.int r)] ∧ DW H l (m + i) H') (fun H5 e5 => ⟨_, _, rfl, n, ((E2.trans e3).trans e4).trans e5, ds, e5 l _ (e4 l _ (e3 l _ hd2)), D, by omega⟩) (fun i σ' H' hi p => ?_) (fun σ' H' p => ?_)
          · obtain ⟨r, z5, rfl, n', e', ds', hd', D', hl'⟩ := p
            refine' q_asg ?c (fun H6 e6 => ?_)
            case c =>
              refine' ev_op (ev_cb (ea_cons (ev_op (ev_op (ev_op (ev_var rfl) ev_c (rv_I (.inr (by decide)))) (ev_op ev_c (ev_var rfl) (rv_I (.inl (by decide)))) rv_I0) ev_c rv_I0) ea_nil) rc_int) ev_c (rv_I (by decide))
            refine' s_app (l := l) (xs := ds'.map V.int) (e6 l _ hd') (ev_var rfl) ?c (by rw [List.length_map]; omega) (fun H7 e7 => ?_)
            case c =>
              refine' ev_op (ev_cb (ea_cons (ev_op (ev_var rfl) ev_c (rv_I ⟨by decide, by decide⟩)) ea_nil) rc_int) ev_c (rv_I (by decide))
            exact ⟨_, _, rfl, DW.app n' (e'.trans e6) D' hl' (Int.emod_nonneg _ (by decide)) (Int.emod_lt_of_pos _ (by decide)) e7⟩
          · obtain ⟨r, z5, rfl, n', e', ds', hd', D', hl'⟩ := p
            exact ⟨_, _, _, _, rfl, n', e', ds', hd', D', by have : (4 : Int).toNat = 4 := rfl; omega⟩
    · obtain ⟨y3, y4, y5, y6, rfl, n, e, ds, hd, D, hl⟩ := p
      refine s_ret (ev_var rfl) fun H3 e3 => ?_
      exact q ds D hl l H3 n (e.trans e3) (e3 l _ hd)
theorem ok_same {f : Addr} {fd : FuncData} (D__law_same : Df K mg "_law_same" s__law_same ["actual", "due"] f fd) (T : Glo mg) : ∀ n : Nat, FnOk P w K mg base CX0 (n + 1) f fd ["actual", "due"] (spSame K n) := fun n => by
  have key : ∀ (n : Nat) (S : Sp), FnOk P w K mg base CX0 n f fd ["actual", "due"] S → (∀ m, n = m + 1 → S = spSame K m) → FnOk P w K mg base CX0 (n + 1) f fd ["actual", "due"] (spSame K n) := fun n S G__law_same hSm => by
    refine D__law_same.F.ok sc__law_same (fun vs H Q E h => ?_) (fun cdv A outer s H vs Q E hr h => ?_)
    · obtain ⟨x, y, d, rfl, _⟩ := h
      rfl
    · obtain ⟨x, y, d, rfl, hx, hy, ok, q⟩ := h
      refine ⟨_, (pss_cons (ps_if (pt_val (pe_callB call_isiT (by rfl) T.isinstance (by decide +kernel) (pa_cons (pv 1) (pa_cons (pe_tup (pa_cons (pe_bltn (v := .ty "tuple") (u := .type "tuple") (by rfl) T.tuple (by decide +kernel) rfl) (pa_cons (pe_bltn (v := .ty "list") (u := .type "list") (by rfl) T.list (by decide +kernel) rfl) pa_nil))) pa_nil))))
  (pss_cons (ps_if (PW.pt (pw_or (pt_not (pt_val (pe_callB call_isiT (by rfl) T.isinstance (by decide +kernel) (pa_cons (pv 0) (pa_cons (pe_tup (pa_cons (pe_bltn (v := .ty "tuple") (u := .type "tuple") (by rfl) T.tuple (by decide +kernel) rfl) (pa_cons (pe_bltn (v := .ty "list") (u := .type "list") (by rfl) T.list (by decide +kernel) rfl) pa_nil))) pa_nil))))) (pw_or1 (pt_cmpR op_ne (pe_callB call_isi (by rfl) T.isinstance (by decide +kernel) (pa_cons (pv 0) (pa_cons (pe_bltn (v := .ty "tuple") (u := .type "tuple") (by rfl) T.tuple (by decide +kernel) rfl) pa_nil))) (pe_callB call_isi (by rfl) T.isinstance (by decide +kernel) (pa_cons (pv 1) (pa_cons (pe_bltn (v := .ty "tuple") (u := .type "tuple") (by rfl) T.tuple (by decide +kernel) rfl) pa_nil))) (nomark _)))))
  (pss_one (ps_ret pe_bl))
  pss_nil)
  (pss_cons (ps_if (pt_cmpR op_ne (pe_callB call_len_seq (by rfl) T.len PySem.boot_len (pa_cons (pv 0) pa_nil)) (pe_callB call_len_seq (by rfl) T.len PySem.boot_len (pa_cons (pv 1) pa_nil)) (nomark _))
  (pss_one (ps_ret pe_bl))
  pss_nil)
  (pss_cons (ps_for PassesOwn.never rfl (pi_range1 (by rfl) T.range (pa_cons (pe_callB call_len_seq (by rfl) T.len PySem.boot_len (pa_cons (pv 1) pa_nil)) pa_nil)) (pg_name (i := 2) sc__law_same.nd rfl (.inl rfl))
  (pss_one (ps_if (pt_not (pt_val (pe_call G__law_same (hr.mono (by omega)) (by rfl) D__law_same.g D__law_same.F.kp D__law_same.b .nil pass0 (pa_cons (pe_ix ix_seq (pv 0) (pv 2) (fun _ _ => rfl)) (pa_cons (pe_ix ix_seq (pv 1) (pv 2) (fun _ _ => rfl)) pa_nil)))))
  (pss_one (ps_ret pe_bl))
  pss_nil)))
  (pss_one (ps_ret pe_bl)))))
  pss_nil)
  (pss_cons (ps_if (pt_cmpR op_isN (pv 1) pe_non (nomark _))
  (pss_one (ps_ret (pe_cmpR op_isN (pv 0) pe_non (nomark _))))
  pss_nil)
  (pss_cons (ps_if (PW.pt (pw_or (pt_val (pe_callB call_isi (by rfl) T.isinstance (by decide +kernel) (pa_cons (pv 1) (pa_cons (pe_bltn (v := .ty "bool") (u := .type "bool") (by rfl) T.bool (by decide +kernel) rfl) pa_nil)))) (pw_or1 (pt_val (pe_callB call_isi (by rfl) T.isinstance (by decide +kernel) (pa_cons (pv 0) (pa_cons (pe_bltn (v := .ty "bool") (u := .type "bool") (by rfl) T.bool (by decide +kernel) rfl) pa_nil)))))))
  (pss_one (ps_ret (pe_and (pe_callB call_isi (by rfl) T.isinstance (by decide +kernel) (pa_cons (pv 1) (pa_cons (pe_bltn (v := .ty "bool") (u := .type "bool") (by rfl) T.bool (by decide +kernel) rfl) pa_nil))) (pe_and (pe_callB call_isi (by rfl) T.isinstance (by decide +kernel) (pa_cons (pv 0) (pa_cons (pe_bltn (v := .ty "bool") (u := .type "bool") (by rfl) T.bool (by decide +kernel) rfl) pa_nil))) (pe_one (pe_cmpR op_eq (pv 0) (pv 1) (nomark _)))))))
  pss_nil)
  (pss_cons (ps_if (pt_val (pe_callB call_isi (by rfl) T.isinstance (by decide +kernel) (pa_cons (pv 1) (pa_cons (pe_bltn (v := .ty "int") (u := .type "int") (by rfl) T.int (by decide +kernel) rfl) pa_nil))))
  (pss_one (ps_ret (pe_and (pe_callB call_isi (by rfl) T.isinstance (by decide +kernel) (pa_cons (pv 0) (pa_cons (pe_bltn (v := .ty "int") (u := .type "int") (by rfl) T.int (by decide +kernel) rfl) pa_nil))) (pe_one (pe_cmpR op_eq (pv 0) (pv 1) (nomark _))))))
  pss_nil)
  (pss_one (ps_ret (pe_and (pe_callB call_isi (by rfl) T.isinstance (by decide +kernel) (pa_cons (pv 0) (pa_cons (pe_bltn (v := .ty "str") (u := .type "str") (by rfl) T.str (by decide +kernel) rfl) pa_nil))) (pe_one (pe_cmpR op_eq (pv 0) (pv 1) (nomark _)))))))))), ?_⟩
      refine' q_when (b := isTup d || isLst d) (et_B (ev_isiT2 (K := K) (ex_var rfl hy) (kit_tup d) (kit_lst d))) (fun hb H1 e1 => ?_) (fun hb H1 e1 => ?_)
      · obtain ⟨m, ds, hm, hd, hl, hok⟩ : ∃ (m : Nat) (ds : List PyData), n = m + 1 ∧ (d = .list ds ∨ d = .tuple ds) ∧ ds.length ≤ 50000 ∧ ∀ e, e ∈ ds → Okn m e := by
          cases ok with
          | lst h hs => exact ⟨_, _, rfl, .inl rfl, h, hs⟩
          | tup h hs => exact ⟨_, _, rfl, .inr rfl, h, hs⟩
          | _ => exact absurd hb (by simp [isTup, isLst])
        have hS := hSm m hm
        subst hS
        have hx1 := dx_mono e1 _ _ hx
        have hy1 := dx_mono e1 _ _ hy
        refine' q_when (b := false) (et_orF (et_nt (et_is (et_B (ev_isiT2 (K := K) (ex_var rfl hx1) (kit_tup d) (kit_lst d))) hb)) (et_is (et_test (ev_op (ev_isiX (K := K) (ex_var rfl hx1) (kit_tup d)) (ev_isiX (K := K) (ex_var rfl hy1) (kit_tup d)) (rv_ne rfl))) (by rw [decide_eq_true rfl]; rfl))) (fun hb => nomatch hb) (fun _ H2 e2 => ?_)
        have hx2 := dx_mono e2 _ _ hx1
        have hy2 := dx_mono e2 _ _ hy1
        refine' q_when (b := false) (et_is (et_test (ev_op (ev_lenX2 (K := K) hd (ex_var rfl hx2)) (ev_lenX2 (K := K) hd (ex_var rfl hy2)) rv_neI)) (by rw [decide_eq_true rfl]; rfl)) (fun hb => nomatch hb) (fun _ H3 e3 => ?_)
        have hx3 := dx_mono e3 _ _ hx2
        have hy3 := dx_mono e3 _ _ hy2
        refine' q_forR1 (n := (ds.length : Int)) (ea_cons (ev_lenX2 (K := K) hd (ex_var rfl hy3)) ea_nil) (by omega) (fun i σ' H' => ∃ y2 : Option V, σ' = [some x, some y, y2] ∧ Ex H3 H') (fun H4 e4 => ⟨none, rfl, e4⟩) (fun i σ' H' hi p => ?_) (fun σ' H' p => ?_)
        · obtain ⟨y2, rfl, e4⟩ := p
          have hx4 := dx_mono e4 _ _ hx3
          have hy4 := dx_mono e4 _ _ hy3
          have hil : i < ds.length := by omega
          have hat : atI ds (i : Int) = some ds[i] := atI_nat (List.getElem?_eq_getElem hil)
          refine' s_when (b := false) (et_nt (et_B (ev_callD (K := K) (exs_cons (ex_ix2 (K := K) hd (ex_var rfl hx4) (ev_var rfl) hat) (exs_cons (ex_ix2 (K := K) hd (ex_var rfl hy4) (ev_var rfl) hat) exs_nil)) (fun vs H5 e5 hv Q q => ?_)))) (fun hb => nomatch hb) (fun _ H5 e5 => ⟨_, rfl, e4.trans e5⟩)
          cases hv with
          | cons h1 h2 => cases h2 with
            | cons h2 h3 =>
              cases h3
              exact ⟨_, _, _, rfl, h1, h2, hok _ (List.getElem_mem hil), q⟩
        · obtain ⟨y2, rfl, e4⟩ := p
          exact s_ret ev_c (fun H5 e5 => q H5 ((((e1.trans e2).trans e3).trans e4).trans e5))
      · have hx1 := dx_mono e1 _ _ hx
        have hy1 := dx_mono e1 _ _ hy
        cases ok with
        | non =>
          cases hx
          cases hy
          refine' q_when (b := true) (et_is (et_isN (ev_var rfl)) (decide_eq_true rfl)) (fun _ H2 e2 => ?_) (fun hb => nomatch hb)
          exact s_ret (ev_is (ev_isN (ev_var rfl)) (by rw [decide_eq_true rfl])) (fun H3 e3 => q H3 ((e1.trans e2).trans e3))
        | bl b =>
          cases hx
          cases hy
          refine' q_when (b := false) (et_is (et_isN (ev_var rfl)) (decide_eq_false (fun h => nomatch h))) (fun hb => nomatch hb) (fun _ H2 e2 => ?_)
          refine' q_when (b := true) (et_orL (et_B (ev_isiX (K := K) (ex_var rfl (dx_mono e2 _ _ hy1)) (kit_bool _)))) (fun _ H3 e3 => ?_) (fun hb => nomatch hb)
          have hy3 := dx_mono (e2.trans e3) _ _ hy1
          exact s_ret (ev_andT (ev_isiX (K := K) (ex_var rfl hy3) (kit_bool _)) (ev_andT (ev_isiX (K := K) (ex_var rfl hy3) (kit_bool _)) (ev_op (ev_var rfl) (ev_var rfl) (rv_eqT rfl)))) (fun H4 e4 => q H4 (((e1.trans e2).trans e3).trans e4))
        | int i =>
          cases hx
          cases hy
          refine' q_when (b := false) (et_is (et_isN (ev_var rfl)) (decide_eq_false (fun h => nomatch h))) (fun hb => nomatch hb) (fun _ H2 e2 => ?_)
          have hy2 := dx_mono e2 _ _ hy1
          refine' q_when (b := false) (et_orF (et_B (ev_isiX (K := K) (ex_var rfl hy2) (kit_bool _))) (et_B (ev_isiX (K := K) (ex_var rfl hy2) (kit_bool _)))) (fun hb => nomatch hb) (fun _ H3 e3 => ?_)
          have hy3 := dx_mono e3 _ _ hy2
          refine' q_when (b := true) (et_B (ev_isiX (K := K) (ex_var rfl hy3) (kit_int _))) (fun _ H4 e4 => ?_) (fun hb => nomatch hb)
          have hy4 := dx_mono e4 _ _ hy3
          exact s_ret (ev_andT (ev_isiX (K := K) (ex_var rfl hy4) (kit_int _)) (ev_op (ev_var rfl) (ev_var rfl) (rv_eqT rfl))) (fun H5 e5 => q H5 ((((e1.trans e2).trans e3).trans e4).trans e5))
        | str z =>
          cases hx
          cases hy
          refine' q_when (b := false) (et_is (et_isN (ev_var rfl)) (decide_eq_false (fun h => nomatch h))) (fun hb => nomatch hb) (fun _ H2 e2 => ?_)
          have hy2 := dx_mono e2 _ _ hy1
          refine' q_when (b := false) (et_orF (et_B (ev_isiX (K := K) (ex_var rfl hy2) (kit_bool _))) (et_B (ev_isiX (K := K) (ex_var rfl hy2) (kit_bool _)))) (fun hb => nomatch hb) (fun _ H3 e3 => ?_)
          have hy3 := dx_mono e3 _ _ hy2
          refine' q_when (b := false) (et_B (ev_isiX (K := K) (ex_var rfl hy3) (kit_int _))) (fun hb => nomatch hb) (fun _ H4 e4 => ?_)
          have hy4 := dx_mono e4 _ _ hy3
          exact s_ret (ev_andT (ev_isiX (K := K) (ex_var rfl hy4) (kit_str _)) (ev_op (ev_var rfl) (ev_var rfl) (rv_eqT rfl))) (fun H5 e5 => q H5 ((((e1.trans e2).trans e3).trans e4).trans e5))
        | lst => exact absurd hb (by simp [isTup, isLst])
        | tup => exact absurd hb (by simp [isTup, isLst])
  induction n with
  | zero => exact key 0 (fun _ _ _ _ => False) fn_false (fun m h => nomatch h)
  | succ n ih => exact key (n + 1) _ ih (fun m h => by cases h; rfl)
def spMaj : Sp := fun vs H Q _ => ∃ n : Int, vs = [.int n] ∧ RetV (.int (n / 2 + 1)) H Q
theorem ok_majority {f : Addr} {fd : FuncData} (F : Fun K "majority" "majority" s_majority f fd) : FnOk P w K mg base CX0 1 f fd ["count"] spMaj := by
  refine F.ok sc_majority (fun vs H Q E h => ?_) (fun cdv A outer s H vs Q E hr h => ?_)
  · obtain ⟨n, rfl, _⟩ := h
    rfl
  · obtain ⟨n, rfl, q⟩ := h
    refine ⟨_, (pss_one (ps_ret (pe_op op_add (pe_op op_fdiv (pv 0) pe_int) pe_int))), ?_⟩
    refine' s_ret ?c (fun H1 e1 => q H1 e1)
    case c => walk_at "ev"
theorem spMaj_v {H : Hp} {n : Int} : SpV spMaj [.int n] H (.int (n / 2 + 1)) := fun H1 _ Q q _ => ⟨n, rfl, fun H2 e2 => q H2 e2⟩
def spHM (K : PySem.W.Frag) : Sp := fun vs H Q _ => ∃ (a : Addr) (ns : List Int) (c : Int), vs = [.ref a, .int c] ∧ SqL K H a (ns.map V.int) ∧ ns.length ≤ 1000 ∧ RetV (.bl (hmB ns c)) H Q
theorem ok_hm {f f_m : Addr} {fd fd_m : FuncData} (F : Fun K "has_majority" "has_majority" s_has_majority f fd) (D_majority : Df K mg "majority" s_majority ["count"] f_m fd_m) (T : Glo mg) : FnOk P w K mg base CX0 2 f fd ["members", "count"] (spHM K) := by
  have G_majority : FnOk P w K mg base CX0 1 f_m fd_m _ _ := ok_majority D_majority.F
  refine F.ok sc_has_majority (fun vs H Q E h => ?_) (fun cdv A outer s H vs Q E hr h => ?_)
  · obtain ⟨a, ns, c, rfl, _⟩ := h
    rfl
  · obtain ⟨a, ns, c, rfl, hS, hl, q⟩ := h
    refine ⟨_, (pss_one (ps_ret (pe_cmpR op_ge (pe_callB call_lenK (by rfl) T.len PySem.boot_len (pa_cons (pe_scK (own := [("member", 2)]) (g := gName 2) rfl sc_has_majority.nd (pi_list (pv 0)) (blkOk_by (N := N_has_majority) (sc := defScope s_has_majority) (by decide +kernel)) (fun _ _ _ _ _ => (pg_name (i := 2) sc_has_majority.nd rfl (.inl rfl))) (fun _ _ _ _ _ => (pts_one (pt_chain op_le op_lt pe_int (pv 2) (pv 1)))) (fun _ _ _ _ _ => (pv 2))) pa_nil)) (pe_call G_majority (hr.mono (by decide)) (by rfl) D_majority.g D_majority.F.kp D_majority.b .nil pass0 (pa_cons (pv 1) pa_nil)) (nomark _)))), ?_⟩
    exact s_ret (ev_op (ev_lenSc (K := K) (inB c) (ev_var rfl) hS hl (fun _ => rfl) (fun x => et_test (ev_chain (k := decide (0 ≤ x)) (m := decide (x < c)) ev_c (ev_var rfl) rv_I0 (ev_var rfl) rv_I0)) (fun x => ev_var rfl)) (ev_call (ea_cons (ev_var rfl) ea_nil) spMaj_v) rv_I0) q
theorem hm_len {js : List Int} {J : Int} (nd : js.Nodup) (rg : ∀ x ∈ js, 0 ≤ x ∧ x < J) : hmB js J = decide ((js.length : Int) ≥ J / 2 + 1) := by
  obtain ⟨acc, h1, h2, _, h4⟩ := setSt_acc (inB J) js
  have hp : acc.Perm js := (List.perm_ext_iff_of_nodup h1 nd).mpr fun x => by
    rw [h4 x]
    refine ⟨fun h => h.1, fun h => ⟨h, ?_⟩⟩
    unfold inB
    rw [decide_eq_true (rg x h).1, decide_eq_true (rg x h).2]
    rfl
  unfold hmB
  rw [h2, hp.length_eq]
def fLog (b im r : V) : List (Str × V) := [("base", b), ("image", im), ("records", r)]
theorem fl_put (b im r : V) : putF "records" r (putF "image" im (putF "base" b [])) = fLog b im r := by rfl
theorem fl_base (b im r : V) : (fLog b im r).lookup ("base" : Str) = some b := by rfl
theorem fl_image (b im r : V) : (fLog b im r).lookup ("image" : Str) = some im := by rfl
theorem fl_records (b im r : V) : (fLog b im r).lookup ("records" : Str) = some r := by rfl
/-- the log of these at p -/
def LogAt (K : PySem.W.Frag) (C : Addr) (H : Hp) (p : Addr) (b : Int) (im : PyData) (rs : List PyData) : Prop := ∃ dx vi t, H p = some (.ins C dx (fLog (.int b) vi t)) ∧ Dp K H vi im ∧ Dp K H t (.tuple rs)
theorem LogAt.mono {K : PySem.W.Frag} {C : Addr} {H H' : Hp} {p : Addr} {b : Int} {im : PyData} {rs : List PyData} (e : Ex H H') (h : LogAt K C H p b im rs) : LogAt K C H' p b im rs := by
  obtain ⟨dx, vi, t, h1, h2, h3⟩ := h
  exact ⟨dx, vi, t, e _ _ h1, dp_mono e _ _ h2, dp_mono e _ _ h3⟩
structure LogC (K : PySem.W.Frag) (C : Addr) : Prop where
  cl : Cls K C
  nB : NoAttr K C "base"
  nI : NoAttr K C "image"
  nR : NoAttr K C "records"
section
variable {K : PySem.W.Frag} {σ : L2.St} {H B : Hp} {ta : TE} {C p : Addr} {b : Int} {im : PyData} {rs : List PyData}
theorem ev_base (L : LogC K C) (h : Ev ta σ H (.ref p)) (l : LogAt K C H p b im rs) : Ev (tFld K ta "base") σ H (.int b) := fun H1 e Q q => h H1 e _ fun H2 e2 => by
  obtain ⟨dx, vi, t, h1, _, _⟩ := l
  exact ⟨p, C, dx, _, _, rfl, (e.trans e2) _ _ h1, L.cl, L.nB, fl_base _ _ _, q H2 e2⟩
theorem ed_image (L : LogC K C) (h : Ev ta σ H (.ref p)) (l : LogAt K C H p b im rs) : EvD K (tFld K ta "image") σ H im := fun H1 e Q q => h H1 e _ fun H2 e2 => by
  obtain ⟨dx, vi, t, h1, h2, _⟩ := l
  exact ⟨p, C, dx, _, _, rfl, (e.trans e2) _ _ h1, L.cl, L.nI, fl_image _ _ _, q vi H2 e2 (dp_mono ov_base _ _ h2)⟩
theorem ed_records (L : LogC K C) (h : Ev ta σ H (.ref p)) (l : LogAt K C H p b im rs) : EvD K (tFld K ta "records") σ H (.tuple rs) := fun H1 e Q q => h H1 e _ fun H2 e2 => by
  obtain ⟨dx, vi, t, h1, _, h3⟩ := l
  exact ⟨p, C, dx, _, _, rfl, (e.trans e2) _ _ h1, L.cl, L.nR, fl_records _ _ _, q t H2 e2 (dp_mono ov_base _ _ h3)⟩
end
def spLogInit (C : Addr) : Sp := fun vs H Q _ => ∃ (p dx : Addr) (b im r : V), vs = [.ref p, b, im, r] ∧ H p = some (.ins C dx []) ∧ ∀ H', H' p = some (.ins C dx (fLog b im r)) → (∀ a, a ≠ p → H' a = H a) → Q .non H'
theorem ok_log_init {f C : Addr} {fd : FuncData} (F : Fun K "__init__" "Log.__init__" s_Log___init__ f fd) (L : LogC K C) : FnOk P w K mg base CX0 1 f fd ["self", "base", "image", "records"] (spLogInit C) := by
  refine F.ok sc_Log___init__ (fun vs H Q E h => ?_) (fun cdv A outer s H vs Q E hr h => ?_)
  · obtain ⟨p, dx, b, im, r, rfl, _⟩ := h
    rfl
  · obtain ⟨p, dx, b, im, r, rfl, hp, q⟩ := h
    refine ⟨_, (pss_cons (ps_fld (pv 0) (pv 1) rfl)
  (pss_cons (ps_fld (pv 0) (pv 2) rfl)
  (pss_one (ps_fld (pv 0) (pv 3) rfl)))), ?_⟩
    refine ⟨_, rfl, _, rfl, p, C, dx, [], rfl, hp, L.cl, L.nB, (by show 0 < 1000; decide), ?_⟩
    refine ⟨_, rfl, _, rfl, p, C, dx, _, rfl, upd_same, L.cl, L.nI, (by show 1 < 1000; decide), ?_⟩
    refine ⟨_, rfl, _, rfl, p, C, dx, _, rfl, upd_same, L.cl, L.nR, (by show 2 < 1000; decide), ?_⟩
    refine q _ ?_ (fun a ha => ?_)
    · rw [upd_same, fl_put]
    · rw [upd_ne ha, upd_ne ha, upd_ne ha]
/-- Log(b, im, r) -/
theorem s_mkLog {σ : L2.St} {B H : Hp} {C : Addr} {ta : TA} {E : XK} {Q : VK} {vb : Int} {im : PyData} {rs : List PyData} (eB : Ex B H) (h : EvDs K ta σ B [.int vb, im, .tuple rs]) (q : ∀ p H1, H p = none → Ex H H1 → LogAt K C (ov B H H1) p vb im rs → Q (.ref p) H1) :
    tMake C (spLogInit C) [] E ta σ H Q := h H eB _ fun vs H1 e hd x dx nx ndx nex => by
  cases hd with
  | cons d1 r1 => cases r1 with
    | cons d2 r2 => cases r2 with
      | cons d3 r3 =>
        cases r3
        cases d1
        rename_i vi vr
        refine ⟨x, dx, _, vi, vr, rfl, upd_same, fun H2 h2 ho => ⟨rfl, ?_⟩⟩
        have e2 : Ex H1 H2 := fun a o ha1 => by
          have n1 : a ≠ x := ne_of_none ha1 nx
          rw [ho a n1, upd_ne n1, upd_ne (ne_of_none ha1 ndx)]
          exact ha1
        have n0 := fresh_back e nx
        have o2 : Ex (ov B H H1) (ov B H H2) := ov_grow e2
        exact q x H2 n0 (e.trans e2) ⟨dx, _, _, by unfold ov; rw [fresh_back eB n0, n0]; exact h2, dp_mono o2 _ _ d2, dp_mono o2 _ _ d3⟩
def spLogLen (K : PySem.W.Frag) (C : Addr) : Sp := fun vs H Q _ => ∃ (p : Addr) (b : Int) (im : PyData) (rs : List PyData), vs = [.ref p] ∧ LogAt K C H p b im rs ∧ RetV (.int (b + (rs.length : Int))) H Q
theorem ok_log_len {f C : Addr} {fd : FuncData} (F : Fun K "length" "Log.length" s_Log_length f fd) (L : LogC K C) (T : Glo mg) : FnOk P w K mg base CX0 1 f fd ["self"] (spLogLen K C) := by
  refine F.ok sc_Log_length (fun vs H Q E h => ?_) (fun cdv A outer s H vs Q E hr h => ?_)
  · obtain ⟨p, b, im, rs, rfl, _⟩ := h
    rfl
  · obtain ⟨p, b, im, rs, rfl, l, q⟩ := h
    refine ⟨_, (pss_one (ps_ret (pe_op op_add (pe_fld (pv 0) rfl) (pe_callB call_len_seq (by rfl) T.len PySem.boot_len (pa_cons (pe_fld (pv 0) rfl) pa_nil))))), ?_⟩
    exact s_ret (ev_op (ev_base L (ev_var rfl) l) (ev_lenDT (K := K) (ed_records L (ev_var rfl) l)) rv_I0) q
theorem ev_loglen {σ : L2.St} {H : Hp} {C p : Addr} {ta : TE} {E : XK} {b : Int} {im : PyData} {rs : List PyData} (h : Ev ta σ H (.ref p)) (l : LogAt K C H p b im rs) : Ev (tProp C (spLogLen K C) [] E ta) σ H (.int (b + (rs.length : Int))) := fun H1 e Q q => h H1 e _ fun H2 e2 => by
  obtain ⟨dx, vi, t, h1, _, _⟩ := id l
  exact ⟨p, dx, _, rfl, (e.trans e2) _ _ h1, p, b, im, rs, rfl, l.mono (e.trans e2), fun H3 e3 => q H3 (e2.trans e3)⟩
def spLogValue (K : PySem.W.Frag) (C : Addr) : Sp := fun vs H Q _ => ∃ (p : Addr) (b : Int) (im : PyData) (rs : List PyData) (B : Hp), vs = [.ref p] ∧ Ex B H ∧ LogAt K C B p b im rs ∧ RetD K B (.tuple [.int b, im, .tuple rs]) H Q
theorem ok_log_value {f C : Addr} {fd : FuncData} (F : Fun K "value" "Log.value" s_Log_value f fd) (L : LogC K C) : FnOk P w K mg base CX0 1 f fd ["self"] (spLogValue K C) := by
  refine F.ok sc_Log_value (fun vs H Q E h => ?_) (fun cdv A outer s H vs Q E hr h => ?_)
  · obtain ⟨p, b, im, rs, B, rfl, _⟩ := h
    rfl
  · obtain ⟨p, b, im, rs, B, rfl, eB, l, q⟩ := h
    refine ⟨_, (pss_one (ps_ret (pe_tup (pa_cons (pe_fld (pv 0) rfl) (pa_cons (pe_fld (pv 0) rfl) (pa_cons (pe_fld (pv 0) rfl) pa_nil)))))), ?_⟩
    exact s_retDB eB (ed_tup (eds_cons (ed_int (ev_base L (ev_var rfl) l)) (eds_cons (ed_image L (ev_var rfl) l) (eds_cons (ed_records L (ev_var rfl) l) eds_nil))) (by show 3 ≤ 100000; decide)) q
theorem r_do {σ : L2.St} {H : Hp} {D : Ends} {te : TE} (h : te σ H D.rt) : tRet te D σ H := h
theorem ov_fresh {B H H1 : Hp} {p : Addr} {o : HO} (e : Ex B H) (np : H p = none) (hp : H1 p = some o) : ov B H H1 p = some o := by
  have hb : B p = none := by
    cases h : B p with
    | none => rfl
    | some x => rw [e _ _ h] at np; cases np
  unfold ov
  rw [hb, np]
  exact hp
structure CaR where
  a : Addr
  j : Int
  e : Int
  n : Int
def caV (r : CaR) : List V := [.int r.j, .int r.e, .int r.n]
def caK (r : CaR) : List Int := [r.e, r.n, -r.j]
def sur (o r : CaR) : Bool := if o.e ≠ r.e then decide (o.e > r.e) else if o.n ≠ r.n then decide (o.n > r.n) else decide (o.j < r.j)
def qB : Str := "best" ++ ".<locals>." ++ "<lambda>"
theorem argBest_max {bt : Nat → Nat → Bool} (irr : ∀ a, bt a a = false) (tr : ∀ a b c, bt a b = false → bt b c = false → bt a c = false) (asy : ∀ a b, bt a b = true → bt b a = false) : ∀ k, argBest bt k ≤ k ∧ ∀ i, i ≤ k → bt i (argBest bt k) = false
  | 0 => ⟨Nat.le_refl 0, fun i hi => by
    have : i = 0 := by omega
    rw [this]
    exact irr 0⟩
  | k + 1 => by
    obtain ⟨h1, h2⟩ := argBest_max irr tr asy k
    unfold argBest
    by_cases hb : bt (k + 1) (argBest bt k) = true
    · rw [if_pos hb]
      refine ⟨Nat.le_refl _, fun i hi => ?_⟩
      by_cases he : i = k + 1
      · rw [he]
        exact irr _
      · exact tr _ _ _ (h2 i (by omega)) (asy _ _ hb)
    · rw [if_neg hb]
      refine ⟨Nat.le_succ_of_le h1, fun i hi => ?_⟩
      by_cases he : i = k + 1
      · rw [he]
        exact Bool.not_eq_true _ ▸ hb
      · exact h2 i (by omega)
theorem lex3 (e e' n n' j j' : Int) : (if decide (e = e') = true then (if decide (n = n') = true then (if decide (-j = -j') = true then decide ((3 : Nat) > 3) else decide (-j' < -j)) else decide (n' < n)) else decide (e' < e)) = (if e ≠ e' then decide (e > e') else if n ≠ n' then decide (n > n') else decide (j < j')) := by
  by_cases a : e = e'
  · by_cases b : n = n'
    · by_cases c : j = j'
      · simp [a, b, c]
      · simp [a, b, c]
    · simp [a, b]
  · simp [a]
theorem btL_sur (o r : CaR) (kf : Nat → List Int) {i j : Nat} (h1 : kf i = caK o) (h2 : kf j = caK r) : LamP.btL kf i j = sur o r := by
  unfold LamP.btL
  rw [h1, h2]
  show (if decide (o.e = r.e) = true then (if decide (o.n = r.n) = true then (if decide (-o.j = -r.j) = true then decide ((3 : Nat) > 3) else decide (-r.j < -o.j)) else decide (r.n < o.n)) else decide (r.e < o.e)) = sur o r
  exact lex3 _ _ _ _ _ _
theorem sur_iff (o r : CaR) : sur o r = true ↔ (o.e > r.e ∨ o.e = r.e ∧ (o.n > r.n ∨ o.n = r.n ∧ o.j < r.j)) := by
  unfold sur
  split
  · rw [decide_eq_true_iff]; omega
  · split
    · rw [decide_eq_true_iff]; omega
    · rw [decide_eq_true_iff]; omega
theorem sur_no (o r : CaR) : sur o r = false ↔ ¬ (o.e > r.e ∨ o.e = r.e ∧ (o.n > r.n ∨ o.n = r.n ∧ o.j < r.j)) := by
  rw [← sur_iff, Bool.not_eq_true]
def spBest (K : PySem.W.Frag) (PT CF : Addr) : Sp := fun vs H Q E => ∃ (l : Addr) (rs : List CaR) (ps : Array Value) (B : Hp) (F : List MP), vs = [.ref l] ∧ At B (Pt PT (.tbl ps) :: F) H ∧ LamP.TblIn B ps qB ∧ H l = some (.lst (rs.map fun r => V.ref r.a)) ∧ (∀ r ∈ rs, H r.a = some (.tup (caV r))) ∧ (rs = [] → ∀ H1, Ex H H1 → E (.ref CF) none H1) ∧
  ∀ (m : Nat) (r : CaR), rs[m]? = some r → (∀ o ∈ rs, sur o r = false) → ∀ (B1 : Hp) (ps' : Array Value) (H1 : Hp), Ex B B1 → LamP.TblIn B1 ps' qB → At B1 (Pt PT (.tbl ps') :: F) H1 → Q (.int r.j) H1
theorem et_tru {σ : L2.St} {H : Hp} {ta : TE} {l : Addr} {xs : List V} (h : Ev ta σ H (.ref l)) (hl : SqL K H l xs) : EvT (fun σ H Q => ta σ H fun x H' => ∃ k, TruV K x H' k ∧ Q k H') σ H (!xs.isEmpty) := fun H1 e Q q => h H1 e _ fun H2 e2 => ⟨_, .inl ⟨xs, ex_l (e.trans e2) hl, rfl⟩, q H2 e2⟩
theorem ok_best {f C_TooFew BT cB PT : Addr} {fd : FuncData} (F : Fun K "best" "best" s_best f fd) (hc : fd.code = .ref cB) (TB : LamX.TabB base mg cB PT) (E_TooFew : Err K mg "TooFew" C_TooFew BT) (T : Glo mg) : FnOk P w K mg base (L2.CX P w) 3 f fd ["candidates"] (spBest K PT C_TooFew) := by
  refine F.okXC hc sc_best (fun vs H Q E h => ?_) (fun A outer s H vs Q E hr h => ?_)
  · obtain ⟨l, rs, ps, B, Fr, rfl, _⟩ := h
    rfl
  · obtain ⟨l, rs, ps, B, Fr, rfl, hA, hT, hl, hrs, q1, q2⟩ := h
    refine ⟨_, (pss_cons (ps_if (pt_not (pt_truth (pv 0) (by intro _; rfl)))
  (pss_one (ps_raise rfl (takes_of rfl rfl rfl rfl) (Err.mk' E_TooFew rfl)))
  pss_nil)
  (pss_one (ps_ret (pe_ix ix_tup (LamP.pe_maxlam (k := 0) (N := ["row"]) (y := "row") TB rfl rfl rfl ⟨rfl, rfl, rfl, by decide +kernel, rfl, by decide +kernel, by decide +kernel⟩ (fun _ _ _ _ => rfl) (fun A outer s H f cv hr => pe_tup (pa_cons (pe_ix (show IxR _ (rIxT K) from ix_tup) (pv 0) pe_int (fun _ _ => rfl)) (pa_cons (pe_ix (show IxR _ (rIxT K) from ix_tup) (pv 0) pe_int (fun _ _ => rfl)) (pa_cons (pe_un un_neg (pe_ix (show IxR _ (rIxT K) from ix_tup) (pv 0) pe_int (fun _ _ => rfl))) pa_nil)))) (hr.mono (by decide)) (pv 0) (by rfl) T.max) pe_int (fun _ _ => rfl))))), ?_⟩
    refine q_when (et_not (et_tru (K := K) (ev_var rfl) (sq_of hl))) (fun hb H1 e1 => ?_) (fun hb H1 e1 => ?_)
    · refine q1 ?_ H1 e1
      cases rs with
      | nil => rfl
      | cons r rs => cases hb
    · have hne : rs ≠ [] := fun z => by
        rw [z] at hb
        cases hb
      have hA := at_ex hA e1
      have hl := e1 _ _ hl
      have hrs : ∀ r ∈ rs, H1 r.a = some (.tup (caV r)) := fun r hr => e1 _ _ (hrs r hr)
      have hP : H1 PT = some (.tbl ps) := at_get (a := PT) 0 rfl hA
      have bH : Ex B H1 := fun a o h => at_base hA a o h
      refine r_do (go_op (go_cons (ev_var rfl) fun H2 e2 => go_nil ?_))
      have hA := at_ex hA e2
      have hl := e2 _ _ hl
      have hrs : ∀ r ∈ rs, H2 r.a = some (.tup (caV r)) := fun r hr => e2 _ _ (hrs r hr)
      have hP : H2 PT = some (.tbl ps) := at_get (a := PT) 0 rfl hA
      have bH := bH.trans e2
      refine ⟨ps, hP, hT.mono bH, fun g c' pm ctv ps' H3 e3 hG hc' nf => go_nil ?_⟩
      have np : ∀ {a : Addr} {o : HO}, H2 a = some o → (∀ ps, o ≠ .tbl ps) → upd H2 PT (.tbl ps') a = some o := fun {a o} h n => by
        rw [upd_ne (fun z => n ps (by rw [z, hP] at h; exact (Option.some.inj h).symm))]
        exact h
      have e4 : ∀ o, Ex H3 (upd H3 g (LamP.LamO g o)) := fun o => Ex.new nf
      have hl := e3 _ _ (np hl (fun _ z => nomatch z))
      have hrs3 : ∀ r ∈ rs, H3 r.a = some (.tup (caV r)) := fun r hr => e3 _ _ (np (hrs r hr) (fun _ z => nomatch z))
      have hA := at_upd (u := .tbl ps') 0 rfl hA
      have hlen : (rs.map fun r => V.ref r.a).length = rs.length := List.length_map _
      have hpos : 0 < rs.length := List.length_pos_iff.mpr hne
      obtain ⟨d0, hd0⟩ : ∃ d0 : CaR, True := ⟨⟨0, 0, 0, 0⟩, trivial⟩
      have kfE : ∀ i o, rs[i]? = some o → caK (rs.getD i d0) = caK o := fun i o h => by rw [List.getD_eq_getElem?_getD, h]; rfl
      refine ⟨l, g, c', pm, ctv, _, fun i => caK (rs.getD i d0), rfl, rfl, sq_of (e4 _ _ _ hl), by rw [hlen]; exact hpos, upd_same, e4 _ _ _ hc', fun i x hx H5 e5 Q' hQ' => ?_, fun x H5 hx e5 => ?_⟩
      · rw [List.getElem?_map] at hx
        cases hi : rs[i]? with
        | none => rw [hi] at hx; cases hx
        | some r =>
          rw [hi] at hx
          cases hx
          have hr : H5 r.a = some (.tup (caV r)) := e5 _ _ (e4 _ _ _ (hrs3 r (List.mem_of_getElem? hi)))
          have sq : SqT K H5 r.a (caV r) := st_of hr
          have hQ : ∀ p, H5 p = none → Q' (.ref p) (upd H5 p (.tup ((caK r).map V.int))) := fun p hp => kfE i r hi ▸ hQ' p hp
          exact ⟨.ref r.a, rfl, r.a, caV r, 1, .int r.e, rfl, rfl, sq, rfl, .ref r.a, rfl, r.a, caV r, 2, .int r.n, rfl, rfl, sq, rfl, .ref r.a, rfl, r.a, caV r, 0, .int r.j, rfl, rfl, sq, rfl, r.j, rfl, by show 3 ≤ sizeLine; decide, fun p hp => hQ p hp⟩
      · rw [hlen, List.getElem?_map] at hx
        have bt : ∀ i j, LamP.btL (fun i => caK (rs.getD i d0)) i j = sur (rs.getD i d0) (rs.getD j d0) := fun i j => btL_sur _ _ _ rfl rfl
        obtain ⟨hm, hmx⟩ := argBest_max (bt := LamP.btL fun i => caK (rs.getD i d0)) (fun a => by rw [bt, sur_no]; omega) (fun a b c => by rw [bt, bt, bt, sur_no, sur_no, sur_no]; omega) (fun a b => by rw [bt, bt, sur_iff, sur_no]; omega) (rs.length - 1)
        generalize argBest (LamP.btL fun i => caK (rs.getD i d0)) (rs.length - 1) = m at hm hmx hx
        cases hr : rs[m]? with
        | none => rw [hr] at hx; cases hx
        | some r =>
          rw [hr] at hx
          cases hx
          have e35 := e3.trans ((e4 _).trans e5)
          have eB : Ex B (upd H2 PT (.tbl ps')) := fun a o h => at_base hA a o h
          have nc : H2 c' = none → upd H2 PT (.tbl ps') c' = none := fun h => by rw [upd_ne (fun z => by rw [z, hP] at h; cases h)]; exact h
          refine ⟨r.a, caV r, 0, .int r.j, rfl, rfl, st_of (e5 _ _ (e4 _ _ _ (hrs3 r (List.mem_of_getElem? hr)))), rfl, q2 m r hr (fun o ho => ?_) _ ps' H5 ov_base (hG _ (hT.mono ov_base) fun hn => ov_fresh eB (nc hn) (((e4 _).trans e5) _ _ hc')) (at_grow hA e35)⟩
          obtain ⟨i, hi⟩ := List.getElem?_of_mem ho
          have hil := (List.getElem?_eq_some_iff.mp hi).1
          have := hmx i (by omega)
          rw [bt] at this
          rw [List.getD_eq_getElem?_getD, List.getD_eq_getElem?_getD, hi, hr] at this
          exact this
structure PrR where
  j : Int
  e : Int
  b : Int
  im : PyData
  rs : List PyData
  ta : Addr
  la : Addr
  tb : Addr
  va : Addr
def prL (r : PrR) : Int := r.b + (r.rs.length : Int)
def prC (r : PrR) (a : Addr) : CaR := ⟨a, r.j, r.e, prL r⟩
def surP (o r : PrR) : Bool := sur (prC o 0) (prC r 0)
structure PrOk (K : PySem.W.Frag) (CL : Addr) (B : Hp) (r : PrR) : Prop where
  ta : B r.ta = some (.tup [.int r.e, .ref r.la])
  la : LogAt K CL B r.la r.b r.im r.rs
  tb : B r.tb = some (.tup [.int r.e, .ref r.va])
  va : Dp K B (.ref r.va) (.tuple [.int r.b, r.im, .tuple r.rs])
theorem PrOk.mono {K : PySem.W.Frag} {CL : Addr} {B B' : Hp} {r : PrR} (e : Ex B B') (h : PrOk K CL B r) : PrOk K CL B' r := ⟨e _ _ h.ta, h.la.mono e, e _ _ h.tb, dp_mono e _ _ h.va⟩
def kvI (l : List (Int × V)) : List (Key × V) := l.map fun p => (Sum.inl p.1, p.2)
theorem kvI_val (k : Int) : ∀ l : List (Int × V), valV (kvI l) (Sum.inl k) = valV l k
  | [] => rfl
  | p :: r => by
    have ih := kvI_val k r
    show valV ((Sum.inl p.1, p.2) :: kvI r) (Sum.inl k) = valV (p :: r) k
    by_cases h : p.1 = k
    · rw [valV_pos (p := (Sum.inl p.1, p.2)) (by show Sum.inl p.1 = Sum.inl k; rw [h]), valV_pos h]
    · rw [valV_neg (p := (Sum.inl p.1, p.2)) (fun e => h (Sum.inl.inj e)), valV_neg h, ih]
theorem kvI_any (k : Int) : ∀ l : List (Int × V), ((kvI l).any fun kv => decide (kv.1 = Sum.inl k)) = l.any fun kv => decide (kv.1 = k)
  | [] => rfl
  | p :: r => by
    have ih := kvI_any k r
    show (decide ((Sum.inl p.1 : Key) = Sum.inl k) || (kvI r).any _) = (decide (p.1 = k) || r.any _)
    rw [ih]
    congr 1
    by_cases h : p.1 = k
    · rw [decide_eq_true h, decide_eq_true (by rw [h])]
    · rw [decide_eq_false h, decide_eq_false (fun e => h (Sum.inl.inj e))]
theorem val_none {l : List (Int × V)} {k : Int} : valV l k = none ↔ ∀ p ∈ l, p.1 ≠ k := by
  unfold valV
  rw [Option.map_eq_none_iff, List.find?_eq_none]
  exact ⟨fun h p hp e => h p hp (decide_eq_true e), fun h p hp e => h p hp (of_decide_eq_true e)⟩
theorem kvI_put {l : List (Int × V)} {k : Int} {v : V} (h : valV l k = none) : putK (kvI l) (Sum.inl k) v = kvI (l ++ [(k, v)]) := by
  unfold putK
  rw [kvI_any, if_neg]
  · unfold kvI
    rw [List.map_append]
    rfl
  · intro z
    obtain ⟨p, hp, e⟩ := List.any_eq_true.mp z
    exact val_none.mp h p hp (of_decide_eq_true e)
theorem pr_val {g : PrR → V} : ∀ {ps : List PrR} {r : PrR}, (ps.map (·.j)).Nodup → r ∈ ps → valV (ps.map fun r => (r.j, g r)) r.j = some (g r)
  | x :: ps, r, hn, hr => by
    obtain ⟨h1, h2⟩ := List.nodup_cons.mp hn
    rw [List.map_cons]
    rcases List.mem_cons.mp hr with rfl | hr
    · rw [valV_pos rfl]
    · rw [valV_neg (fun z => h1 (List.mem_map.mpr ⟨r, hr, z.symm⟩)), pr_val h2 hr]
theorem pr_some {g : PrR → V} {ps : List PrR} {k : Int} {v : V} (h : valV (ps.map fun r => (r.j, g r)) k = some v) : ∃ r ∈ ps, r.j = k ∧ v = g r := by
  unfold valV at h
  obtain ⟨p, hp, e⟩ := Option.map_eq_some_iff.mp h
  have h1 := List.mem_of_find?_eq_some hp
  have h2 := List.find?_some hp
  obtain ⟨r, hr, rfl⟩ := List.mem_map.mp h1
  exact ⟨r, hr, of_decide_eq_true h2, e.symm⟩
theorem go_dget {σ : L2.St} {H : Hp} {td ty : TE} {Q : VK} (h : td σ H fun x H1 => ty σ H1 fun y H2 => ∃ a v, x = .ref a ∧ DGet H2 a y (some v) ∧ Q v H2) : tDGet td ty σ H Q := h
theorem s_dput {σ : L2.St} {H : Hp} {D : Ends} {td ty tv : TE} (h : tv σ H fun v H1 => td σ H1 fun x H2 => ty σ H2 fun y H3 => ∃ a H4, x = .ref a ∧ DPut H3 a y v H4 ∧ D.nx σ H4) : sDPut td ty tv D σ H := h
theorem dget_I {H : Hp} {a : Addr} {l : List (Int × V)} {k : Int} (h : H a = some (.dK (kvI l))) : DGet H a (.int k) (valV l k) := by
  rw [← kvI_val]
  exact DGet.k (k := Sum.inl k) h
theorem ev_dinI {σ : L2.St} {H : Hp} {ty td : TE} {a : Addr} {l : List (Int × V)} {k : Int} (hy : Ev ty σ H (.int k)) (hd : Ev td σ H (.ref a)) (h : H a = some (.dK (kvI l))) : Ev (tDIn ty td) σ H (.bl (valV l k).isSome) := fun H1 e Q q => hy H1 e _ fun H2 e2 => hd H2 (e.trans e2) _ fun H3 e3 => ⟨a, valV l k, rfl, dget_I (((e.trans e2).trans e3) _ _ h), q H3 (e2.trans e3)⟩
theorem ev_dninI {σ : L2.St} {H : Hp} {ty td : TE} {a : Addr} {l : List (Int × V)} {k : Int} (hy : Ev ty σ H (.int k)) (hd : Ev td σ H (.ref a)) (h : H a = some (.dK (kvI l))) : Ev (tDNotIn ty td) σ H (.bl (!(valV l k).isSome)) := fun H1 e Q q => hy H1 e _ fun H2 e2 => hd H2 (e.trans e2) _ fun H3 e3 => ⟨a, valV l k, rfl, dget_I (((e.trans e2).trans e3) _ _ h), q H3 (e2.trans e3)⟩
theorem go_cbk {σ : L2.St} {H : Hp} {r : List V → Hp → VK → Prop} {ta : L2.TA} {Q : VK} (h : ta σ H fun vs H1 => r vs H1 Q) : tCB r ta σ H Q := h
structure ElC (K : PySem.W.Frag) (C : Addr) : Prop where
  cl : Cls K C
  nJ : NoAttr K C "journals"
  nP : NoAttr K C "_promises"
def fEl (cnt : Int) (d : Addr) : List (Str × V) := [("journals", .int cnt), ("_promises", .ref d)]
def ElM (C e : Addr) (cnt : Int) (l : List (Int × V)) : MP := ExM fun x : Addr × Addr => Stars [Pt e (.ins C x.1 (fEl cnt x.2)), Pt x.2 (.dK (kvI l))]
theorem el_open {B H : Hp} {F : List MP} {C e : Addr} {cnt : Int} {l : List (Int × V)} (h : At B (ElM C e cnt l :: F) H) : ∃ dx d, At B (Pt e (.ins C dx (fEl cnt d)) :: Pt d (.dK (kvI l)) :: F) H := by
  obtain ⟨⟨dx, d⟩, h⟩ := at_exm h
  exact ⟨dx, d, at_stars (k := [_, _]) h⟩
theorem el_close {B H : Hp} {F : List MP} {C e dx d : Addr} {cnt : Int} {l : List (Int × V)} (h : At B (Pt e (.ins C dx (fEl cnt d)) :: Pt d (.dK (kvI l)) :: F) H) : At B (ElM C e cnt l :: F) H := at_exm' (dx, d) (at_stars' [_, _] h)
def spElI (C : Addr) : Sp := fun vs H Q _ => ∃ (e dx : Addr) (cnt : Int) (B : Hp) (F : List MP), vs = [.ref e, .int cnt] ∧ At B (Pt e (.ins C dx []) :: F) H ∧ ∀ H1, At B (ElM C e cnt [] :: F) H1 → Q .non H1
theorem ok_elinit {f C : Addr} {fd : FuncData} (F : Fun K "__init__" "Election.__init__" s_Election___init__ f fd) (L : ElC K C) (T : Glo mg) : FnOk P w K mg base CX0 1 f fd ["self", "journals"] (spElI C) := by
  refine F.ok sc_Election___init__ (fun vs H Q E h => ?_) (fun cdv A outer s H vs Q E hr h => ?_)
  · obtain ⟨e, dx, cnt, B, Fr, rfl, _⟩ := h
    rfl
  · obtain ⟨e, dx, cnt, B, Fr, rfl, hA, q⟩ := h
    refine ⟨_, (pss_cons (ps_fld (pv 0) (pv 1) rfl)
  (pss_one (ps_fld (pv 0) pe_dnewK rfl))), ?_⟩
    refine qe_fld (K := K) 0 rfl hA (ev_var rfl) (fun _ => ev_var rfl) L.cl L.nJ (by show 0 < 1000; decide) fun H1 hA => ?_
    refine se_fldD (K := K) 0 rfl hA (fun _ => ev_var rfl) L.cl L.nP (by show 1 < 1000; decide) fun d H2 hA => ?_
    have hA : At B (Pt d (.dK (kvI [])) :: Pt e (.ins C dx (fEl cnt d)) :: Fr) H2 := hA
    exact q H2 (el_close (at_swap hA))
def spElN (C : Addr) : Sp := fun vs H Q _ => ∃ (e la : Addr) (j ep cnt : Int) (l : List (Int × V)) (B : Hp) (F : List MP), vs = [.ref e, .int j, .int ep, .ref la] ∧ At B (ElM C e cnt l :: F) H ∧ l.length < 1000 ∧ ((valV l j).isSome = true → ∀ H1, At B (ElM C e cnt l :: F) H1 → Q .non H1) ∧
  (valV l j = none → ∀ (ta : Addr) (B1 H1 : Hp), Ex B B1 → B1 ta = some (.tup [.int ep, .ref la]) → At B1 (ElM C e cnt (l ++ [(j, .ref ta)]) :: F) H1 → Q .non H1)
theorem ok_elnote {f C : Addr} {fd : FuncData} (F : Fun K "note" "Election.note" s_Election_note f fd) (L : ElC K C) (T : Glo mg) : FnOk P w K mg base CX0 1 f fd ["self", "journal", "epoch", "log"] (spElN C) := by
  refine F.ok sc_Election_note (fun vs H Q E h => ?_) (fun cdv A outer s H vs Q E hr h => ?_)
  · obtain ⟨e, la, j, ep, cnt, l, B, Fr, rfl, _⟩ := h
    rfl
  · obtain ⟨e, la, j, ep, cnt, l, B, Fr, rfl, hA, hl, q1, q2⟩ := h
    refine ⟨_, (pss_one (ps_if (pt_cmp (pc_dnotin (by exact hu_of hr) (pv 1) (show PE _ _ (tFld K _ "_promises") from pe_fld (pv 0) (by rfl))))
  (pss_one (ps_dput (hu_of hr) (pe_fld (pv 0) rfl) (pv 1) (pe_tup (pa_cons (pv 2) (pa_cons (pv 3) pa_nil))) rfl))
  pss_nil)), ?_⟩
    obtain ⟨dx, d, hA⟩ := el_open hA
    refine s_when (b := !(valV l j).isSome) (et_B (ev_dninI (ev_var rfl) (ev_fld (K := K) (ev_var rfl) (at_get 0 rfl hA) L.cl L.nP rfl) (at_get (a := d) 1 rfl hA))) (fun hb H1 e1 => ?_) (fun hb H1 e1 => ?_)
    · have hn : valV l j = none := by
        cases h : valV l j with
        | none => rfl
        | some v => rw [h] at hb; cases hb
      have hA := at_ex hA e1
      refine s_dput (go_tup (go_cons (ev_var rfl) fun H2 e2 => go_cons (ev_var rfl) fun H3 e3 => go_nil ⟨by show 2 ≤ sizeLine; decide, fun ta nt => ?_⟩))
      obtain ⟨b1, hA, hta⟩ := Ap.at_tup (vs := [.int ep, .ref la]) (at_ex hA (e2.trans e3)) nt
      refine go_ev (ev_fld (K := K) (ev_var rfl) (at_get 0 rfl hA) L.cl L.nP rfl) fun H4 e4 => go_ev (ev_var rfl) fun H5 e5 => ?_
      have hA := at_ex hA (e4.trans e5)
      refine ⟨d, _, rfl, .inl ⟨_, Sum.inl j, at_get (a := d) 1 rfl hA, rfl, by unfold kvI; rw [List.length_map]; exact sz_lt (by omega), rfl⟩, ?_⟩
      have hA := at_upd (u := .dK (putK (kvI l) (Sum.inl j) (.ref ta))) 1 rfl hA
      rw [kvI_put hn] at hA ⊢
      exact q2 hn ta _ _ b1 hta (el_close hA)
    · have hs : (valV l j).isSome = true := by
        cases h : (valV l j).isSome with
        | true => rfl
        | false => rw [h] at hb; cases hb
      exact q1 hs H1 (el_close (at_ex hA e1))
def spElP (C : Addr) : Sp := fun vs H Q _ => ∃ (e : Addr) (j cnt : Int) (l : List (Int × V)) (B : Hp) (F : List MP), vs = [.ref e, .int j] ∧ At B (ElM C e cnt l :: F) H ∧ ∀ H1, Ex H H1 → Q (.bl (valV l j).isSome) H1
theorem ok_elpromised {f C : Addr} {fd : FuncData} (F : Fun K "promised" "Election.promised" s_Election_promised f fd) (L : ElC K C) (T : Glo mg) : FnOk P w K mg base CX0 1 f fd ["self", "journal"] (spElP C) := by
  refine F.ok sc_Election_promised (fun vs H Q E h => ?_) (fun cdv A outer s H vs Q E hr h => ?_)
  · obtain ⟨e, j, cnt, l, B, Fr, rfl, _⟩ := h
    rfl
  · obtain ⟨e, j, cnt, l, B, Fr, rfl, hA, q⟩ := h
    refine ⟨_, (pss_one (ps_ret (pe_cmp (pc_din (by exact hu_of hr) (pv 1) (show PE _ _ (tFld K _ "_promises") from pe_fld (pv 0) (by rfl))) rfl))), ?_⟩
    obtain ⟨dx, d, hA⟩ := el_open hA
    exact s_ret (ev_dinI (ev_var rfl) (ev_fld (K := K) (ev_var rfl) (at_get 0 rfl hA) L.cl L.nP rfl) (at_get (a := d) 1 rfl hA)) q
def spElD (C : Addr) : Sp := fun vs H Q _ => ∃ (e : Addr) (cnt : Int) (l : List (Int × V)) (B : Hp) (F : List MP), vs = [.ref e] ∧ At B (ElM C e cnt l :: F) H ∧ l.length ≤ 1000 ∧ ∀ H1, Ex H H1 → Q (.bl (hmB (l.map (·.1)) cnt)) H1
theorem ok_eldecided {f f1 C : Addr} {fd fd1 : FuncData} (F : Fun K "decided" "Election.decided" s_Election_decided f fd) (D_has_majority : Df K mg "has_majority" s_has_majority ["members", "count"] f1 fd1) (G_has_majority : FnOk P w K mg base CX0 2 f1 fd1 ["members", "count"] (spHM K)) (L : ElC K C) (T : Glo mg) : FnOk P w K mg base CX0 3 f fd ["self"] (spElD C) := by
  refine F.ok sc_Election_decided (fun vs H Q E h => ?_) (fun cdv A outer s H vs Q E hr h => ?_)
  · obtain ⟨e, cnt, l, B, Fr, rfl, _⟩ := h
    rfl
  · obtain ⟨e, cnt, l, B, Fr, rfl, hA, hl, q⟩ := h
    refine ⟨_, (pss_one (ps_ret (pe_call G_has_majority (hr.mono (by decide)) (by rfl) D_has_majority.g D_has_majority.F.kp D_has_majority.b .nil pass0 (pa_cons (pe_callTy (call_listD rfl) (by rfl) T.list (by decide +kernel) (pa_cons (pe_fld (pv 0) rfl) pa_nil)) (pa_cons (pe_fld (pv 0) rfl) pa_nil))))), ?_⟩
    obtain ⟨dx, d, hA⟩ := el_open hA
    refine r_do (go_call (go_cons' (go_cbk (go_ev (ev_fld (K := K) (ev_var rfl) (at_get 0 rfl hA) L.cl L.nP rfl) fun H1 e1 => go_nil ⟨d, _, rfl, .inl (at_get (a := d) 1 rfl (at_ex hA e1)), fun p np => ?_⟩))))
    have e2 := Ex.new (o := .lst ((kvI l).map fun kv => kV kv.1)) np
    have hA := at_ex hA (e1.trans e2)
    refine go_ev (ev_fld (K := K) (ev_var rfl) (at_get 0 rfl hA) L.cl L.nJ rfl) fun H3 e3 => go_nil ⟨p, l.map (·.1), cnt, rfl, sq_of (e3 _ _ ?_), by rw [List.length_map]; exact hl, fun H4 e4 => q H4 (((e1.trans e2).trans e3).trans e4)⟩
    rw [upd_same]
    unfold kvI
    rw [List.map_map, List.map_map]
    rfl
theorem s_appT {σ : L2.St} {B H : Hp} {D : Ends} {l : List MP} {ta : TE} {tr : L2.TA} {q : Addr} {xs vs : List V} (k : Nat) (hk : l[k]? = some (Pt q (.lst xs))) (hA : At B l H) (ha : Ev ta σ H (.ref q)) (h : EvA tr σ H vs) (hv : vs.length ≤ 100000) (hz : xs.length < 100000) (c : ∀ p B1 H1, Ex B B1 → B1 p = some (.tup vs) → At B1 (l.set k (Pt q (.lst (xs ++ [.ref p])))) H1 → D.nx σ H1) : tDrop (tBM K "list" rAppend ta (tCons (tTup tr) tNil)) D σ H :=
  ha H (Ex.refl H) _ fun H1 e1 => ⟨.inl ⟨rfl, xs, sq_of (at_get k hk (at_ex hA e1))⟩, h H1 e1 _ fun H2 e2 => ⟨sz_of hv, fun p np => by
    obtain ⟨b, hA2, hp⟩ := Ap.at_tup (vs := vs) (at_ex hA (e1.trans e2)) np
    exact ⟨q, xs, .ref p, rfl, rfl, at_get (a := q) k hk hA2, sz_lt hz, c p _ _ b hp (at_upd k hk hA2)⟩⟩⟩
theorem go_cS {σ : L2.St} {H : Hp} {sp : Sp} {E : L2.St → XK} {t : L2.TA} {Q : VK} (h : t σ H fun vs H1 => sp vs H1 Q (E σ)) : tCallS sp E t σ H Q := h
theorem q_forItems {σ : L2.St} {H : Hp} {D : Ends} {tz tu : TS} {g : TG} {td : TE} {d : Addr} {kvs : List (Key × V)} (hd : H d = some (.dK kvs)) (htd : ∀ o, Ev td σ (upd H d (.frz o (.dK kvs))) (.ref d)) (Pv : Obj → Nat → L2.St → Hp → Prop) (h0 : ∀ o H1, Ex (upd H d (.frz o (.dK kvs))) H1 → Pv o 0 σ H1) (hG : ∀ o i σ' H', Pv o i σ' H' → H' d = some (.frz o (.dK kvs)))
    (hs : ∀ o i k x T σ' H' rt bk, kvs[i]? = some (k, x) → Pv o i σ' H' → H' T = none → g (.ref T) σ' (upd H' T (.tup [kV k, x])) fun σ2 H2 => tu ⟨Pv o (i + 1), rt, bk, Pv o (i + 1)⟩ σ2 H2)
    (q : ∀ o σ' H', Pv o kvs.length σ' H' → tz D σ' (upd H' d (.dK kvs))) : tSeq (tLock (tFor (iItems td) g tu)) tz D σ H :=
  ⟨d, .dK kvs, hd, trivial, fun od => htd od _ (Ex.refl _) _ fun H1 e1 => ⟨d, od, kvs, rfl, e1 _ _ upd_same, for_it walk_items (Pv od) (h0 od H1 e1) (fun i σ' H' _ p => hG od i σ' H' p) (fun i x σ' H2 H' hi p y => by
    obtain ⟨T, a, b, rfl, nT, rfl, ha, hb⟩ := y
    have hk := List.getElem?_eq_getElem hi
    have ha : (kvs[i]?.map fun kv => kV kv.1) = some a := ha
    have hb : kvs[i]?.map Prod.snd = some b := hb
    rw [hk] at ha hb
    cases ha
    cases hb
    exact hs od i _ _ T σ' H2 _ _ hk p nT) (fun σ' H' p => ⟨hG od _ σ' H' p, q od σ' H' p⟩)⟩⟩
def elK (ps : List PrR) : List (Int × V) := ps.map fun r => (r.j, V.ref r.ta)
def fiK (ps : List PrR) : List (Int × V) := ps.map fun r => (r.j, V.ref r.tb)
def spElC (K : PySem.W.Frag) (C CL PT CF : Addr) : Sp := fun vs H Q E => ∃ (e : Addr) (cnt : Int) (ps : List PrR) (tps : Array Value) (B : Hp) (F : List MP), vs = [.ref e] ∧ At B (ElM C e cnt (elK ps) :: Pt PT (.tbl tps) :: F) H ∧ LamP.TblIn B tps qB ∧ (∀ r ∈ ps, PrOk K CL B r) ∧ ps.length ≤ 1000 ∧ (ps.map (·.j)).Nodup ∧
  (ps = [] → ∀ B1 H1, Ex B B1 → At B1 (ElM C e cnt (elK ps) :: Pt PT (.tbl tps) :: F) H1 → E (.ref CF) none H1) ∧ ∀ r ∈ ps, (∀ o ∈ ps, surP o r = false) → ∀ (B1 : Hp) (tps' : Array Value) (H1 : Hp), Ex B B1 → LamP.TblIn B1 tps' qB → At B1 (ElM C e cnt (elK ps) :: Pt PT (.tbl tps') :: F) H1 → Q (.ref r.la) H1
theorem ok_elchoice {f f1 f2 C CL PT C_TooFew : Addr} {fd fd1 fd2 : FuncData} (F : Fun K "choice" "Election.choice" s_Election_choice f fd) (D_Log_length : Pr K CL "length" "Log.length" s_Log_length f1 fd1) (G_Log_length : FnOk P w K mg base CX0 1 f1 fd1 ["self"] (spLogLen K CL)) (D_best : Df K mg "best" s_best ["candidates"] f2 fd2) (G_best : FnOk P w K mg base (L2.CX P w) 3 f2 fd2 ["candidates"] (spBest K PT C_TooFew)) (L_Log : Kl K mg "Log" CL) (L : ElC K C) (T : Glo mg) : FnOk P w K mg base (L2.CX P w) 4 f fd ["self"] (spElC K C CL PT C_TooFew) := by
  refine F.okX sc_Election_choice (fun vs H Q E h => ?_) (fun cdv A outer s H vs Q E hr h => ?_)
  · obtain ⟨e, cnt, ps, tps, B, Fr, rfl, _⟩ := h
    rfl
  · obtain ⟨e, cnt, ps, tps, B, Fr, rfl, hA, hT, hps, hl, hnd, q1, q2⟩ := h
    refine ⟨_, (pss_cons (ps_set (i := 1) sc_Election_choice.nd rfl (.inl rfl) (pe_lst pa_nil))
  (pss_cons (ps_lock (ps_for (passes_of rfl) rfl (pi_items (pe_fld (pv 0) rfl)) (pg_tup (by rfl) (pgs_cons (pg_name (i := 2) sc_Election_choice.nd rfl (.inl rfl)) (pgs_cons (pg_tup (by rfl) (pgs_cons (pg_name (i := 3) sc_Election_choice.nd rfl (.inl rfl)) (pgs_cons (pg_name (i := 4) sc_Election_choice.nd rfl (.inl rfl)) pgs_nil))) pgs_nil)))
  (pss_one (ps_expr (pe_bm PySem.F.plainAttrs_list PySem.F.slot_list_append PySem.F.type_list_append mt_append (pv 1) (pa_cons (pe_tup (pa_cons (pv 2) (pa_cons (pv 3) (pa_cons (pe_pr (pv 4) L_Log.cl D_Log_length G_Log_length (hr.mono (by decide)) pass0 rfl) pa_nil)))) pa_nil))))))
  (pss_one (ps_ret (pe_ix ix_tup (pe_dget (hu_of hr) (pe_fld (pv 0) rfl) (pe_callS G_best (hr.mono (by decide)) (by rfl) D_best.g D_best.F.kp D_best.b (fun σ => passAt (takes_of rfl rfl rfl rfl) σ) (pa_cons (pv 1) pa_nil)) (fun _ _ => rfl)) pe_int (fun _ _ => rfl)))))), ?_⟩
    obtain ⟨dx, d, hA⟩ := el_open hA
    refine q_do (go_lst (go_nil ⟨by show 0 ≤ sizeLine; decide, fun cl hcl => ?_⟩))
    have hA := at_new (o := .lst []) hA hcl (Ex.new hcl) upd_same
    have hkl : (kvI (elK ps)).length = ps.length := by unfold kvI elK; rw [List.length_map, List.length_map]
    have hkv : ∀ {i : Nat} {k : Key} {x : V}, (kvI (elK ps))[i]? = some (k, x) → ∃ r, ps[i]? = some r ∧ k = Sum.inl r.j ∧ x = .ref r.ta := fun {i k x} h => by
      unfold kvI elK at h
      rw [List.map_map, List.getElem?_map] at h
      cases hr : ps[i]? with
      | none => rw [hr] at h; cases h
      | some r =>
        rw [hr] at h
        cases h
        exact ⟨r, rfl, rfl, rfl⟩
    refine q_forItems (kvs := kvI (elK ps)) (at_get (a := d) 2 rfl hA) (fun o => ev_fld (K := K) (ev_var rfl) (at_get 1 rfl (at_upd (u := .frz o (.dK (kvI (elK ps)))) 2 rfl hA)) L.cl L.nP rfl)
      (fun o i σ' H' => ∃ (cs : List CaR) (B' : Hp) (y2 y3 y4 : Option V), σ' = [some (.ref e), some (.ref cl), y2, y3, y4] ∧ Ex B B' ∧ At B' (Pt cl (.lst (cs.map fun c => V.ref c.a)) :: Pt e (.ins C dx (fEl cnt d)) :: Pt d (.frz o (.dK (kvI (elK ps)))) :: Pt PT (.tbl tps) :: Fr) H' ∧ cs.length = i ∧ (∀ (k : Nat) c r, cs[k]? = some c → ps[k]? = some r → c = prC r c.a) ∧ ∀ c ∈ cs, B' c.a = some (.tup (caV c)))
      (fun o H1 e1 => ⟨[], B, _, _, _, rfl, Ex.refl _, at_ex (at_upd (u := .frz o (.dK (kvI (elK ps)))) 2 rfl hA) e1, rfl, (fun k c r h => nomatch h), (fun _ h => nomatch h)⟩) (fun o i σ' H' pp => ?_) (fun o i k x T σ' H' rt bk hi pp nT => ?_) (fun o σ' H' pp => ?_)
    · obtain ⟨cs, B', y2, y3, y4, rfl, b1, hA, _⟩ := pp
      exact at_get (a := d) 2 rfl hA
    · obtain ⟨cs, B', y2, y3, y4, rfl, b1, hA, hcn, hcr, hca⟩ := pp
      obtain ⟨r, hr, rfl, rfl⟩ := hkv hi
      have ok := (hps r (List.mem_of_getElem? hr)).mono b1
      have hA := at_ex hA (Ex.new (o := .tup [kV (Sum.inl r.j), .ref r.ta]) nT)
      refine ⟨T, _, rfl, st_of upd_same, rfl, _, _, rfl, _, _, rfl, ⟨r.ta, _, rfl, st_of (at_base hA _ _ ok.ta), rfl, _, _, rfl, _, _, rfl, rfl, rfl, ?_⟩⟩
      refine s_appT (K := K) (vs := caV (prC r 0)) 0 rfl hA (ev_var rfl) (ea_cons (ev_var rfl) (ea_cons (ev_var rfl) (ea_cons (ev_loglen (ev_var rfl) (ok.la.mono (at_base hA))) ea_nil))) (by show 3 ≤ 100000; decide) (by rw [List.length_map]; have := (List.getElem?_eq_some_iff.mp hr).1; omega) (fun p B2 H9 b2 hp hA => ?_)
      refine ⟨cs ++ [prC r p], B2, _, _, _, rfl, b1.trans b2, by rw [List.map_append]; exact hA, by rw [List.length_append, hcn]; rfl, fun k c r' hc hr' => ?_, fun c hc => ?_⟩
      · by_cases hk : k < cs.length
        · rw [List.getElem?_append_left hk] at hc
          exact hcr k c r' hc hr'
        · have : k = cs.length := by
            have := (List.getElem?_eq_some_iff.mp hc).1
            rw [List.length_append] at this
            have e1 : [prC r p].length = 1 := rfl
            omega
          subst this
          rw [List.getElem?_append_right (Nat.le_refl _), Nat.sub_self] at hc
          cases hc
          rw [hcn, hr] at hr'
          cases hr'
          rfl
      · rcases List.mem_append.mp hc with hc | hc
        · exact b2 _ _ (hca c hc)
        · rw [List.mem_singleton.mp hc]
          exact hp
    · obtain ⟨cs, B', y2, y3, y4, rfl, b1, hA, hcn, hcr, hca⟩ := pp
      rw [hkl] at hcn
      have hA := at_upd (u := .dK (kvI (elK ps))) 2 rfl hA
      have hA : At B' (Pt cl (.lst (cs.map fun c => V.ref c.a)) :: Pt e (.ins C dx (fEl cnt d)) :: Pt d (.dK (kvI (elK ps))) :: Pt PT (.tbl tps) :: Fr) _ := hA
      refine r_do (go_op (go_dget (go_ev (ev_fld (K := K) (ev_var rfl) (at_get 1 rfl hA) L.cl L.nP rfl) fun H1 e1 => go_cS (go_cons (ev_var rfl) fun H2 e2 => go_nil ?_))))
      have hA := at_ex hA (e1.trans e2)
      refine ⟨cl, cs, tps, B', _, rfl, at_ix 4 [3, 0, 1, 2] hA, hT.mono b1, at_get (a := cl) 0 rfl hA, fun c hc => at_base hA _ _ (hca c hc), fun hc0 H3 e3 => ?_, fun m c hm hmx B2 tps' H3 b2 hT' hA => ?_⟩
      · exact q1 (List.eq_nil_of_length_eq_zero (by rw [← hcn, hc0]; rfl)) B' H3 b1 (el_close (at_drop (at_ex hA e3)))
      · have hA : At B2 (Pt PT (.tbl tps') :: Pt cl (.lst (cs.map fun c => V.ref c.a)) :: Pt e (.ins C dx (fEl cnt d)) :: Pt d (.dK (kvI (elK ps))) :: Fr) H3 := hA
        have hml := (List.getElem?_eq_some_iff.mp hm).1
        obtain ⟨r, hr⟩ : ∃ r, ps[m]? = some r := ⟨_, List.getElem?_eq_getElem (by omega)⟩
        have hrm := List.mem_of_getElem? hr
        have ec := hcr m c r hm hr
        have hd : H3 d = some (.dK (kvI (elK ps))) := at_get (a := d) 3 rfl hA
        have hj : c.j = r.j := by rw [ec]; rfl
        have ok := (hps r hrm).mono (b1.trans b2)
        refine ⟨d, .ref r.ta, rfl, ?_, r.ta, _, 1, .ref r.la, rfl, rfl, st_of (at_base hA _ _ ok.ta), rfl, q2 r hrm (fun o ho => ?_) B2 tps' H3 (b1.trans b2) hT' (el_close (at_drop (at_ix 4 [1, 2, 3, 0] hA)))⟩
        · rw [hj, ← pr_val (g := fun r => V.ref r.ta) hnd hrm]
          exact dget_I hd
        · obtain ⟨i, hi⟩ := List.getElem?_of_mem ho
          have hil := (List.getElem?_eq_some_iff.mp hi).1
          obtain ⟨c', hc'⟩ : ∃ c', cs[i]? = some c' := ⟨_, List.getElem?_eq_getElem (by omega)⟩
          have e' := hcr i c' o hc' hi
          have := hmx c' (List.mem_of_getElem? hc')
          rw [e', ec] at this
          exact this
theorem go_methX {σ : L2.St} {H : Hp} {ta : TE} {C : Addr} {sp : Sp} {E : XK} {m : Str} {tr : L2.TA} {Q : VK} {dvs : List V} (h : ta σ H fun x H1 => ∃ r dx fs, x = .ref r ∧ H1 r = some (.ins C dx fs) ∧ fs.lookup m = none ∧ tr σ H1 fun vs H2 => sp (x :: (vs ++ dvs)) H2 Q E) : tMeth C m sp dvs E ta tr σ H Q := h
theorem go_mx {σ : L2.St} {H : Hp} {ta : TE} {C r dx : Addr} {sp : Sp} {E : L2.St → XK} {m : Str} {fs : List (Str × V)} {tr : L2.TA} {Q : VK} (h : Ev ta σ H (.ref r)) (hr : H r = some (.ins C dx fs)) (hn : fs.lookup m = none) (k : ∀ H1, Ex H H1 → tr σ H1 fun vs H2 => sp (.ref r :: vs) H2 Q (E σ)) : tMX C m sp E ta tr σ H Q := h H (Ex.refl H) _ fun H1 e1 => ⟨r, dx, fs, rfl, e1 _ _ hr, hn, k H1 e1⟩
def valP (r : PrR) : PyData := .tuple [.int r.b, r.im, .tuple r.rs]
def logD (r : PrR) : PyData := .tuple [.str "log", valP r]
def fewD : PyData := .tuple [.str "few", .bool true]
theorem el_ins {B H : Hp} {F : List MP} {C e : Addr} {cnt : Int} {l : List (Int × V)} (h : At B (ElM C e cnt l :: F) H) : ∃ dx d, H e = some (.ins C dx (fEl cnt d)) := by
  obtain ⟨dx, d, h⟩ := el_open h
  exact ⟨dx, d, at_get 0 rfl h⟩
def spLC (K : PySem.W.Frag) (C CL PT : Addr) : Sp := fun vs H Q _ => ∃ (e : Addr) (cnt : Int) (ps : List PrR) (tps : Array Value) (B : Hp) (F : List MP), vs = [.ref e] ∧ At B (ElM C e cnt (elK ps) :: Pt PT (.tbl tps) :: F) H ∧ LamP.TblIn B tps qB ∧ (∀ r ∈ ps, PrOk K CL B r) ∧ ps.length ≤ 1000 ∧ (ps.map (·.j)).Nodup ∧
  (ps = [] → ∀ v (B1 : Hp) H1, Ex B B1 → Dp K B1 v fewD → At B1 (ElM C e cnt (elK ps) :: Pt PT (.tbl tps) :: F) H1 → Q v H1) ∧ ∀ r ∈ ps, (∀ o ∈ ps, surP o r = false) → ∀ v (B1 : Hp) (tps' : Array Value) (H1 : Hp), Ex B B1 → LamP.TblIn B1 tps' qB → Dp K B1 v (logD r) → At B1 (ElM C e cnt (elK ps) :: Pt PT (.tbl tps') :: F) H1 → Q v H1
theorem ok_lchoice {f f1 f2 C CL PT C_TooFew C_HallError C_OutOfRange : Addr} {fd fd1 fd2 : FuncData} (F : Fun K "_law_choice" "_law_choice" s__law_choice f fd) (D_Election_choice : Dm K C "choice" "Election.choice" s_Election_choice ["self"] f1 fd1) (G_Election_choice : FnOk P w K mg base (L2.CX P w) 4 f1 fd1 ["self"] (spElC K C CL PT C_TooFew)) (D_Log_value : Dm K CL "value" "Log.value" s_Log_value ["self"] f2 fd2) (G_Log_value : FnOk P w K mg base CX0 1 f2 fd2 ["self"] (spLogValue K CL))
    (L_Election : Kl K mg "Election" C) (L_Log : Kl K mg "Log" CL) (E_TooFew : Err K mg "TooFew" C_TooFew C_HallError) (g_HallError : mg "HallError" = some (.ref C_HallError)) (g_OutOfRange : mg "OutOfRange" = some (.ref C_OutOfRange)) (N_TO : PySem.W.kitOne K (.ref C_TooFew) (.ref C_OutOfRange) = some false) (T : Glo mg) : FnOk P w K mg base CX0 6 f fd ["election"] (spLC K C CL PT) := by
  refine F.ok sc__law_choice (fun vs H Q E h => ?_) (fun cdv A outer s H vs Q E hr h => ?_)
  · obtain ⟨e, cnt, ps, tps, B, Fr, rfl, _⟩ := h
    rfl
  · obtain ⟨e, cnt, ps, tps, B, Fr, rfl, hA, hT, hps, hl, hnd, q1, q2⟩ := h
    refine ⟨_, (pss_one (ps_try_own (C := C_TooFew) (i := 1) rfl rfl sc__law_choice.nd rfl rfl ⟨rfl, by decide, .inl E_TooFew.g⟩ takes0 (fun W pn xe tk => (pss_one (ps_ret (pe_tup (pa_cons pe_str (pa_cons (pe_meth0 (pe_mx0 (pv 0) L_Election.cl D_Election_choice.m G_Election_choice (hr.mono (by decide)) D_Election_choice.b (fun σ => passAt tk σ)) L_Log.cl D_Log_value.m G_Log_value (hr.mono (by decide)) D_Log_value.b .nil pass0) pa_nil)))))) (fun a oe pn hz hf => (pss_one (ps_ret (pe_tup (pa_cons pe_str (pa_cons (pe_and (pe_callB (call_isE E_TooFew.ec hz hf) (by rfl) T.isinstance (by decide +kernel) (pa_cons (pv 1) (pa_cons (pe_glob (v := .ref C_HallError) (by rfl) g_HallError rfl) pa_nil))) (pe_and (pe_callB (call_isE E_TooFew.ec hz hf) (by rfl) T.isinstance (by decide +kernel) (pa_cons (pv 1) (pa_cons (pe_bltn (v := .ty "ValueError") (u := .type "ValueError") (by rfl) T.ValueError (by decide +kernel) rfl) pa_nil))) (pe_one (pe_not (pe_callB (call_isE E_TooFew.ec hz hf) (by rfl) T.isinstance (by decide +kernel) (pa_cons (pv 1) (pa_cons (pe_glob (v := .ref C_OutOfRange) (by rfl) g_OutOfRange rfl) pa_nil))))))) pa_nil)))))))), ?_⟩
    obtain ⟨dx, d, he⟩ := el_ins hA
    refine r_do (go_tup (go_cons ev_c fun H1 e1 => go_cons' (go_methX (go_mx (ev_var rfl) (e1 _ _ he) rfl fun H2 e2 => go_nil ⟨e, cnt, ps, tps, B, Fr, rfl, at_ex hA (e1.trans e2), hT, hps, hl, hnd, fun hn B1 H3 b1 hA => ⟨true, E_TooFew.me, fun _ a na => ⟨⟨rfl, rfl⟩, ?_⟩, fun z => nomatch z⟩, fun r hr hmx B1 tps' H3 b1 hT' hA => ?_⟩))))
    · refine r_do (go_tup (go_cons ev_c fun H4 e4 => go_cons (ev_andT (ev_isE (c := .ref C_HallError) (cv := .ref C_HallError) rfl ev_c (fun u hu => hu) E_TooFew.k1) (ev_andT (ev_isE (c := .ty "ValueError") (cv := .type "ValueError") rfl ev_c (fun u hu => hu) E_TooFew.k2) (ev_nf (ev_isE (c := .ref C_OutOfRange) (cv := .ref C_OutOfRange) rfl ev_c (fun u hu => hu) N_TO)))) fun H5 e5 => go_nil ⟨by show 2 ≤ sizeLine; decide, fun t nt => ?_⟩))
      obtain ⟨b2, hA2, ht⟩ := Ap.at_tup (vs := [.str "few", .bl true]) (at_ex hA (e4.trans e5)) nt
      exact q1 hn _ _ _ (b1.trans b2) (.tup (st_of ht) (.cons (.str _) (.cons (.bl _) .nil))) hA2
    · have ok := (hps r hr).mono b1
      obtain ⟨dx2, vi, t, hla, _⟩ := id ok.la
      refine ⟨r.la, dx2, _, rfl, at_base hA _ _ hla, by rfl, ⟨r.la, r.b, r.im, r.rs, B1, rfl, at_base hA, ok.la, fun v H4 e4 hv => ?_⟩⟩
      have hA := at_grow hA e4
      refine go_nil ⟨by show 2 ≤ sizeLine; decide, fun t nt => ?_⟩
      obtain ⟨b2, hA2, ht⟩ := Ap.at_tup (vs := [.str "log", v]) hA nt
      exact q2 r hr hmx _ _ tps' _ (b1.trans ((ov_base).trans b2)) (hT'.mono ((ov_base).trans b2)) (.tup (st_of ht) (.cons (.str _) (.cons (dp_mono b2 _ _ hv) .nil))) hA2
theorem surP_no (o r : PrR) : surP o r = false ↔ ¬ (o.e > r.e ∨ o.e = r.e ∧ (prL o > prL r ∨ prL o = prL r ∧ o.j < r.j)) := sur_no _ _
theorem pr_inj : ∀ {ps : List PrR} {o r : PrR}, (ps.map (·.j)).Nodup → o ∈ ps → r ∈ ps → o.j = r.j → o = r
  | x :: ps, o, r, hn, ho, hr, e => by
    obtain ⟨h1, h2⟩ := List.nodup_cons.mp hn
    rcases List.mem_cons.mp ho with ho1 | ho1
    · rcases List.mem_cons.mp hr with hr1 | hr1
      · rw [ho1, hr1]
      · exact absurd (show x.j ∈ ps.map (·.j) from List.mem_map.mpr ⟨r, hr1, by rw [← e, ho1]⟩) h1
    · rcases List.mem_cons.mp hr with hr1 | hr1
      · exact absurd (show x.j ∈ ps.map (·.j) from List.mem_map.mpr ⟨o, ho1, by rw [e, hr1]⟩) h1
      · exact pr_inj h2 ho1 hr1 e
theorem best_one {ps : List PrR} {o r : PrR} (hn : (ps.map (·.j)).Nodup) (ho : o ∈ ps) (hr : r ∈ ps) (h1 : ∀ x ∈ ps, surP x o = false) (h2 : ∀ x ∈ ps, surP x r = false) : o = r := by
  have a := h1 r hr
  have b := h2 o ho
  rw [surP_no] at a b
  exact pr_inj hn ho hr (by omega)
theorem va_open {CL : Addr} {B : Hp} {r : PrR} (h : PrOk K CL B r) : ∃ (vi : V) (q : Addr) (xs : List V), SqT K B r.va [.int r.b, vi, .ref q] ∧ SqT K B q xs ∧ xs.length = r.rs.length ∧ Dp K B vi r.im ∧ Dp K B (.ref q) (.tuple r.rs) := by
  have := h.va
  cases this with
  | tup hs hd =>
    cases hd with
    | cons d1 r1 => cases r1 with
      | cons d2 r2 => cases r2 with
        | cons d3 r3 =>
          cases r3
          cases d1
          rename_i vi v3
          have d3' := d3
          cases d3 with
          | tup h3 h4 => exact ⟨vi, _, _, hs, h3, dpa_len h4, d2, d3'⟩
theorem lex2 (e e' n n' : Int) : Ob.lexAt (fun j => decide (([e, n] : List Int).getD j 0 = ([e', n'] : List Int).getD j 0)) (fun j => decide (([e', n'] : List Int).getD j 0 < ([e, n] : List Int).getD j 0)) (decide (([e, n] : List Int).length > ([e', n'] : List Int).length)) 0 (min ([e, n] : List Int).length ([e', n'] : List Int).length) = decide (e > e' ∨ e = e' ∧ n > n') := by
  show (if decide (e = e') = true then (if decide (n = n') = true then decide ((2 : Nat) > 2) else decide (n' < n)) else decide (e' < e)) = _
  by_cases a : e = e'
  · by_cases b : n = n'
    · simp [a, b]
    · simp [a, b]
  · simp [a]
theorem rv_gt2 {H : Hp} {a b : Addr} {e e' n n' : Int} (ha : H a = some (.tup [.int e, .int n])) (hb : H b = some (.tup [.int e', .int n'])) : RV (LamP.rGtT K) (.ref a) (.ref b) H (.bl (decide (e > e' ∨ e = e' ∧ n > n'))) := fun H1 e1 Q q => ⟨a, b, [e, n], [e', n'], rfl, rfl, st_of (e1 _ _ ha), st_of (e1 _ _ hb), by
  rw [lex2]
  exact q H1 (Ex.refl H1)⟩
def spLD (K : PySem.W.Frag) (CL : Addr) : Sp := fun vs H Q _ => ∃ (fd : Addr) (cnt : Int) (ps : List PrR) (B : Hp), vs = [.ref fd, .int cnt] ∧ Ex B H ∧ H fd = some (.dK (kvI (fiK ps))) ∧ (∀ r ∈ ps, PrOk K CL B r) ∧ (ps.map (·.j)).Nodup ∧ (∀ r ∈ ps, 0 ≤ r.j ∧ r.j < cnt) ∧ 0 ≤ cnt ∧ cnt ≤ 1000 ∧ (ps = [] → RetD K B fewD H Q) ∧ ∀ r ∈ ps, (∀ o ∈ ps, surP o r = false) → RetD K B (logD r) H Q
theorem ok_ldue {f CL : Addr} {fd : FuncData} (F : Fun K "_law_due" "_law_due" s__law_due f fd) (T : Glo mg) : FnOk P w K mg base CX0 2 f fd ["first", "count"] (spLD K CL) := by
  refine F.ok sc__law_due (fun vs H Q E h => ?_) (fun cdv A outer s H vs Q E hr h => ?_)
  · obtain ⟨fd', cnt, ps, B, rfl, _⟩ := h
    rfl
  · obtain ⟨fd', cnt, ps, B, rfl, eB, hfd, hps, hnd, hin, hc0, hc1, q1, q2⟩ := h
    refine ⟨_, (pss_cons (ps_set (i := 2) sc__law_due.nd rfl (.inl rfl) pe_non)
  (pss_cons (ps_for PassesOwn.never rfl (pi_range1 (by rfl) T.range (pa_cons (pv 1) pa_nil)) (pg_name (i := 3) sc__law_due.nd rfl (.inl rfl))
  (pss_one (ps_if (pt_cmp (pc_din (by exact hu_of hr) (pv 3) (pv 0)))
  (pss_cons (ps_asg (pe_dget (hu_of hr) (pv 0) (pv 3) (fun _ _ => rfl)) (pg_tup (by rfl) (pgs_cons (pg_name (i := 4) sc__law_due.nd rfl (.inl rfl)) (pgs_cons (pg_name (i := 5) sc__law_due.nd rfl (.inl rfl)) pgs_nil))))
  (pss_cons (ps_set (i := 6) sc__law_due.nd rfl (.inl rfl) (pe_tup (pa_cons (pv 4) (pa_cons (pe_op op_add (pe_ix ix_tup (pv 5) pe_int (fun _ _ => rfl)) (pe_callB call_len_seq (by rfl) T.len PySem.boot_len (pa_cons (pe_ix ix_tup (pv 5) pe_int (fun _ _ => rfl)) pa_nil))) pa_nil))))
  (pss_one (ps_if (PW.pt (pw_or (pt_cmpR op_isN (pv 2) pe_non (nomark _)) (pw_or1 (pt_cmpR (LamP.op_gtT (by exact (hu_of hr) |> Nat.lt_of_succ_lt)) (pv 6) (pe_ix ix_tup (pv 2) pe_int (fun _ _ => rfl)) (nomark _)))))
  (pss_one (ps_set (i := 2) sc__law_due.nd rfl (.inl rfl) (pe_tup (pa_cons (pv 6) (pa_cons (pv 5) pa_nil)))))
  pss_nil))))
  pss_nil)))
  (pss_cons (ps_if (pt_cmpR op_isN (pv 2) pe_non (nomark _))
  (pss_one (ps_ret (pe_tup (pa_cons pe_str (pa_cons pe_bl pa_nil)))))
  pss_nil)
  (pss_one (ps_ret (pe_tup (pa_cons pe_str (pa_cons (pe_ix ix_tup (pv 2) pe_int (fun _ _ => rfl)) pa_nil)))))))), ?_⟩
    have pk : ∀ {H' : Hp}, Ex H H' → ∀ r ∈ ps, PrOk K CL H' r := fun e r hr => (hps r hr).mono (eB.trans e)
    refine q_asg (v := .non) ev_c fun H1 e1 => ?_
    refine q_forR1 (n := cnt) (ea_cons (ev_var rfl) ea_nil) (by omega) (fun i σ' H' => ∃ (y2 : V) (y3 y4 y5 y6 : Option V), σ' = [some (.ref fd'), some (.int cnt), some y2, y3, y4, y5, y6] ∧ Ex H H' ∧ ((y2 = .non ∧ ∀ r ∈ ps, (i : Int) ≤ r.j) ∨ ∃ c rk r, y2 = .ref c ∧ r ∈ ps ∧ r.j < (i : Int) ∧ H' c = some (.tup [.ref rk, .ref r.va]) ∧ H' rk = some (.tup [.int r.e, .int (prL r)]) ∧ ∀ o ∈ ps, o.j < (i : Int) → surP o r = false))
      (fun H2 e2 => ⟨_, _, _, _, _, rfl, e1.trans e2, .inl ⟨rfl, fun r hr => (hin r hr).1⟩⟩) (fun i σ' H' hi pp => ?_) (fun σ' H' pp => ?_)
    · obtain ⟨y2, y3, y4, y5, y6, rfl, e2, inv⟩ := pp
      refine s_when (b := (valV (fiK ps) i).isSome) (et_B (ev_dinI (ev_var rfl) (ev_var rfl) (e2 _ _ hfd))) (fun hb H3 e3 => ?_) (fun hb H3 e3 => ?_)
      · obtain ⟨v, hv⟩ := Option.isSome_iff_exists.mp hb
        obtain ⟨r, hr, hrj, rfl⟩ := pr_some hv
        have e23 := e2.trans e3
        have ok := pk e23 r hr
        obtain ⟨vi, q, xs, hs1, hs2, hxl, _, _⟩ := va_open ok
        refine (show tDGet (tVar 0) (tVar 3) _ H3 _ from go_dget (go_ev (ev_var rfl) fun H4 e4 => go_ev (ev_var rfl) fun H5 e5 => ⟨fd', .ref r.tb, rfl, ?_, ?_⟩))
        · rw [← hv]
          exact dget_I ((e23.trans (e4.trans e5)) _ _ hfd)
        · have e25 := e23.trans (e4.trans e5)
          have ok := pk e25 r hr
          refine ⟨r.tb, _, rfl, st_of ok.tb, rfl, _, _, rfl, _, _, rfl, rfl, ?_⟩
          have hs1 := ex_t (e4.trans e5) hs1
          have hs2 := ex_t (e4.trans e5) hs2
          refine q_do (go_tup (go_cons (ev_var rfl) fun H6 e6 => go_cons (ev_op (ev_op (ev_var rfl) ev_c (rv_ixT (ex_t e6 hs1) rfl)) (ev_cb (ea_cons (ev_op (ev_var rfl) ev_c (rv_ixT (ex_t e6 hs1) rfl)) ea_nil) (rc_lenT (ex_t e6 hs2))) rv_I0) fun H7 e7 => go_nil ⟨by show 2 ≤ sizeLine; decide, fun rk nrk => ?_⟩))
          have hrk : upd H7 rk (.tup [.int r.e, .int (r.b + (xs.length : Int))]) rk = some (.tup [.int r.e, .int (prL r)]) := by
            rw [upd_same, hxl]
            rfl
          have e28 := (e25.trans (e6.trans e7)).trans (Ex.new (o := .tup [.int r.e, .int (r.b + (xs.length : Int))]) nrk)
          have e38 : Ex H3 (upd H7 rk (.tup [.int r.e, .int (r.b + (xs.length : Int))])) := ((e4.trans e5).trans (e6.trans e7)).trans (Ex.new nrk)
          generalize upd H7 rk (.tup [.int r.e, .int (r.b + (xs.length : Int))]) = H8 at hrk e28 e38
          have new : ∀ {D : Ends} {H9 : Hp}, Ex H8 H9 → (∀ c H10, H10 c = some (.tup [.ref rk, .ref r.va]) → Ex H9 H10 → D.nx [some (.ref fd'), some (.int cnt), some (.ref c), some (.int (i : Int)), some (.int r.e), some (.ref r.va), some (.ref rk)] H10) → tAsg (tTup (tCons (tVar 6) (tCons (tVar 5) tNil))) (gName 2) D [some (.ref fd'), some (.int cnt), some y2, some (.int (i : Int)), some (.int r.e), some (.ref r.va), some (.ref rk)] H9 := fun {D H9} e9 k => s_do (go_tup (go_cons (ev_var rfl) fun H10 e10 => go_cons (ev_var rfl) fun H11 e11 => go_nil ⟨by show 2 ≤ sizeLine; decide, fun c nc => k c _ upd_same ((e10.trans e11).trans (Ex.new nc))⟩))
          rcases inv with ⟨rfl, hge⟩ | ⟨c, rk0, r0, rfl, hr0, hj0, hc, hk0, hb0⟩
          · refine s_when (b := true) (et_is (et_or (a := true) (b := false) (et_is (et_isN (ev_var rfl)) (decide_eq_true rfl)) (fun h => nomatch h)) rfl) (fun _ H9 e9 => new e9 fun c H10 hc e10 => ⟨_, _, _, _, _, rfl, (e28.trans e9).trans e10, .inr ⟨c, rk, r, rfl, hr, by omega, hc, (e9.trans e10) _ _ hrk, fun o ho hoj => ?_⟩⟩) (fun h => nomatch h)
            have := hge o ho
            rw [pr_inj hnd ho hr (by omega), surP_no]
            omega
          · have hc := e3 _ _ hc
            have hk0 := e3 _ _ hk0
            refine s_when (b := decide (r.e > r0.e ∨ r.e = r0.e ∧ prL r > prL r0)) (et_is (et_or (a := false) (et_is (et_isN (ev_var rfl)) (decide_eq_false (fun h => nomatch h))) (fun _ => et_test (ev_op (ev_var rfl) (ev_op (ev_var rfl) ev_c (rv_ixT (st_of (e38 _ _ hc)) rfl)) (rv_gt2 hrk (e38 _ _ hk0))))) (Bool.false_or _)) (fun hb H9 e9 => new e9 fun c' H10 hc' e10 => ⟨_, _, _, _, _, rfl, (e28.trans e9).trans e10, .inr ⟨c', rk, r, rfl, hr, by omega, hc', (e9.trans e10) _ _ hrk, fun o ho hoj => ?_⟩⟩) (fun hb H9 e9 => ⟨_, _, _, _, _, rfl, e28.trans e9, .inr ⟨c, rk0, r0, rfl, hr0, by omega, (e38.trans e9) _ _ hc, (e38.trans e9) _ _ hk0, fun o ho hoj => ?_⟩⟩)
            · have hb := of_decide_eq_true hb
              by_cases hoi : o.j = r.j
              · rw [pr_inj hnd ho hr hoi, surP_no]
                omega
              · have := hb0 o ho (by omega)
                rw [surP_no] at this ⊢
                omega
            · have hb := of_decide_eq_false hb
              by_cases hoi : o.j = r.j
              · rw [pr_inj hnd ho hr hoi, surP_no]
                omega
              · exact hb0 o ho (by omega)
      · have hn : ∀ r ∈ ps, r.j ≠ (i : Int) := fun r hr z => by
          rw [← z, show valV (fiK ps) r.j = some (.ref r.tb) from pr_val (g := fun r => V.ref r.tb) hnd hr] at hb
          cases hb
        refine ⟨y2, _, _, _, _, rfl, e2.trans e3, ?_⟩
        rcases inv with ⟨rfl, hge⟩ | ⟨c, rk0, r0, rfl, hr0, hj0, hc, hk0, hb0⟩
        · exact .inl ⟨rfl, fun r hr => by have := hge r hr; have := hn r hr; omega⟩
        · exact .inr ⟨c, rk0, r0, rfl, hr0, by omega, e3 _ _ hc, e3 _ _ hk0, fun o ho hoj => hb0 o ho (by have := hn o ho; omega)⟩
    · obtain ⟨y2, y3, y4, y5, y6, rfl, e2, inv⟩ := pp
      have hcn : ((cnt.toNat : Nat) : Int) = cnt := by omega
      rcases inv with ⟨rfl, hge⟩ | ⟨c, rk0, r0, rfl, hr0, hj0, hc, hk0, hb0⟩
      · have hnil : ps = [] := by
          cases ps with
          | nil => rfl
          | cons r rs =>
            have h1 := hge r List.mem_cons_self
            have h2 := hin r List.mem_cons_self
            omega
        refine q_when (b := true) (et_is (et_isN (ev_var rfl)) (decide_eq_true rfl)) (fun _ H3 e3 => ?_) (fun h => nomatch h)
        refine r_do (go_tup (go_cons ev_c fun H4 e4 => go_cons ev_c fun H5 e5 => go_nil ⟨by show 2 ≤ sizeLine; decide, fun t nt => ?_⟩))
        have e25 := e2.trans (e3.trans (e4.trans e5))
        have nt' := fresh_back e25 nt
        exact q1 hnil (.ref t) _ (e25.trans (Ex.new nt)) (.tup (st_of (ov_fresh eB nt' upd_same)) (.cons (.str _) (.cons (.bl _) .nil)))
      · refine q_when (b := false) (et_is (et_isN (ev_var rfl)) (decide_eq_false (fun h => nomatch h))) (fun h => nomatch h) (fun _ H3 e3 => ?_)
        refine r_do (go_tup (go_cons ev_c fun H4 e4 => go_cons (ev_op (ev_var rfl) ev_c (rv_ixT (st_of ((e3.trans e4) _ _ hc)) rfl)) fun H5 e5 => go_nil ⟨by show 2 ≤ sizeLine; decide, fun t nt => ?_⟩))
        have e25 := e2.trans (e3.trans (e4.trans e5))
        have nt' := fresh_back e25 nt
        exact q2 r0 hr0 (fun o ho => hb0 o ho (by have := (hin o ho).2; omega)) (.ref t) _ (e25.trans (Ex.new nt)) (.tup (st_of (ov_fresh eB nt' upd_same)) (.cons (.str _) (.cons (dp_mono ov_base _ _ (hps r0 hr0).va) .nil)))
theorem ed_ex {σ : L2.St} {H : Hp} {te : TE} {d : PyData} (h : EvD K te σ H d) : EvX K te σ H d := fun H1 e Q q => h H1 e Q fun v H2 e2 hv => q v H2 e2 (dp_dx _ _ hv)
theorem ev_same {σ : L2.St} {H : Hp} {ta tb : TE} {E : XK} {n : Nat} {d : PyData} (ha : EvX K ta σ H d) (hb : EvX K tb σ H d) (ok : Okn n d) : Ev (tCall (spSame K n) [] E (tCons ta (tCons tb tNil))) σ H (.bl true) := ev_callD (K := K) (exs_cons ha (exs_cons hb exs_nil)) (fun vs H5 e5 hv Q q => by
  cases hv with
  | cons h1 h2 => cases h2 with
    | cons h2 h3 =>
      cases h3
      exact ⟨_, _, _, rfl, h1, h2, ok, q⟩)
theorem ev_elD {σ : L2.St} {B H : Hp} {F : List MP} {C e : Addr} {cnt : Int} {l : List (Int × V)} {ta : TE} {E : XK} (hA : At B (ElM C e cnt l :: F) H) (h : Ev ta σ H (.ref e)) (hl : l.length ≤ 1000) : Ev (tMeth C "decided" (spElD C) [] E ta tNil) σ H (.bl (hmB (l.map (·.1)) cnt)) := fun H1 e1 Q q => h H1 e1 _ fun H2 e2 => by
  have hA := at_ex hA (e1.trans e2)
  obtain ⟨dx, d, hi⟩ := el_ins hA
  exact ⟨e, dx, _, rfl, hi, by rfl, e, cnt, l, B, F, rfl, hA, hl, fun H3 e3 => q H3 (e2.trans e3)⟩
theorem ev_elP {σ : L2.St} {B H : Hp} {F : List MP} {C e : Addr} {cnt j : Int} {l : List (Int × V)} {ta tj : TE} {E : XK} (hA : At B (ElM C e cnt l :: F) H) (h : Ev ta σ H (.ref e)) (hj : Ev tj σ H (.int j)) : Ev (tMeth C "promised" (spElP C) [] E ta (tCons tj tNil)) σ H (.bl (valV l j).isSome) := fun H1 e1 Q q => h H1 e1 _ fun H2 e2 => by
  have hA := at_ex hA (e1.trans e2)
  obtain ⟨dx, d, hi⟩ := el_ins hA
  exact ⟨e, dx, _, rfl, hi, by rfl, hj H2 (e1.trans e2) _ fun H3 e3 => ⟨e, j, cnt, l, B, F, rfl, at_ex hA e3, fun H4 e4 => q H4 (e2.trans (e3.trans e4))⟩⟩
structure AllP (K : PySem.W.Frag) (CL : Addr) (cnt : Int) (B : Hp) (ps : List PrR) : Prop where
  ok : ∀ r ∈ ps, PrOk K CL B r
  nd : (ps.map (·.j)).Nodup
  ran : ∀ r ∈ ps, 0 ≤ r.j ∧ r.j < cnt
  okn : ∀ r ∈ ps, Okn 5 (logD r)
  len : ps.length ≤ 1000
theorem AllP.mono {K : PySem.W.Frag} {CL : Addr} {cnt : Int} {B B' : Hp} {ps : List PrR} (e : Ex B B') (h : AllP K CL cnt B ps) : AllP K CL cnt B' ps := ⟨fun r hr => (h.ok r hr).mono e, h.nd, h.ran, h.okn, h.len⟩
theorem isSome_same {ps : List PrR} {k : Int} : (valV (elK ps) k).isSome = (valV (fiK ps) k).isSome := by
  have h : ∀ {f g : PrR → V}, (valV (ps.map fun r => (r.j, f r)) k).isSome = true → (valV (ps.map fun r => (r.j, g r)) k).isSome = true := fun {f g} h => by
    obtain ⟨v, hv⟩ := Option.isSome_iff_exists.mp h
    obtain ⟨r, hr, hj, _⟩ := pr_some hv
    cases hg : valV (ps.map fun r => (r.j, g r)) k with
    | some _ => rfl
    | none => exact absurd hj (val_none.mp hg (r.j, g r) (List.mem_map.mpr ⟨r, hr, rfl⟩))
  exact Bool.eq_iff_iff.mpr ⟨h, h⟩
def spLH (K : PySem.W.Frag) (C CL PT : Addr) : Sp := fun vs H Q _ => ∃ (e fi : Addr) (cnt : Int) (ps : List PrR) (tps : Array Value) (B : Hp) (F : List MP), vs = [.ref e, .ref fi, .int cnt] ∧ At B (ElM C e cnt (elK ps) :: Pt fi (.dK (kvI (fiK ps))) :: Pt PT (.tbl tps) :: F) H ∧ LamP.TblIn B tps qB ∧ AllP K CL cnt B ps ∧ 0 ≤ cnt ∧ cnt ≤ 1000 ∧
  ∀ (B1 : Hp) (tps' : Array Value) (H1 : Hp), Ex B B1 → LamP.TblIn B1 tps' qB → At B1 (ElM C e cnt (elK ps) :: Pt fi (.dK (kvI (fiK ps))) :: Pt PT (.tbl tps') :: F) H1 → Q (.bl true) H1
theorem ok_lholds {f f1 f2 f3 f4 f5 C CL PT : Addr} {fd fd1 fd2 fd3 fd4 fd5 : FuncData} (F : Fun K "_law_holds" "_law_holds" s__law_holds f fd) (D__law_same : Df K mg "_law_same" s__law_same ["actual", "due"] f1 fd1) (G__law_same : FnOk P w K mg base CX0 6 f1 fd1 ["actual", "due"] (spSame K 5)) (D_Election_promised : Dm K C "promised" "Election.promised" s_Election_promised ["self", "journal"] f2 fd2) (G_Election_promised : FnOk P w K mg base CX0 1 f2 fd2 ["self", "journal"] (spElP C))
    (D_Election_decided : Dm K C "decided" "Election.decided" s_Election_decided ["self"] f3 fd3) (G_Election_decided : FnOk P w K mg base CX0 3 f3 fd3 ["self"] (spElD C)) (D__law_choice : Df K mg "_law_choice" s__law_choice ["election"] f4 fd4) (G__law_choice : FnOk P w K mg base CX0 6 f4 fd4 ["election"] (spLC K C CL PT)) (D__law_due : Df K mg "_law_due" s__law_due ["first", "count"] f5 fd5) (G__law_due : FnOk P w K mg base CX0 2 f5 fd5 ["first", "count"] (spLD K CL)) (L_Election : Kl K mg "Election" C) (L : ElC K C) (T : Glo mg) : FnOk P w K mg base CX0 8 f fd ["election", "first", "count"] (spLH K C CL PT) := by
  refine F.ok sc__law_holds (fun vs H Q E h => ?_) (fun cdv A outer s H vs Q E hr h => ?_)
  · obtain ⟨e, fi, cnt, ps, tps, B, Fr, rfl, _⟩ := h
    rfl
  · obtain ⟨e, fi, cnt, ps, tps, B, Fr, rfl, hA, hT, A1, hc0, hc1, q⟩ := h
    refine ⟨_, (pss_cons (ps_if (pt_not (pt_val (pe_call G__law_same (hr.mono (by decide)) (by rfl) D__law_same.g D__law_same.F.kp D__law_same.b .nil pass0 (pa_cons (pe_fld (pv 0) rfl) (pa_cons (pv 2) pa_nil)))))
  (pss_one (ps_ret pe_bl))
  pss_nil)
  (pss_cons (ps_for PassesOwn.never rfl (pi_range1 (by rfl) T.range (pa_cons (pv 2) pa_nil)) (pg_name (i := 3) sc__law_holds.nd rfl (.inl rfl))
  (pss_one (ps_if (pt_not (pt_val (pe_call G__law_same (hr.mono (by decide)) (by rfl) D__law_same.g D__law_same.F.kp D__law_same.b .nil pass0 (pa_cons (pe_meth (pv 0) L_Election.cl D_Election_promised.m G_Election_promised (hr.mono (by decide)) D_Election_promised.b .nil pass0 (pa_cons (pv 3) pa_nil)) (pa_cons (pe_cmp (pc_din (by exact hu_of hr) (pv 3) (pv 1)) rfl) pa_nil)))))
  (pss_one (ps_ret pe_bl))
  pss_nil)))
  (pss_cons (ps_if (pt_not (pt_val (pe_call G__law_same (hr.mono (by decide)) (by rfl) D__law_same.g D__law_same.F.kp D__law_same.b .nil pass0 (pa_cons (pe_meth0 (pv 0) L_Election.cl D_Election_decided.m G_Election_decided (hr.mono (by decide)) D_Election_decided.b .nil pass0) (pa_cons (pe_cmpR op_gt (pe_op op_mul pe_int (pe_callB call_lenD (by rfl) T.len PySem.boot_len (pa_cons (pv 1) pa_nil))) (pv 2) (nomark _)) pa_nil)))))
  (pss_one (ps_ret pe_bl))
  pss_nil)
  (pss_one (ps_ret (pe_call G__law_same (hr.mono (by decide)) (by rfl) D__law_same.g D__law_same.F.kp D__law_same.b .nil pass0 (pa_cons (pe_call G__law_choice (hr.mono (by decide)) (by rfl) D__law_choice.g D__law_choice.F.kp D__law_choice.b .nil pass0 (pa_cons (pv 0) pa_nil)) (pa_cons (pe_call G__law_due (hr.mono (by decide)) (by rfl) D__law_due.g D__law_due.F.kp D__law_due.b .nil pass0 (pa_cons (pv 1) (pa_cons (pv 2) pa_nil))) pa_nil)))))))), ?_⟩
    have fld : ∀ {σ : L2.St} {H' : Hp}, σ[0]? = some (some (.ref e)) → At B (ElM C e cnt (elK ps) :: Pt fi (.dK (kvI (fiK ps))) :: Pt PT (.tbl tps) :: Fr) H' → Ev (tFld K (tVar 0) "journals") σ H' (.int cnt) := fun h hA => by
      obtain ⟨dx, d, hi⟩ := el_ins hA
      exact ev_fld (K := K) (ev_var h) hi L.cl L.nJ rfl
    have hkl : (elK ps).length = ps.length := List.length_map _
    refine q_when (b := false) (et_is (et_not (et_B (ev_same (d := .int cnt) (ed_ex (ed_int (fld rfl hA))) (ed_ex (ed_int (ev_var rfl))) (.int _)))) rfl) (fun h => nomatch h) (fun _ H1 e1 => ?_)
    have hA := at_ex hA e1
    refine q_forR1 (n := cnt) (ea_cons (ev_var rfl) ea_nil) (by omega) (fun i σ' H' => ∃ y3 : Option V, σ' = [some (.ref e), some (.ref fi), some (.int cnt), y3] ∧ Ex H1 H') (fun H2 e2 => ⟨_, rfl, e2⟩) (fun i σ' H' hi pp => ?_) (fun σ' H' pp => ?_)
    · obtain ⟨y3, rfl, e2⟩ := pp
      have hA := at_ex hA e2
      exact s_when (b := false) (et_is (et_not (et_B (ev_same (d := .bool (valV (elK ps) i).isSome) (ed_ex (ed_bool (ev_elP hA (ev_var rfl) (ev_var rfl)))) (ed_ex (ed_bool (ev_is (ev_dinI (ev_var rfl) (ev_var rfl) (at_get (a := fi) 1 rfl hA)) (by rw [isSome_same])))) (.bl _)))) rfl) (fun h => nomatch h) (fun _ H3 e3 => ⟨_, rfl, e2.trans e3⟩)
    · obtain ⟨y3, rfl, e2⟩ := pp
      have hA := at_ex hA e2
      have hk : (elK ps).map (·.1) = ps.map (·.j) := by unfold elK; rw [List.map_map]; rfl
      have hlen : hmB ((elK ps).map (·.1)) cnt = decide (2 * (ps.length : Int) > cnt) := by
        rw [hk, hm_len A1.nd (fun x hx => by
          obtain ⟨r, hr, rfl⟩ := List.mem_map.mp hx
          exact A1.ran r hr), List.length_map]
        exact decide_eq_decide.mpr (by omega)
      have hfl : ((kvI (fiK ps)).length : Int) = (ps.length : Int) := by unfold kvI fiK; rw [List.length_map, List.length_map]
      refine q_when (b := false) (et_is (et_not (et_B (ev_same (d := .bool (decide (2 * (ps.length : Int) > cnt))) (ed_ex (ed_bool (ev_is (ev_elD hA (ev_var rfl) (by rw [hkl]; exact A1.len)) (by rw [hlen])))) (ed_ex (ed_bool (ev_op (ev_op ev_c (ev_cb (z := .int (ps.length : Int)) (ea_cons (ev_var rfl) ea_nil) (fun H3 e3 Q q => ⟨fi, _, rfl, at_get (a := fi) 1 rfl (at_ex hA e3), by rw [hfl]; exact q H3 (Ex.refl H3)⟩)) (rv_I (show CMul 2 _ from .inl (by decide)))) (ev_var rfl) rv_I0))) (.bl _)))) rfl) (fun h => nomatch h) (fun _ H3 e3 => ?_)
      have hA := at_ex hA e3
      refine r_do (go_call (go_cons' (go_call (go_cons (ev_var rfl) fun H4 e4 => go_nil ⟨e, cnt, ps, tps, B, _, rfl, at_ix 3 [0, 2, 1] (at_ex hA e4), hT, A1.ok, A1.len, A1.nd, fun hn v B1 H5 b1 hv hA => ?_, fun r hr hmx v B1 tps' H5 b1 hT' hv hA => ?_⟩))))
      · have A2 := A1.mono b1
        refine go_cons' (go_call (go_cons (ev_var rfl) fun H6 e6 => go_cons (ev_var rfl) fun H7 e7 => go_nil ⟨fi, cnt, ps, B1, rfl, at_base (at_ex hA (e6.trans e7)), at_get (a := fi) 2 rfl (at_ex hA (e6.trans e7)), A2.ok, A2.nd, A2.ran, hc0, hc1, fun _ v2 H8 e8 hv2 => ?_, fun r hr => by rw [hn] at hr; cases hr⟩))
        have hA := at_grow (at_ex hA (e6.trans e7)) e8
        exact go_nil ⟨v, v2, fewD, rfl, dp_dx _ _ (dp_mono (at_base hA) _ _ (dp_mono ov_base _ _ hv)), dp_dx _ _ (dp_mono (at_base hA) _ _ hv2), .tup (by show 2 ≤ 50000; decide) (fun d hd => by
          simp only [List.mem_cons, List.not_mem_nil, or_false] at hd
          rcases hd with rfl | rfl
          · exact .str _
          · exact .bl _), fun H9 e9 => q _ tps H9 (b1.trans ov_base) (hT.mono (b1.trans ov_base)) (at_ix 3 [0, 2, 1] (at_ex hA e9))⟩
      · have A2 := A1.mono b1
        refine go_cons' (go_call (go_cons (ev_var rfl) fun H6 e6 => go_cons (ev_var rfl) fun H7 e7 => go_nil ⟨fi, cnt, ps, B1, rfl, at_base (at_ex hA (e6.trans e7)), at_get (a := fi) 2 rfl (at_ex hA (e6.trans e7)), A2.ok, A2.nd, A2.ran, hc0, hc1, (fun hn => by rw [hn] at hr; cases hr), fun r' hr' hmx' v2 H8 e8 hv2 => ?_⟩))
        have hA := at_grow (at_ex hA (e6.trans e7)) e8
        have er := best_one A1.nd hr' hr hmx' hmx
        subst er
        exact go_nil ⟨v, v2, logD r', rfl, dp_dx _ _ (dp_mono (at_base hA) _ _ (dp_mono ov_base _ _ hv)), dp_dx _ _ (dp_mono (at_base hA) _ _ hv2), A1.okn r' hr', fun H9 e9 => q _ tps' H9 (b1.trans ov_base) (hT'.mono ov_base) (at_ix 3 [0, 2, 1] (at_ex hA e9))⟩
theorem go_tst {σ : L2.St} {H : Hp} {te : TE} {Q : Bool → Hp → Prop} (h : te σ H fun v H1 => ∃ b, v = .bl b ∧ Q b H1) : tTest te σ H Q := h
theorem q_whenF {σ : L2.St} {H : Hp} {D : Ends} {tz tu : TS} {t : TT} {C : Hp → Prop} (h : ∀ Q : Bool → Hp → Prop, (∀ H1, C H1 → Q false H1) → t σ H Q) (k : ∀ H1, C H1 → tz D σ H1) : tSeq (tIfS t tu tNext) tz D σ H := h _ fun H1 hc => k H1 hc
theorem q_whenM {σ : L2.St} {H : Hp} {D : Ends} {t : TT} {tu tz : TS} {b : Bool} (M : Hp → Prop) (h : EvT t σ H b) (h2 : b = false → ∀ H1, Ex H H1 → M H1) (h1 : b = true → ∀ H1, Ex H H1 → ∀ Dn : Ends, (∀ H', M H' → Dn.nx σ H') → tu Dn σ H1) (k : ∀ H', M H' → tz D σ H') : tSeq (tIfS t tu tNext) tz D σ H := q_when h (fun hb H1 e1 => h1 hb H1 e1 { D with nx := tz D } k) (fun hb H1 e1 => k H1 (h2 hb H1 e1))
def spLN (K : PySem.W.Frag) (C CL : Addr) : Sp := fun vs H Q _ => ∃ (e fi va : Addr) (j ep cnt b : Int) (im : PyData) (rs : List PyData) (ps : List PrR) (B : Hp) (F : List MP), vs = [.ref e, .ref fi, .int j, .int ep, .ref va] ∧ At B (ElM C e cnt (elK ps) :: Pt fi (.dK (kvI (fiK ps))) :: F) H ∧ AllP K CL cnt B ps ∧ Dp K B (.ref va) (.tuple [.int b, im, .tuple rs]) ∧ Okn 4 (.tuple [.int b, im, .tuple rs]) ∧ 0 ≤ j ∧ j < cnt ∧ ps.length < 900 ∧
  ∀ (ps' : List PrR) (B1 H1 : Hp), Ex B B1 → AllP K CL cnt B1 ps' → ps'.length ≤ ps.length + 1 → At B1 (ElM C e cnt (elK ps') :: Pt fi (.dK (kvI (fiK ps'))) :: F) H1 → Q (.bl true) H1
theorem ok_lnoted {f f1 f2 C CL : Addr} {fd fd1 fd2 : FuncData} (F : Fun K "_law_noted" "_law_noted" s__law_noted f fd) (D_Election_note : Dm K C "note" "Election.note" s_Election_note ["self", "journal", "epoch", "log"] f1 fd1) (G_Election_note : FnOk P w K mg base CX0 1 f1 fd1 ["self", "journal", "epoch", "log"] (spElN C)) (D_Log___init__ : Dm K CL "__init__" "Log.__init__" s_Log___init__ ["self", "base", "image", "records"] f2 fd2) (G_Log___init__ : FnOk P w K mg base CX0 1 f2 fd2 ["self", "base", "image", "records"] (spLogInit CL)) (L_Election : Kl K mg "Election" C) (L_Log : Kl K mg "Log" CL) (T : Glo mg) : FnOk P w K mg base CX0 3 f fd ["election", "first", "journal", "epoch", "value"] (spLN K C CL) := by
  refine F.ok sc__law_noted (fun vs H Q E h => ?_) (fun cdv A outer s H vs Q E hr h => ?_)
  · obtain ⟨e, fi, va, j, ep, cnt, b, im, rs, ps, B, Fr, rfl, _⟩ := h
    rfl
  · obtain ⟨e, fi, va, j, ep, cnt, b, im, rs, ps, B, Fr, rfl, hA, A1, hva, hok, hj0, hj1, hl, q⟩ := h
    refine ⟨_, (pss_cons (ps_if (pt_cmpR op_notN (pe_meth (pv 0) L_Election.cl D_Election_note.m G_Election_note (hr.mono (by decide)) D_Election_note.b .nil pass0 (pa_cons (pv 2) (pa_cons (pv 3) (pa_cons (pe_make (L_Log.make D_Log___init__) G_Log___init__ (hr.mono (by decide)) (by rfl) L_Log.g D_Log___init__.b .nil pass0 (pa_cons (pe_ix ix_tup (pv 4) pe_int (fun _ _ => rfl)) (pa_cons (pe_ix ix_tup (pv 4) pe_int (fun _ _ => rfl)) (pa_cons (pe_ix ix_tup (pv 4) pe_int (fun _ _ => rfl)) pa_nil)))) pa_nil)))) pe_non (nomark _))
  (pss_one (ps_ret pe_bl))
  pss_nil)
  (pss_cons (ps_if (pt_cmp (pc_dnotin (by exact hu_of hr) (pv 2) (pv 1)))
  (pss_one (ps_dput (hu_of hr) (pv 1) (pv 2) (pe_tup (pa_cons (pv 3) (pa_cons (pv 4) pa_nil))) rfl))
  pss_nil)
  (pss_one (ps_ret pe_bl)))), ?_⟩
    have hkl : (elK ps).length = ps.length := List.length_map _
    have hfl : (fiK ps).length = ps.length := List.length_map _
    refine q_whenF (C := fun H1 => ∃ B1, Ex B B1 ∧ (((valV (elK ps) j).isSome = true ∧ At B1 (ElM C e cnt (elK ps) :: Pt fi (.dK (kvI (fiK ps))) :: Fr) H1) ∨ (valV (elK ps) j = none ∧ ∃ ta la, B1 ta = some (.tup [.int ep, .ref la]) ∧ LogAt K CL B1 la b im rs ∧ At B1 (ElM C e cnt (elK ps ++ [(j, .ref ta)]) :: Pt fi (.dK (kvI (fiK ps))) :: Fr) H1))) (fun Q' hQ => ?_) (fun H1 ⟨B1, b1, hc⟩ => ?_)
    · refine go_tst (go_op (go_methX (go_ev (ev_var rfl) fun H1 e1 => ?_)))
      have hA := at_ex hA e1
      obtain ⟨dx, d, hi⟩ := el_ins hA
      refine ⟨e, dx, _, rfl, hi, by rfl, go_cons (ev_var rfl) fun H2 e2 => go_cons (ev_var rfl) fun H3 e3 => go_cons' (s_mkLog (K := K) (vb := b) (im := im) (rs := rs) (at_base (at_ex hA (e2.trans e3))) (eds_cons (ed_ixT (ed_var rfl hva) ev_c rfl) (eds_cons (ed_ixT (ed_var rfl hva) ev_c rfl) (eds_cons (ed_ixT (ed_var rfl hva) ev_c rfl) eds_nil))) fun la H4 nla e4 hla => ?_)⟩
      have hA := at_grow (at_ex hA (e2.trans e3)) e4
      refine go_nil ⟨e, la, j, ep, cnt, elK ps, _, _, rfl, hA, by omega, fun hs H5 hA => ⟨rfl, false, by rw [decide_eq_true rfl]; rfl, hQ H5 ⟨_, ov_base, .inl ⟨hs, hA⟩⟩⟩, fun hn ta B2 H5 b2 hta hA => ⟨rfl, false, by rw [decide_eq_true rfl]; rfl, hQ H5 ⟨B2, ov_base.trans b2, .inr ⟨hn, ta, la, hta, hla.mono b2, hA⟩⟩⟩⟩
    · refine q_whenM (b := !(valV (fiK ps) j).isSome) (fun H2 => ∃ (ps' : List PrR) (B2 : Hp), Ex B B2 ∧ AllP K CL cnt B2 ps' ∧ ps'.length ≤ ps.length + 1 ∧ At B2 (ElM C e cnt (elK ps') :: Pt fi (.dK (kvI (fiK ps'))) :: Fr) H2) (et_B (ev_dninI (ev_var rfl) (ev_var rfl) ?_)) (fun hb H2 e2 => ?_) (fun hb H2 e2 Dn hDn => ?_) (fun H2 ⟨ps', B2, b2, A2, hl2, hA⟩ => ?_)
      · rcases hc with ⟨_, hA⟩ | ⟨_, ta, la, _, _, hA⟩
        · exact at_get (a := fi) 1 rfl hA
        · exact at_get (a := fi) 1 rfl hA
      · rcases hc with ⟨_, hA⟩ | ⟨hn, _⟩
        · exact ⟨ps, B1, b1, A1.mono b1, Nat.le_succ _, at_ex hA e2⟩
        · rw [← isSome_same, hn] at hb
          cases hb
      · rcases hc with ⟨hs, _⟩ | ⟨hn, ta, la, hta, hla, hA⟩
        · rw [← isSome_same, hs] at hb
          cases hb
        · have hn2 : valV (fiK ps) j = none := by
            cases h : valV (fiK ps) j with
            | none => rfl
            | some v => rw [h] at hb; cases hb
          have hA := at_ex hA e2
          refine s_dput (go_tup (go_cons (ev_var rfl) fun H3 e3 => go_cons (ev_var rfl) fun H4 e4 => go_nil ⟨by show 2 ≤ sizeLine; decide, fun tb nt => ?_⟩))
          obtain ⟨b2, hA, htb⟩ := Ap.at_tup (vs := [.int ep, .ref va]) (at_ex hA (e3.trans e4)) nt
          refine go_ev (ev_var rfl) fun H5 e5 => go_ev (ev_var rfl) fun H6 e6 => ?_
          have hA := at_ex hA (e5.trans e6)
          refine ⟨fi, _, rfl, .inl ⟨_, Sum.inl j, at_get (a := fi) 1 rfl hA, rfl, by unfold kvI; rw [List.length_map]; exact sz_lt (by omega), rfl⟩, hDn _ ?_⟩
          have hA := at_upd (u := .dK (putK (kvI (fiK ps)) (Sum.inl j) (.ref tb))) 1 rfl hA
          rw [kvI_put hn2] at hA ⊢
          have hnj : ∀ r ∈ ps, r.j ≠ j := fun r hr => val_none.mp hn (r.j, .ref r.ta) (List.mem_map.mpr ⟨r, hr, rfl⟩)
          have A2 := (A1.mono b1).mono b2
          refine ⟨ps ++ [⟨j, ep, b, im, rs, ta, la, tb, va⟩], _, b1.trans b2, ⟨fun r hr => ?_, ?_, fun r hr => ?_, fun r hr => ?_, by rw [List.length_append]; show ps.length + 1 ≤ 1000; omega⟩, by rw [List.length_append]; exact Nat.le_refl _, ?_⟩
          · rcases List.mem_append.mp hr with hr | hr
            · exact A2.ok r hr
            · rw [List.mem_singleton.mp hr]
              exact ⟨b2 _ _ hta, hla.mono b2, htb, dp_mono (b1.trans b2) _ _ hva⟩
          · rw [List.map_append]
            refine List.nodup_append.mpr ⟨A1.nd, List.nodup_cons.mpr ⟨(fun h => nomatch h), List.nodup_nil⟩, fun x hx y hy => ?_⟩
            obtain ⟨r, hr, rfl⟩ := List.mem_map.mp hx
            rw [List.mem_singleton.mp hy]
            exact hnj r hr
          · rcases List.mem_append.mp hr with hr | hr
            · exact A1.ran r hr
            · rw [List.mem_singleton.mp hr]
              exact ⟨hj0, hj1⟩
          · rcases List.mem_append.mp hr with hr | hr
            · exact A1.okn r hr
            · rw [List.mem_singleton.mp hr]
              exact .tup (by show 2 ≤ 50000; decide) (fun d hd => by
                simp only [List.mem_cons, List.not_mem_nil, or_false] at hd
                rcases hd with rfl | rfl
                · exact .str _
                · exact hok)
          · have e1 : elK (ps ++ [⟨j, ep, b, im, rs, ta, la, tb, va⟩]) = elK ps ++ [(j, .ref ta)] := List.map_append
            have e2 : fiK (ps ++ [⟨j, ep, b, im, rs, ta, la, tb, va⟩]) = fiK ps ++ [(j, .ref tb)] := List.map_append
            rw [e1, e2]
            exact hA
      · exact s_ret ev_c fun H3 e3 => q ps' B2 H3 b2 A2 hl2 (at_ex hA e3)
theorem at_take {H : Hp} {p : Addr} {o : HO} (h : H p = some o) : At (fun b => if b = p then none else H b) [Pt p o] H := by
  refine ⟨fun b => !decide (b = p), fun b u hb => ?_, fun _ => true, ?_, trivial⟩
  · have hb : (if b = p then none else H b) = some u := hb
    by_cases e : b = p
    · rw [if_pos e] at hb
      cases hb
    · rw [if_neg e] at hb
      rw [cutIn_yes (by show (!decide (b = p)) = true; rw [decide_eq_false e]; rfl)]
      exact hb
  · show cutIn (fun _ => true) (cutIn (fun b => !(!decide (b = p))) H) p = some o
    rw [cut_all, cutIn_yes (by show (!(!decide (p = p))) = true; rw [decide_eq_true rfl]; rfl)]
    exact h
theorem go_nt {σ : L2.St} {H : Hp} {t : TT} {Q : Bool → Hp → Prop} (h : t σ H fun b H1 => Q (!b) H1) : tNot t σ H Q := h
theorem go_tB {σ : L2.St} {H : Hp} {te : TE} {Q : Bool → Hp → Prop} (h : te σ H fun v H1 => ∃ b, v = .bl b ∧ Q b H1) : tB te σ H Q := h
theorem go_orT {σ : L2.St} {H : Hp} {t1 t2 : TT} {Q : Bool → Hp → Prop} (h : t1 σ H fun c H1 => if c = true then Q true H1 else t2 σ H1 Q) : tOr t1 t2 σ H Q := h
theorem go_and {σ : L2.St} {H : Hp} {t u : TT} {b : Bool} {Q : Bool → Hp → Prop} (h : EvT t σ H b) (k2 : b = false → ∀ H1, Ex H H1 → Q false H1) (k1 : b = true → ∀ H1, Ex H H1 → u σ H1 Q) : tAnd t u σ H Q := h H (Ex.refl H) _ fun H1 e1 => by
  cases b with
  | true => exact k1 rfl H1 e1
  | false => exact k2 rfl H1 e1
theorem s_whenF {σ : L2.St} {H : Hp} {D : Ends} {tu : TS} {t : TT} {C : Hp → Prop} (h : ∀ Q : Bool → Hp → Prop, (∀ H1, C H1 → Q false H1) → t σ H Q) (k : ∀ H1, C H1 → D.nx σ H1) : tIfS t tu tNext D σ H := h _ fun H1 hc => k H1 hc
theorem q_whenS {σ : L2.St} {H : Hp} {D : Ends} {t : TT} {tu tz : TS} {b : Bool} (M : L2.St → Hp → Prop) (h : EvT t σ H b) (h2 : b = false → ∀ H1, Ex H H1 → M σ H1) (h1 : b = true → ∀ H1, Ex H H1 → ∀ Dn : Ends, (∀ σ' H', M σ' H' → Dn.nx σ' H') → tu Dn σ H1) (k : ∀ σ' H', M σ' H' → tz D σ' H') : tSeq (tIfS t tu tNext) tz D σ H := q_when h (fun hb H1 e1 => h1 hb H1 e1 { D with nx := tz D } k) (fun hb H1 e1 => k σ H1 (h2 hb H1 e1))
def Iv48 (C e fi o se PT : Addr) (cnt : Int) (ps qs : List PrR) (tps : Array Value) : List MP := [ElM C e cnt (elK ps), Pt fi (.dK (kvI (fiK ps))), ElM C o cnt (elK qs), Pt se (.dK (kvI (fiK qs))), Pt PT (.tbl tps)]
theorem AllP.nil {CL : Addr} {cnt : Int} {B : Hp} : AllP K CL cnt B [] := ⟨(fun _ h => nomatch h), List.nodup_nil, (fun _ h => nomatch h), (fun _ h => nomatch h), Nat.zero_le _⟩
def spLawT (K : PySem.W.Frag) (PT : Addr) : Sp := fun vs H Q _ => ∃ (a : Addr) (ns : List Int), vs = [.ref a] ∧ SqL K H a (ns.map V.int) ∧ ns.length ≤ 63 ∧ H PT = some (.tbl #[]) ∧ ∀ H', Q (.bl true) H'
theorem ok_lawG {f f1 f2 f3 f4 m1 C CL PT : Addr} {fd fd1 fd2 fd3 fd4 md1 : FuncData} (F : Fun K "law" "law" s_law f fd) (D__law_stream : Df K mg "_law_stream" s__law_stream ["script", "many"] f1 fd1) (G__law_stream : FnOk P w K mg base CX0 1 f1 fd1 ["script", "many"] (spStream K)) (D__law_draw : Df K mg "_law_draw" s__law_draw ["draws", "k"] f2 fd2) (G__law_draw : FnOk P w K mg base CX0 1 f2 fd2 ["draws", "k"] (spDraw K))
    (D__law_holds : Df K mg "_law_holds" s__law_holds ["election", "first", "count"] f3 fd3) (G__law_holds : FnOk P w K mg base CX0 8 f3 fd3 ["election", "first", "count"] (spLH K C CL PT)) (D__law_noted : Df K mg "_law_noted" s__law_noted ["election", "first", "journal", "epoch", "value"] f4 fd4) (G__law_noted : FnOk P w K mg base CX0 3 f4 fd4 ["election", "first", "journal", "epoch", "value"] (spLN K C CL))
    (D_Election___init__ : Dm K C "__init__" "Election.__init__" s_Election___init__ ["self", "journals"] m1 md1) (G_Election___init__ : FnOk P w K mg base CX0 1 m1 md1 ["self", "journals"] (spElI C)) (L_Election : Kl K mg "Election" C) (T : Glo mg) : FnOk P w K mg base CX0 20 f fd ["script"] (spLawT K PT) := by
  refine F.ok sc_law (fun vs H Q E h => ?_) (fun cdv A outer s H vs Q E hr h => ?_)
  · obtain ⟨a, ns, rfl, _⟩ := h
    rfl
  · obtain ⟨a, ns, rfl, hS, hn, hP, q⟩ := h
    refine ⟨_, (pss_cons (ps_set (i := 1) sc_law.nd rfl (.inl rfl) (pe_call G__law_stream (hr.mono (by decide)) (by rfl) D__law_stream.g D__law_stream.F.kp D__law_stream.b .nil pass0 (pa_cons (pv 0) (pa_cons pe_int pa_nil))))
  (pss_cons (ps_set (i := 2) sc_law.nd rfl (.inl rfl) (pe_op op_add pe_int (pe_op op_mod (pe_callTy call_int1 (by rfl) T.int (by decide +kernel) (pa_cons (pe_call G__law_draw (hr.mono (by decide)) (by rfl) D__law_draw.g D__law_draw.F.kp D__law_draw.b .nil pass0 (pa_cons (pv 1) (pa_cons pe_int pa_nil))) pa_nil)) pe_int)))
  (pss_cons (ps_if (pt_cmpR op_eq (pe_op op_mod (pe_callTy call_int1 (by rfl) T.int (by decide +kernel) (pa_cons (pe_op op_fdiv (pe_call G__law_draw (hr.mono (by decide)) (by rfl) D__law_draw.g D__law_draw.F.kp D__law_draw.b .nil pass0 (pa_cons (pv 1) (pa_cons pe_int pa_nil))) pe_int) pa_nil)) pe_int) pe_int (nomark _))
  (pss_one (ps_set (i := 2) sc_law.nd rfl (.inl rfl) (pe_op op_add (pv 2) (pe_op op_mod (pe_callTy call_int1 (by rfl) T.int (by decide +kernel) (pa_cons (pe_call G__law_draw (hr.mono (by decide)) (by rfl) D__law_draw.g D__law_draw.F.kp D__law_draw.b .nil pass0 (pa_cons (pv 1) (pa_cons pe_int pa_nil))) pa_nil)) pe_int))))
  pss_nil)
  (pss_cons (ps_set (i := 3) sc_law.nd rfl (.inl rfl) (pe_cmpR op_eq (pe_op op_mod (pe_callTy call_int1 (by rfl) T.int (by decide +kernel) (pa_cons (pe_op op_fdiv (pe_call G__law_draw (hr.mono (by decide)) (by rfl) D__law_draw.g D__law_draw.F.kp D__law_draw.b .nil pass0 (pa_cons (pv 1) (pa_cons pe_int pa_nil))) pe_int) pa_nil)) pe_int) pe_int (nomark _)))
  (pss_cons (ps_set (i := 4) sc_law.nd rfl (.inl rfl) (pe_make (L_Election.make D_Election___init__) G_Election___init__ (hr.mono (by decide)) (by rfl) L_Election.g D_Election___init__.b .nil pass0 (pa_cons (pv 2) pa_nil)))
  (pss_cons (ps_set (i := 5) sc_law.nd rfl (.inl rfl) (pe_make (L_Election.make D_Election___init__) G_Election___init__ (hr.mono (by decide)) (by rfl) L_Election.g D_Election___init__.b .nil pass0 (pa_cons (pv 2) pa_nil)))
  (pss_cons (ps_set (i := 6) sc_law.nd rfl (.inl rfl) pe_dnewK)
  (pss_cons (ps_set (i := 7) sc_law.nd rfl (.inl rfl) pe_dnewK)
  (pss_cons (ps_if (pt_not (pt_val (pe_call G__law_holds (hr.mono (by decide)) (by rfl) D__law_holds.g D__law_holds.F.kp D__law_holds.b .nil pass0 (pa_cons (pv 4) (pa_cons (pv 6) (pa_cons (pv 2) pa_nil))))))
  (pss_one (ps_ret pe_bl))
  pss_nil)
  (pss_cons (ps_for PassesOwn.never rfl (pi_range1 (by rfl) T.range (pa_cons (pe_callB (call_min2 rfl) (by rfl) T.min (by decide +kernel) (pa_cons pe_int (pa_cons (pe_op op_fdiv (pe_callB call_len_seq (by rfl) T.len PySem.boot_len (pa_cons (pv 1) pa_nil)) pe_int) pa_nil))) pa_nil)) (pg_name (i := 8) sc_law.nd rfl (.inr rfl))
  (pss_cons (ps_set (i := 9) sc_law.nd rfl (.inl rfl) (pe_call G__law_draw (hr.mono (by decide)) (by rfl) D__law_draw.g D__law_draw.F.kp D__law_draw.b .nil pass0 (pa_cons (pv 1) (pa_cons (pe_op op_add pe_int (pe_op op_mul pe_int (pv 8))) pa_nil))))
  (pss_cons (ps_set (i := 10) sc_law.nd rfl (.inl rfl) (pe_call G__law_draw (hr.mono (by decide)) (by rfl) D__law_draw.g D__law_draw.F.kp D__law_draw.b .nil pass0 (pa_cons (pv 1) (pa_cons (pe_op op_add pe_int (pe_op op_mul pe_int (pv 8))) pa_nil))))
  (pss_cons (ps_set (i := 11) sc_law.nd rfl (.inl rfl) (pe_op op_mod (pe_callTy call_int1 (by rfl) T.int (by decide +kernel) (pa_cons (pv 9) pa_nil)) (pv 2)))
  (pss_cons (ps_set (i := 12) sc_law.nd rfl (.inl rfl) (pe_op op_mod (pe_callTy call_int1 (by rfl) T.int (by decide +kernel) (pa_cons (pe_op op_fdiv (pv 9) pe_int) pa_nil)) pe_int))
  (pss_cons (ps_if (pt_val (pv 3))
  (pss_one (ps_set (i := 12) sc_law.nd rfl (.inl rfl) (pe_op op_mod (pe_callTy call_int1 (by rfl) T.int (by decide +kernel) (pa_cons (pe_op op_add (pe_op op_mul (pe_op op_fdiv (pv 9) pe_int) pe_int) (pe_op op_mul pe_int (pe_op op_fdiv (pv 10) pe_int))) pa_nil)) (pe_op op_pow pe_int pe_int))))
  pss_nil)
  (pss_cons (ps_set (i := 13) sc_law.nd rfl (.inl rfl) (pe_op op_mod (pe_callTy call_int1 (by rfl) T.int (by decide +kernel) (pa_cons (pv 10) pa_nil)) pe_int))
  (pss_cons (ps_setLc (i := 14) (own := [("k", 15)]) (g := gName 15) rfl sc_law.nd rfl rfl (sw_true rfl rfl rfl (by decide +kernel)) (pi_range1 (by rfl) T.range (pa_cons (pe_op op_mod (pe_callTy call_int1 (by rfl) T.int (by decide +kernel) (pa_cons (pe_op op_fdiv (pv 10) pe_int) pa_nil)) pe_int) pa_nil)) (blkOk_by (N := N_law) (sc := defScope s_law) (by decide +kernel)) (fun _ _ _ _ _ => (pg_name (i := 15) sc_law.nd rfl (.inl rfl))) (fun _ _ _ _ _ => pts_nil) (fun _ _ _ _ _ => (pe_tup (pa_cons (pv 15) (pa_cons (pe_op op_add pe_int (pv 8)) (pa_cons (pe_tup (pa_cons pe_str (pa_cons pe_str pa_nil))) pa_nil))))))
  (pss_cons (ps_set (i := 16) sc_law.nd rfl (.inl rfl) (pe_tup (pa_cons (pv 13) (pa_cons (pe_tup (pa_cons pe_str (pa_cons (pv 11) (pa_cons (pv 8) pa_nil)))) (pa_cons (pe_tupleOf (by rfl) T.tuple (pv 14)) pa_nil)))))
  (pss_cons (ps_if (pt_not (pt_val (pe_call G__law_noted (hr.mono (by decide)) (by rfl) D__law_noted.g D__law_noted.F.kp D__law_noted.b .nil pass0 (pa_cons (pv 4) (pa_cons (pv 6) (pa_cons (pv 11) (pa_cons (pv 12) (pa_cons (pv 16) pa_nil))))))))
  (pss_one (ps_ret pe_bl))
  pss_nil)
  (pss_cons (ps_if (PW.pt (pw_and (pt_cmpR op_eq (pe_op op_mod (pe_callTy call_int1 (by rfl) T.int (by decide +kernel) (pa_cons (pv 8) pa_nil)) pe_int) pe_int (nomark _)) (pw_and1 (pt_not (pt_val (pe_call G__law_noted (hr.mono (by decide)) (by rfl) D__law_noted.g D__law_noted.F.kp D__law_noted.b .nil pass0 (pa_cons (pv 5) (pa_cons (pv 7) (pa_cons (pv 11) (pa_cons (pv 12) (pa_cons (pv 16) pa_nil)))))))))))
  (pss_one (ps_ret pe_bl))
  pss_nil)
  (pss_one (ps_if (PW.pt (pw_or (pt_not (pt_val (pe_call G__law_holds (hr.mono (by decide)) (by rfl) D__law_holds.g D__law_holds.F.kp D__law_holds.b .nil pass0 (pa_cons (pv 4) (pa_cons (pv 6) (pa_cons (pv 2) pa_nil)))))) (pw_or1 (pt_not (pt_val (pe_call G__law_holds (hr.mono (by decide)) (by rfl) D__law_holds.g D__law_holds.F.kp D__law_holds.b .nil pass0 (pa_cons (pv 5) (pa_cons (pv 7) (pa_cons (pv 2) pa_nil)))))))))
  (pss_one (ps_ret pe_bl))
  pss_nil)))))))))))))
  (pss_one (ps_ret pe_bl)))))))))))), ?_⟩
    refine q_call (ea_cons (ev_var rfl) (ea_cons ev_c ea_nil)) fun H1 e1 => ⟨a, ns, 60, rfl, ex_l e1 hS, hn, by decide, fun ds hD hl b H2 nb e2 hb => ?_⟩
    have hA := at_take hP
    have e12 := e1.trans e2
    have hb1 : ov (fun b => if b = PT then none else H b) H H2 b = some (.lst (ds.map V.int)) := ov_fresh (at_base hA) (fresh_back e1 nb) hb
    have hA := at_grow hA e12
    generalize ov (fun b => if b = PT then none else H b) H H2 = B1 at hb1 hA
    have hbB : ∀ {B' H' : Hp} {l : List MP}, Ex B1 B' → At B' l H' → H' b = some (.lst (ds.map V.int)) := fun b1 hA => at_base hA _ _ (b1 _ _ hb1)
    have dr : ∀ {σ : L2.St} {B' H' : Hp} {l : List MP} {tj : TE} {j : Int} {k : Nat}, σ[1]? = some (some (.ref b)) → Ex B1 B' → At B' l H' → Ev tj σ H' (.int j) → j = (k : Int) → Ev (tCall (spDraw K) [] E0 (tCons (tVar 1) (tCons tj tNil))) σ H' (.int (drw ds k)) := fun h1 bb hA hj e => ev_call (ea_cons (ev_var h1) (ea_cons hj ea_nil)) (spDraw_v (sq_of (hbB bb hA)) e)
    generalize hc0 : 1 + drw ds 0 % 7 = c0
    refine qe_asg (x := .int c0) hA (ev_is (ev_op ev_c (ev_op (ev_cb (ea_cons (dr rfl (Ex.refl _) hA ev_c rfl) ea_nil) rc_int) ev_c (rv_I (by decide))) rv_I0) (by rw [hc0])) fun H3 hA => ?_
    refine q_whenS (b := decide (drw ds 0 / 7 % 5 = 1)) (fun σ' H' => ∃ cnt : Int, 1 ≤ cnt ∧ cnt ≤ 100 ∧ σ' = [some (.ref a), some (.ref b), some (.int cnt), none, none, none, none, none, none, none, none, none, none, none, none, none, none] ∧ At B1 [Pt PT (.tbl #[])] H') (et_test (ev_op (ev_op (ev_cb (ea_cons (ev_op (dr rfl (Ex.refl _) hA ev_c rfl) ev_c (rv_I ⟨by decide, by decide⟩)) ea_nil) rc_int) ev_c (rv_I (by decide))) ev_c rv_eqI)) (fun _ H4 e4 => ⟨c0, by omega, by omega, rfl, at_ex hA e4⟩) (fun _ H4 e4 Dn hDn => ?_) (fun σ' H4 ⟨cnt, hc1, hc2, hσ, hA⟩ => ?_)
    · have hA := at_ex hA e4
      exact s_asg (v := .int (c0 + drw ds 1 % 24)) (ev_op (ev_var rfl) (ev_op (ev_cb (ea_cons (dr rfl (Ex.refl _) hA ev_c rfl) ea_nil) rc_int) ev_c (rv_I (by decide))) rv_I0) fun H5 e5 => hDn _ _ ⟨_, by omega, by omega, rfl, at_ex hA e5⟩
    · subst hσ
      obtain ⟨lg, hlg⟩ : ∃ lg : Bool, decide (drw ds 0 / 35 % 4 = 1) = lg := ⟨_, rfl⟩
      refine qe_asg (x := .bl lg) hA (ev_is (ev_op (ev_op (ev_cb (ea_cons (ev_op (dr rfl (Ex.refl _) hA ev_c rfl) ev_c (rv_I ⟨by decide, by decide⟩)) ea_nil) rc_int) ev_c (rv_I (by decide))) ev_c rv_eqI) (by rw [hlg])) fun H5 hA => ?_
      refine q_do (make_at hA (ea_cons (ev_var rfl) ea_nil) fun el x0 H6 hA => ⟨el, x0, cnt, _, _, rfl, hA, fun H7 hA => ⟨rfl, ?_⟩⟩)
      refine q_do (make_at hA (ea_cons (ev_var rfl) ea_nil) fun ot x1 H8 hA => ⟨ot, x1, cnt, _, _, rfl, hA, fun H9 hA => ⟨rfl, ?_⟩⟩)
      refine q_dnew fun fi H10 nfi e10 hfi => ?_
      have hA := at_new hA nfi e10 hfi
      refine q_dnew fun se H11 nse e11 hse => ?_
      have hA := at_new hA nse e11 hse
      have hA : At B1 (Iv48 C el fi ot se PT cnt [] [] #[]) H11 := at_ix 5 [3, 1, 2, 0, 4] hA
      have holds1 : ∀ {σ : L2.St} {Bx Hx : Hp} {ps qs : List PrR} {tps : Array Value} {Q' : Bool → Hp → Prop}, σ[4]? = some (some (.ref el)) → σ[6]? = some (some (.ref fi)) → σ[2]? = some (some (.int cnt)) → At Bx (Iv48 C el fi ot se PT cnt ps qs tps) Hx → LamP.TblIn Bx tps qB → AllP K CL cnt Bx ps → (∀ B' tps' H', Ex Bx B' → LamP.TblIn B' tps' qB → At B' (Iv48 C el fi ot se PT cnt ps qs tps') H' → Q' false H') → tNot (tB (tCall (spLH K C CL PT) [] E0 (tCons (tVar 4) (tCons (tVar 6) (tCons (tVar 2) tNil))))) σ Hx Q' := fun {σ Bx Hx ps qs tps Q'} h4 h6 h2 hA hT A1 k => go_nt (go_tB (go_call (go_cons (ev_var h4) fun H1 e1 => go_cons (ev_var h6) fun H2 e2 => go_cons (ev_var h2) fun H3 e3 => go_nil ⟨el, fi, cnt, ps, tps, Bx, _, rfl, at_ix (hn := (by show 5 ≤ 5; decide)) 5 [0, 1, 4, 2, 3] (at_ex hA (e1.trans (e2.trans e3))), hT, A1, by omega, by omega, fun B' tps' H' b' hT' hA' => ⟨true, rfl, k B' tps' H' b' hT' (at_ix 5 [0, 1, 3, 4, 2] hA')⟩⟩)))
      have holds2 : ∀ {σ : L2.St} {Bx Hx : Hp} {ps qs : List PrR} {tps : Array Value} {Q' : Bool → Hp → Prop}, σ[5]? = some (some (.ref ot)) → σ[7]? = some (some (.ref se)) → σ[2]? = some (some (.int cnt)) → At Bx (Iv48 C el fi ot se PT cnt ps qs tps) Hx → LamP.TblIn Bx tps qB → AllP K CL cnt Bx qs → (∀ B' tps' H', Ex Bx B' → LamP.TblIn B' tps' qB → At B' (Iv48 C el fi ot se PT cnt ps qs tps') H' → Q' false H') → tNot (tB (tCall (spLH K C CL PT) [] E0 (tCons (tVar 5) (tCons (tVar 7) (tCons (tVar 2) tNil))))) σ Hx Q' := fun {σ Bx Hx ps qs tps Q'} h4 h6 h2 hA hT A1 k => go_nt (go_tB (go_call (go_cons (ev_var h4) fun H1 e1 => go_cons (ev_var h6) fun H2 e2 => go_cons (ev_var h2) fun H3 e3 => go_nil ⟨ot, se, cnt, qs, tps, Bx, _, rfl, at_ix (hn := (by show 5 ≤ 5; decide)) 5 [2, 3, 4, 0, 1] (at_ex hA (e1.trans (e2.trans e3))), hT, A1, by omega, by omega, fun B' tps' H' b' hT' hA' => ⟨true, rfl, k B' tps' H' b' hT' (at_ix 5 [3, 4, 0, 1, 2] hA')⟩⟩)))
      refine q_whenF (C := fun H1 => ∃ B' tps', Ex B1 B' ∧ LamP.TblIn B' tps' qB ∧ At B' (Iv48 C el fi ot se PT cnt [] [] tps') H1) (fun Q' hQ => holds1 rfl rfl rfl hA LamP.TblIn.nil AllP.nil fun B' tps' H' b' hT' hA' => hQ H' ⟨B', tps', b', hT', hA'⟩) (fun H12 ⟨B2, tps, b2, hT, hA⟩ => ?_)
      have p12 : ∀ {σ : L2.St} {H : Hp}, Ev (tOp (rI CPow fun i j => .int (i ^ j.toNat)) (tC (.int 10)) (tC (.int 12))) σ H (.int 1000000000000) := by
        intro σ H
        refine' ev_is ?c ?d
        case c => walk_at "ev"
        case d => rfl
      obtain ⟨m, hm, hm28⟩ : ∃ m : Int, (if (ds.length : Int) / 2 < 28 then (ds.length : Int) / 2 else 28) = m ∧ 0 ≤ m ∧ m ≤ 28 := ⟨_, rfl, by split <;> omega, by split <;> omega⟩
      refine q_forR1 (n := m) (ea_cons (ev_is (ev_cb (ea_cons ev_c (ea_cons (ev_op (ev_is (ev_cb (ea_cons (ev_var rfl) ea_nil) (rc_len (sq_of (hbB b2 hA)))) (by rw [List.length_map])) ev_c (rv_I ⟨by decide, by decide⟩)) ea_nil)) rc_min2) (by rw [hm])) ea_nil) (by omega)
        (fun i σ' H' => ∃ (ps qs : List PrR) (tps : Array Value) (B' : Hp) (y8 y9 y10 y11 y12 y13 y14 y16 : Option V), σ' = [some (.ref a), some (.ref b), some (.int cnt), some (.bl lg), some (.ref el), some (.ref ot), some (.ref fi), some (.ref se), y8, y9, y10, y11, y12, y13, y14, none, y16] ∧ Ex B1 B' ∧ At B' (Iv48 C el fi ot se PT cnt ps qs tps) H' ∧ LamP.TblIn B' tps qB ∧ AllP K CL cnt B' ps ∧ AllP K CL cnt B' qs ∧ ps.length ≤ i ∧ qs.length ≤ i)
        (fun H13 e13 => ⟨[], [], tps, B2, _, _, _, _, _, _, _, _, rfl, b2, at_ex hA e13, hT, AllP.nil, AllP.nil, Nat.le_refl _, Nat.le_refl _⟩) (fun i σ' H' hi pp => ?_) (fun σ' H' pp => ?_)
      · obtain ⟨ps, qs, tps, B3, y8, y9, y10, y11, y12, y13, y14, y16, rfl, b3, hA, hT, Ap1, Aq1, hpl, hql⟩ := pp
        refine qe_asg (x := .int (drw ds (2 + 2 * i))) hA (dr rfl b3 hA (ev_op ev_c (ev_op ev_c (ev_var rfl) (rv_I (show CMul 2 (i : Int) from .inl (by decide)))) rv_I0) (by show (2 : Int) + 2 * (i : Int) = ((2 + 2 * i : Nat) : Int); omega)) fun H14 hA => ?_
        refine qe_asg (x := .int (drw ds (3 + 2 * i))) hA (dr rfl b3 hA (ev_op ev_c (ev_op ev_c (ev_var rfl) (rv_I (show CMul 2 (i : Int) from .inl (by decide)))) rv_I0) (by show (3 : Int) + 2 * (i : Int) = ((3 + 2 * i : Nat) : Int); omega)) fun H15 hA => ?_
        generalize drw ds (2 + 2 * i) = x
        generalize drw ds (3 + 2 * i) = y
        have hj0 : 0 ≤ x % cnt := Int.emod_nonneg _ (by omega)
        have hj1 : x % cnt < cnt := Int.emod_lt_of_pos _ (by omega)
        refine qe_asg (x := .int (x % cnt)) hA (ev_op (ev_cb (ea_cons (ev_var rfl) ea_nil) rc_int) (ev_var rfl) (rv_I (by omega))) fun H16 hA => ?_
        generalize x % cnt = jn at hj0 hj1
        refine qe_asg (x := .int (x / 31 % 4)) hA (ev_op (ev_cb (ea_cons (ev_op (ev_var rfl) ev_c (rv_I ⟨by decide, by decide⟩)) ea_nil) rc_int) ev_c (rv_I (by decide))) fun H17 hA => ?_
        refine q_whenS (b := lg) (fun σ' H' => ∃ ep : Int, σ' = [some (.ref a), some (.ref b), some (.int cnt), some (.bl lg), some (.ref el), some (.ref ot), some (.ref fi), some (.ref se), some (.int (i : Int)), some (.int x), some (.int y), some (.int jn), some (.int ep), y13, y14, none, y16] ∧ At B3 (Iv48 C el fi ot se PT cnt ps qs tps) H') (et_B (ev_var rfl)) (fun _ H18 e18 => ⟨_, rfl, at_ex hA e18⟩) (fun _ H18 e18 Dn hDn => ?_) (fun σ' H18 ⟨ep, hσ, hA⟩ => ?_)
        · exact s_asg (v := .int ((x / 31 * 198412637 + 7 * (y / 20)) % 1000000000000)) (ev_op (ev_cb (ea_cons (ev_op (ev_op (ev_op (ev_var rfl) ev_c (rv_I ⟨by decide, by decide⟩)) ev_c (rv_I (show CMul _ 198412637 from .inr (by decide)))) (ev_op ev_c (ev_op (ev_var rfl) ev_c (rv_I ⟨by decide, by decide⟩)) (rv_I (show CMul 7 _ from .inl (by decide)))) rv_I0) ea_nil) rc_int) p12 (rv_I (by decide))) fun H19 e19 => hDn _ _ ⟨_, rfl, at_ex hA (e18.trans e19)⟩
        · subst hσ
          refine qe_asg (x := .int (y % 5)) hA (ev_op (ev_cb (ea_cons (ev_var rfl) ea_nil) rc_int) ev_c (rv_I (by decide))) fun H19 hA => ?_
          have hg0 : 0 ≤ y / 5 % 4 ∧ y / 5 % 4 ≤ 40000 := by omega
          refine q_asgDB (K := K) (at_base hA) (ed_new (en_lcR1 (n := y / 5 % 4) (fun _ => true) (fun k => .tuple [.int (k : Int), .int (1 + (i : Int)), .tuple [.str "seal", .str "/a"]]) (ea_cons (ev_op (ev_cb (ea_cons (ev_op (ev_var rfl) ev_c (rv_I ⟨by decide, by decide⟩)) ea_nil) rc_int) ev_c (rv_I (by decide))) ea_nil) hg0 (fun _ => rfl) (fun k _ => et_nil) (fun k _ _ => ed_tup (eds_cons (ed_int (ev_var rfl)) (eds_cons (ed_int (ev_op ev_c (ev_var rfl) rv_I0)) (eds_cons (ed_tup (eds_cons ed_str (eds_cons ed_str eds_nil)) (by show 2 ≤ 100000; decide)) eds_nil))) (by show 3 ≤ 100000; decide)))) fun vr H20 e20 hvr => ?_
          have hrl := givenD_len (y / 5 % 4).toNat (fun _ => true) (fun k : Nat => PyData.tuple [.int (k : Int), .int (1 + (i : Int)), .tuple [.str "seal", .str "/a"]])
          have hrm : ∀ d ∈ givenD (y / 5 % 4).toNat (fun _ => true) (fun k : Nat => PyData.tuple [.int (k : Int), .int (1 + (i : Int)), .tuple [.str "seal", .str "/a"]]), Okn 2 d := fun d hd => by
            unfold givenD at hd
            obtain ⟨k, _, rfl⟩ := List.mem_map.mp hd
            refine .tup (by show 3 ≤ 50000; decide) fun d hd => ?_
            simp only [List.mem_cons, List.not_mem_nil, or_false] at hd
            rcases hd with rfl | rfl | rfl
            · exact .int _
            · exact .int _
            · refine .tup (by show 2 ≤ 50000; decide) fun d hd => ?_
              simp only [List.mem_cons, List.not_mem_nil, or_false] at hd
              rcases hd with rfl | rfl <;> exact .str _
          generalize givenD (y / 5 % 4).toNat (fun _ => true) (fun k : Nat => PyData.tuple [.int (k : Int), .int (1 + (i : Int)), .tuple [.str "seal", .str "/a"]]) = rs at hvr hrl hrm
          have hA := at_grow hA e20
          have b4 : Ex B3 (ov B3 H19 H20) := ov_base
          generalize ov B3 H19 H20 = B4 at hA b4 hvr
          refine q_asgDB (K := K) (at_base hA) (ed_tup (eds_cons (ed_int (ev_var rfl)) (eds_cons (ed_tup (eds_cons ed_str (eds_cons (ed_int (ev_var rfl)) (eds_cons (ed_int (ev_var rfl)) eds_nil))) (by show 3 ≤ 100000; decide)) (eds_cons (ed_tupOf (ed_var rfl hvr)) eds_nil))) (by show 3 ≤ 100000; decide)) fun vv H21 e21 hvv => ?_
          have hA := at_grow hA e21
          have b5 : Ex B4 (ov B4 H20 H21) := ov_base
          generalize ov B4 H20 H21 = B5 at hA b5 hvv
          obtain ⟨va, rfl⟩ : ∃ va, vv = .ref va := by
            cases hvv with
            | tup _ _ => exact ⟨_, rfl⟩
          have hok : Okn 4 (.tuple [.int (y % 5), .tuple [.str "image", .int jn, .int (i : Int)], .tuple rs]) := by
            refine .tup (by show 3 ≤ 50000; decide) fun d hd => ?_
            simp only [List.mem_cons, List.not_mem_nil, or_false] at hd
            rcases hd with rfl | rfl | rfl
            · exact .int _
            · refine .tup (by show 3 ≤ 50000; decide) fun d hd => ?_
              simp only [List.mem_cons, List.not_mem_nil, or_false] at hd
              rcases hd with rfl | rfl | rfl
              · exact .str _
              · exact .int _
              · exact .int _
            · exact .tup (by omega) hrm
          have b35 := b4.trans b5
          have hT5 := hT.mono b35
          -- noted by the first
          refine q_whenF (C := fun H1 => ∃ (ps' : List PrR) (B' : Hp), Ex B5 B' ∧ AllP K CL cnt B' ps' ∧ ps'.length ≤ i + 1 ∧ At B' (Iv48 C el fi ot se PT cnt ps' qs tps) H1) (fun Q' hQ => go_nt (go_tB (go_call (go_cons (ev_var rfl) fun H22 e22 => go_cons (ev_var rfl) fun H23 e23 => go_cons (ev_var rfl) fun H24 e24 => go_cons (ev_var rfl) fun H25 e25 => go_cons (ev_var rfl) fun H26 e26 => go_nil ⟨el, fi, va, jn, ep, cnt, y % 5, _, rs, ps, B5, _, rfl, at_ex hA (e22.trans (e23.trans (e24.trans (e25.trans e26)))), Ap1.mono b35, hvv, hok, hj0, hj1, by omega, fun ps' B' H27 b' A' hl' hA' => ⟨true, rfl, hQ H27 ⟨ps', B', b', A', by omega, hA'⟩⟩⟩)))) (fun H27 ⟨ps', B6, b6, A6, hl6, hA⟩ => ?_)
          refine q_whenF (C := fun H1 => ∃ (qs' : List PrR) (B' : Hp), Ex B6 B' ∧ AllP K CL cnt B' qs' ∧ qs'.length ≤ i + 1 ∧ At B' (Iv48 C el fi ot se PT cnt ps' qs' tps) H1) (fun Q' hQ => go_and (b := decide ((i : Int) % 2 = 1)) (et_test (ev_op (ev_op (ev_cb (ea_cons (ev_var rfl) ea_nil) rc_int) ev_c (rv_I (by decide))) ev_c rv_eqI)) (fun _ H28 e28 => hQ H28 ⟨qs, B6, Ex.refl _, (Aq1.mono b35).mono b6, by omega, at_ex hA e28⟩) (fun _ H28 e28 => go_nt (go_tB (go_call (go_cons (ev_var rfl) fun H22 e22 => go_cons (ev_var rfl) fun H23 e23 => go_cons (ev_var rfl) fun H24 e24 => go_cons (ev_var rfl) fun H25 e25 => go_cons (ev_var rfl) fun H26 e26 => go_nil ⟨ot, se, va, jn, ep, cnt, y % 5, _, rs, qs, B6, _, rfl, at_ix (hn := (by show 4 ≤ 5; decide)) 4 [2, 3, 0, 1] (at_ex hA (e28.trans (e22.trans (e23.trans (e24.trans (e25.trans e26)))))), (Aq1.mono b35).mono b6, dp_mono b6 _ _ hvv, hok, hj0, hj1, by omega, fun qs' B' H27 b' A' hl' hA' => ⟨true, rfl, hQ H27 ⟨qs', B', b', A', by omega, at_ix 4 [2, 3, 0, 1] hA'⟩⟩⟩))))) (fun H29 ⟨qs', B7, b7, A7, hl7, hA⟩ => ?_)
          refine s_whenF (C := fun H1 => ∃ (tps' : Array Value) (B' : Hp), Ex B7 B' ∧ LamP.TblIn B' tps' qB ∧ At B' (Iv48 C el fi ot se PT cnt ps' qs' tps') H1) (fun Q' hQ => go_orT (holds1 rfl rfl rfl hA ((hT5.mono b6).mono b7) (A6.mono b7) fun B' tps' H' b' hT' hA' => ?_)) (fun H30 ⟨tps', B8, b8, hT8, hA⟩ => ⟨ps', qs', tps', B8, _, _, _, _, _, _, _, _, rfl, b3.trans (b35.trans (b6.trans (b7.trans b8))), hA, hT8, (A6.mono b7).mono b8, A7.mono b8, hl6, hl7⟩)
          rw [if_neg Bool.false_ne_true]
          exact holds2 rfl rfl rfl hA' hT' (A7.mono b') fun B'' tps'' H'' b'' hT'' hA'' => hQ H'' ⟨tps'', B'', b'.trans b'', hT'', hA''⟩
      · exact s_ret ev_c fun H13 e13 => q H13
theorem ok_law {C CL f f_majority f_has_majority f_best f__law_stream f__law_draw f__law_same f__law_choice f__law_due f__law_holds f__law_noted f_Log___init__ f_Log_length f_Log_value f_Election___init__ f_Election_note f_Election_promised f_Election_decided f_Election_choice C_TooFew B_TooFew C_OutOfRange B_OutOfRange : Addr} {fd fd_majority fd_has_majority fd_best fd_Log___init__ fd_Log_length fd_Log_value fd_Election___init__ fd_Election_note fd_Election_promised fd_Election_decided fd_Election_choice fd__law_stream fd__law_draw fd__law_same fd__law_choice fd__law_due fd__law_holds fd__law_noted : FuncData} (F : Fun K "law" "law" s_law f fd)
    (D_majority : Df K mg "majority" s_majority ["count"] f_majority fd_majority)
    (D_has_majority : Df K mg "has_majority" s_has_majority ["members", "count"] f_has_majority fd_has_majority)
    (D_best : Df K mg "best" s_best ["candidates"] f_best fd_best)
    (D__law_stream : Df K mg "_law_stream" s__law_stream ["script", "many"] f__law_stream fd__law_stream)
    (D__law_draw : Df K mg "_law_draw" s__law_draw ["draws", "k"] f__law_draw fd__law_draw)
    (D__law_same : Df K mg "_law_same" s__law_same ["actual", "due"] f__law_same fd__law_same)
    (D__law_choice : Df K mg "_law_choice" s__law_choice ["election"] f__law_choice fd__law_choice)
    (D__law_due : Df K mg "_law_due" s__law_due ["first", "count"] f__law_due fd__law_due)
    (D__law_holds : Df K mg "_law_holds" s__law_holds ["election", "first", "count"] f__law_holds fd__law_holds)
    (D__law_noted : Df K mg "_law_noted" s__law_noted ["election", "first", "journal", "epoch", "value"] f__law_noted fd__law_noted)
    (D_Log___init__ : Dm K CL "__init__" "Log.__init__" s_Log___init__ ["self", "base", "image", "records"] f_Log___init__ fd_Log___init__)
    (D_Log_length : Pr K CL "length" "Log.length" s_Log_length f_Log_length fd_Log_length)
    (D_Log_value : Dm K CL "value" "Log.value" s_Log_value ["self"] f_Log_value fd_Log_value)
    (D_Election___init__ : Dm K C "__init__" "Election.__init__" s_Election___init__ ["self", "journals"] f_Election___init__ fd_Election___init__)
    (D_Election_note : Dm K C "note" "Election.note" s_Election_note ["self", "journal", "epoch", "log"] f_Election_note fd_Election_note)
    (D_Election_promised : Dm K C "promised" "Election.promised" s_Election_promised ["self", "journal"] f_Election_promised fd_Election_promised)
    (D_Election_decided : Dm K C "decided" "Election.decided" s_Election_decided ["self"] f_Election_decided fd_Election_decided)
    (D_Election_choice : Dm K C "choice" "Election.choice" s_Election_choice ["self"] f_Election_choice fd_Election_choice)
    
    (E_TooFew : Err K mg "TooFew" C_TooFew B_TooFew) (E_OutOfRange : Err K mg "OutOfRange" C_OutOfRange B_OutOfRange)
    {cB PT : Addr} (g_HallError : mg "HallError" = some (.ref B_TooFew)) (N_TO : PySem.W.kitOne K (.ref C_TooFew) (.ref C_OutOfRange) = some false) (hc : fd_best.code = .ref cB) (TB : LamX.TabB base mg cB PT)
    (L_Election : Kl K mg "Election" C) (LC_Election : ElC K C) (L_Log : Kl K mg "Log" CL) (LC_Log : LogC K CL) (T : Glo mg) : FnOk P w K mg base CX0 20 f fd ["script"] (spLawT K PT) := by
  have G_majority : FnOk P w K mg base CX0 1 f_majority fd_majority _ _ := ok_majority D_majority.F
  have G_has_majority : FnOk P w K mg base CX0 2 f_has_majority fd_has_majority _ _ := ok_hm D_has_majority.F D_majority T
  have G_best : FnOk P w K mg base (L2.CX P w) 3 f_best fd_best _ _ := ok_best D_best.F hc TB E_TooFew T
  have G_Log___init__ : FnOk P w K mg base CX0 1 f_Log___init__ fd_Log___init__ _ _ := ok_log_init D_Log___init__.F LC_Log
  have G_Log_length : FnOk P w K mg base CX0 1 f_Log_length fd_Log_length _ _ := ok_log_len D_Log_length.F LC_Log T
  have G_Log_value : FnOk P w K mg base CX0 1 f_Log_value fd_Log_value _ _ := ok_log_value D_Log_value.F LC_Log
  have G_Election___init__ : FnOk P w K mg base CX0 1 f_Election___init__ fd_Election___init__ _ _ := ok_elinit D_Election___init__.F LC_Election T
  have G_Election_note : FnOk P w K mg base CX0 1 f_Election_note fd_Election_note _ _ := ok_elnote D_Election_note.F LC_Election T
  have G_Election_promised : FnOk P w K mg base CX0 1 f_Election_promised fd_Election_promised _ _ := ok_elpromised D_Election_promised.F LC_Election T
  have G_Election_decided : FnOk P w K mg base CX0 3 f_Election_decided fd_Election_decided _ _ := ok_eldecided D_Election_decided.F D_has_majority G_has_majority LC_Election T
  have G_Election_choice : FnOk P w K mg base (L2.CX P w) 4 f_Election_choice fd_Election_choice _ _ := ok_elchoice D_Election_choice.F D_Log_length G_Log_length D_best G_best L_Log LC_Election T
  have G__law_stream : FnOk P w K mg base CX0 1 f__law_stream fd__law_stream _ _ := ok_stream (k := 0) D__law_stream.F T
  have G__law_draw : FnOk P w K mg base CX0 1 f__law_draw fd__law_draw _ _ := ok_draw (k := 0) D__law_draw.F T
  have G__law_same : FnOk P w K mg base CX0 6 f__law_same fd__law_same _ _ := ok_same D__law_same T 5
  have G__law_choice : FnOk P w K mg base CX0 6 f__law_choice fd__law_choice _ _ := ok_lchoice D__law_choice.F D_Election_choice G_Election_choice D_Log_value G_Log_value L_Election L_Log E_TooFew g_HallError E_OutOfRange.g N_TO T
  have G__law_due : FnOk P w K mg base CX0 2 f__law_due fd__law_due _ _ := ok_ldue (CL := CL) D__law_due.F T
  have G__law_holds : FnOk P w K mg base CX0 8 f__law_holds fd__law_holds _ _ := ok_lholds D__law_holds.F D__law_same G__law_same D_Election_promised G_Election_promised D_Election_decided G_Election_decided D__law_choice G__law_choice D__law_due G__law_due L_Election LC_Election T
  have G__law_noted : FnOk P w K mg base CX0 3 f__law_noted fd__law_noted _ _ := ok_lnoted D__law_noted.F D_Election_note G_Election_note D_Log___init__ G_Log___init__ L_Election L_Log T
  exact ok_lawG F D__law_stream G__law_stream D__law_draw G__law_draw D__law_holds G__law_holds D__law_noted G__law_noted D_Election___init__ G_Election___init__ L_Election T
end
open He (ga ma eqO eqO_ok)
theorem factsOk {P : Program} {w : World} {K2 : PySem.W.Frag} {h : Heap} {mg : Str → Option Value} {fa : Addr} (KX2 : K2.In h) (G : h.Ns mainGlobals mg) (hmg : mg "law" = some (.ref fa)) (c : obF0 K2 = vaF0) :
    ∃ (K : PySem.W.Frag) (fd : FuncData) (cB : Addr), K.In h ∧ K.lookup 72 = none ∧ h.get? 72 = some { cls := .none, data := .fields #[] } ∧ PySem.W.CodeHd h cB 72 ∧ (∀ (s : Shared) (v : Value), BindsTo s fd ⟨[v], []⟩ [("script", v)]) ∧ ∀ base : Heap, LamX.TabB base mg cB 72 → FnOk P w K mg base CX0 20 fa fd ["script"] (spLawT K 72) := by
  have cF0 : obF0 K2 = vaF0 := c
  have hTB : bTb K2 72 = true := (He.ba (show (bTb K2 72 && (obG0 (dropF K2 72)).1) = true from congrArg Prod.fst cF0)).1
  have g0 : (obG0 (dropF K2 72)).1 = true := (He.ba (show (bTb K2 72 && (obG0 (dropF K2 72)).1) = true from congrArg Prod.fst cF0)).2
  have gy0 : (obG0 (dropF K2 72)).2 = vaF0.2 := (show (obF0 K2).2 = vaF0.2 from congrArg Prod.snd cF0)
  have KX : (dropF K2 72).In h := dropF_in KX2
  have nT : (dropF K2 72).lookup 72 = none := dropF_no
  have hT := hf_tb KX2 hTB
  generalize dropF K2 72 = K at KX nT g0 gy0
  have z0 : factsF0 K = true := g0
  have y0 : [fnV K (ma K (ga K "Election") "__init__"), fnV K (ma K (ga K "Election") "note"), fnV K (ma K (ga K "Election") "promised"), fnV K (ma K (ga K "Election") "decided"), fnV K (ma K (ga K "Election") "choice"), fnV K (ma K (ga K "Log") "__init__"), fnV K (hf_pa K "Log" "length"), fnV K (ma K (ga K "Log") "value"), fnV K (ga K "majority"), fnV K (ga K "has_majority"), fnV K (ga K "best"), fnV K (ga K "_law_stream"), fnV K (ga K "_law_draw"), fnV K (ga K "_law_same"), fnV K (ga K "_law_choice"), fnV K (ga K "_law_due"), fnV K (ga K "_law_holds"), fnV K (ga K "_law_noted"), fnV K (ga K "law")] = [fnD "__init__" "Election.__init__" (inClass (hS 10) 0), fnD "note" "Election.note" (inClass (hS 10) 1), fnD "promised" "Election.promised" (inClass (hS 10) 2), fnD "decided" "Election.decided" (inClass (hS 10) 3), fnD "choice" "Election.choice" (inClass (hS 10) 4), fnD "__init__" "Log.__init__" (inClass (hS 12) 0), fnD "length" "Log.length" (inClass (hS 12) 1), fnD "value" "Log.value" (inClass (hS 12) 10), fnD "majority" "majority" (hS 6), fnD "has_majority" "has_majority" (hS 7), fnD "best" "best" (hS 8), fnD "_law_stream" "_law_stream" (hS 14), fnD "_law_draw" "_law_draw" (hS 15), fnD "_law_same" "_law_same" (hS 16), fnD "_law_choice" "_law_choice" (hS 17), fnD "_law_due" "_law_due" (hS 18), fnD "_law_holds" "_law_holds" (hS 19), fnD "_law_noted" "_law_noted" (hS 20), fnD "law" "law" (hS 21)] := gy0
  unfold factsF0 at z0
  obtain ⟨hL_Election, z0⟩ := He.ba z0
  obtain ⟨hN_Election_journals, z0⟩ := He.ba z0
  obtain ⟨hN_Election__promises, z0⟩ := He.ba z0
  obtain ⟨h_Election___init__, z0⟩ := He.ba z0
  obtain ⟨h_Election_note, z0⟩ := He.ba z0
  obtain ⟨h_Election_promised, z0⟩ := He.ba z0
  obtain ⟨h_Election_decided, z0⟩ := He.ba z0
  obtain ⟨h_Election_choice, z0⟩ := He.ba z0
  obtain ⟨hL_Log, z0⟩ := He.ba z0
  obtain ⟨hN_Log_base, z0⟩ := He.ba z0
  obtain ⟨hN_Log_image, z0⟩ := He.ba z0
  obtain ⟨hN_Log_records, z0⟩ := He.ba z0
  obtain ⟨h_Log___init__, z0⟩ := He.ba z0
  obtain ⟨h_Log_length, z0⟩ := He.ba z0
  obtain ⟨h_Log_value, z0⟩ := He.ba z0
  obtain ⟨hE_TooFew, z0⟩ := He.ba z0
  obtain ⟨hE_OutOfRange, z0⟩ := He.ba z0
  obtain ⟨hNT1, z0⟩ := He.ba z0
  obtain ⟨hNT2, z0⟩ := He.ba z0
  obtain ⟨hNT3, z0⟩ := He.ba z0
  obtain ⟨hNT4, z0⟩ := He.ba z0
  obtain ⟨h_majority, z0⟩ := He.ba z0
  obtain ⟨h_has_majority, z0⟩ := He.ba z0
  obtain ⟨h_best, z0⟩ := He.ba z0
  obtain ⟨h__law_stream, z0⟩ := He.ba z0
  obtain ⟨h__law_draw, z0⟩ := He.ba z0
  obtain ⟨h__law_same, z0⟩ := He.ba z0
  obtain ⟨h__law_choice, z0⟩ := He.ba z0
  obtain ⟨h__law_due, z0⟩ := He.ba z0
  obtain ⟨h__law_holds, z0⟩ := He.ba z0
  obtain ⟨h__law_noted, z0⟩ := He.ba z0
  obtain ⟨h_law, z0⟩ := He.ba z0
  obtain ⟨hF_len, z0⟩ := He.ba z0
  obtain ⟨hF_int, z0⟩ := He.ba z0
  obtain ⟨hF_range, z0⟩ := He.ba z0
  obtain ⟨hF_max, z0⟩ := He.ba z0
  obtain ⟨hF_min, z0⟩ := He.ba z0
  obtain ⟨hF_isinstance, z0⟩ := He.ba z0
  obtain ⟨hF_bool, z0⟩ := He.ba z0
  obtain ⟨hF_tuple, z0⟩ := He.ba z0
  obtain ⟨hF_list, z0⟩ := He.ba z0
  obtain ⟨hF_str, z0⟩ := He.ba z0
  obtain ⟨hF_ValueError, z0⟩ := He.ba z0
  have h_TAB := z0
  obtain ⟨e_Election___init__, y0⟩ := List.cons.inj y0
  obtain ⟨e_Election_note, y0⟩ := List.cons.inj y0
  obtain ⟨e_Election_promised, y0⟩ := List.cons.inj y0
  obtain ⟨e_Election_decided, y0⟩ := List.cons.inj y0
  obtain ⟨e_Election_choice, y0⟩ := List.cons.inj y0
  obtain ⟨e_Log___init__, y0⟩ := List.cons.inj y0
  obtain ⟨e_Log_length, y0⟩ := List.cons.inj y0
  obtain ⟨e_Log_value, y0⟩ := List.cons.inj y0
  obtain ⟨e_majority, y0⟩ := List.cons.inj y0
  obtain ⟨e_has_majority, y0⟩ := List.cons.inj y0
  obtain ⟨e_best, y0⟩ := List.cons.inj y0
  obtain ⟨e__law_stream, y0⟩ := List.cons.inj y0
  obtain ⟨e__law_draw, y0⟩ := List.cons.inj y0
  obtain ⟨e__law_same, y0⟩ := List.cons.inj y0
  obtain ⟨e__law_choice, y0⟩ := List.cons.inj y0
  obtain ⟨e__law_due, y0⟩ := List.cons.inj y0
  obtain ⟨e__law_holds, y0⟩ := List.cons.inj y0
  obtain ⟨e__law_noted, y0⟩ := List.cons.inj y0
  obtain ⟨e_law, y0⟩ := List.cons.inj y0
  have L_Election := hf_kl KX G hL_Election
  have n_Election_journals := hf_na hN_Election_journals
  have n_Election__promises := hf_na hN_Election__promises
  obtain ⟨f_Election___init__, fd_Election___init__, D_Election___init__⟩ := hf_dm (st := s_Election___init__) (ps := ["self", "journals"]) KX h_Election___init__ e_Election___init__ (fun _ _ _ _ _ _ us hl => match us, hl with | [_, _], _ => rfl)
  obtain ⟨f_Election_note, fd_Election_note, D_Election_note⟩ := hf_dm (st := s_Election_note) (ps := ["self", "journal", "epoch", "log"]) KX h_Election_note e_Election_note (fun _ _ _ _ _ _ us hl => match us, hl with | [_, _, _, _], _ => rfl)
  obtain ⟨f_Election_promised, fd_Election_promised, D_Election_promised⟩ := hf_dm (st := s_Election_promised) (ps := ["self", "journal"]) KX h_Election_promised e_Election_promised (fun _ _ _ _ _ _ us hl => match us, hl with | [_, _], _ => rfl)
  obtain ⟨f_Election_decided, fd_Election_decided, D_Election_decided⟩ := hf_dm (st := s_Election_decided) (ps := ["self"]) KX h_Election_decided e_Election_decided (fun _ _ _ _ _ _ us hl => match us, hl with | [_], _ => rfl)
  obtain ⟨f_Election_choice, fd_Election_choice, D_Election_choice⟩ := hf_dm (st := s_Election_choice) (ps := ["self"]) KX h_Election_choice e_Election_choice (fun _ _ _ _ _ _ us hl => match us, hl with | [_], _ => rfl)
  have L_Log := hf_kl KX G hL_Log
  have n_Log_base := hf_na hN_Log_base
  have n_Log_image := hf_na hN_Log_image
  have n_Log_records := hf_na hN_Log_records
  obtain ⟨f_Log___init__, fd_Log___init__, D_Log___init__⟩ := hf_dm (st := s_Log___init__) (ps := ["self", "base", "image", "records"]) KX h_Log___init__ e_Log___init__ (fun _ _ _ _ _ _ us hl => match us, hl with | [_, _, _, _], _ => rfl)
  obtain ⟨f_Log_length, fd_Log_length, D_Log_length⟩ := hf_pr (st := s_Log_length) KX h_Log_length e_Log_length (fun _ _ _ _ _ _ us hl => match us, hl with | [_], _ => rfl)
  obtain ⟨f_Log_value, fd_Log_value, D_Log_value⟩ := hf_dm (st := s_Log_value) (ps := ["self"]) KX h_Log_value e_Log_value (fun _ _ _ _ _ _ us hl => match us, hl with | [_], _ => rfl)
  obtain ⟨E_TooFew, g_TooFew_HallError, n_TooFew⟩ := hf_err KX G hE_TooFew
  obtain ⟨E_OutOfRange, g_OutOfRange_HallError, n_OutOfRange⟩ := hf_err KX G hE_OutOfRange
  have N_TO : PySem.W.kitOne K (.ref (ga K "TooFew")) (.ref (ga K "OutOfRange")) = some false := kit_ownB hNT1 (of_decide_eq_true hNT2) (of_decide_eq_true hNT3) (fun _ => by have z := hNT4; unfold bne at z; cases e : ((Value.ref (ga K "TooFew")) == Value.ref (ga K "OutOfRange")) <;> simp [e] at z ⊢)
  obtain ⟨f_majority, fd_majority, D_majority⟩ := hf_df (st := s_majority) (ps := ["count"]) KX G h_majority e_majority (fun _ _ _ _ _ _ us hl => match us, hl with | [_], _ => rfl)
  obtain ⟨f_has_majority, fd_has_majority, D_has_majority⟩ := hf_df (st := s_has_majority) (ps := ["members", "count"]) KX G h_has_majority e_has_majority (fun _ _ _ _ _ _ us hl => match us, hl with | [_, _], _ => rfl)
  obtain ⟨f_best, fd_best, D_best⟩ := hf_df (st := s_best) (ps := ["candidates"]) KX G h_best e_best (fun _ _ _ _ _ _ us hl => match us, hl with | [_], _ => rfl)
  obtain ⟨f__law_stream, fd__law_stream, D__law_stream⟩ := hf_df (st := s__law_stream) (ps := ["script", "many"]) KX G h__law_stream e__law_stream (fun _ _ _ _ _ _ us hl => match us, hl with | [_, _], _ => rfl)
  obtain ⟨f__law_draw, fd__law_draw, D__law_draw⟩ := hf_df (st := s__law_draw) (ps := ["draws", "k"]) KX G h__law_draw e__law_draw (fun _ _ _ _ _ _ us hl => match us, hl with | [_, _], _ => rfl)
  obtain ⟨f__law_same, fd__law_same, D__law_same⟩ := hf_df (st := s__law_same) (ps := ["actual", "due"]) KX G h__law_same e__law_same (fun _ _ _ _ _ _ us hl => match us, hl with | [_, _], _ => rfl)
  obtain ⟨f__law_choice, fd__law_choice, D__law_choice⟩ := hf_df (st := s__law_choice) (ps := ["election"]) KX G h__law_choice e__law_choice (fun _ _ _ _ _ _ us hl => match us, hl with | [_], _ => rfl)
  obtain ⟨f__law_due, fd__law_due, D__law_due⟩ := hf_df (st := s__law_due) (ps := ["first", "count"]) KX G h__law_due e__law_due (fun _ _ _ _ _ _ us hl => match us, hl with | [_, _], _ => rfl)
  obtain ⟨f__law_holds, fd__law_holds, D__law_holds⟩ := hf_df (st := s__law_holds) (ps := ["election", "first", "count"]) KX G h__law_holds e__law_holds (fun _ _ _ _ _ _ us hl => match us, hl with | [_, _, _], _ => rfl)
  obtain ⟨f__law_noted, fd__law_noted, D__law_noted⟩ := hf_df (st := s__law_noted) (ps := ["election", "first", "journal", "epoch", "value"]) KX G h__law_noted e__law_noted (fun _ _ _ _ _ _ us hl => match us, hl with | [_, _, _, _, _], _ => rfl)
  obtain ⟨fd, hb, F⟩ := hf_law (st := s_law) KX G hmg h_law e_law (fun _ _ _ _ _ _ _ _ => .of_eq rfl)
  obtain ⟨cB, hcB, hCd⟩ := hf_cd KX G D_best h_best h_TAB
  exact ⟨K, fd, cB, KX, nT, hT, hCd, hb, fun base TB => ok_law F D_majority D_has_majority D_best D__law_stream D__law_draw D__law_same D__law_choice D__law_due D__law_holds D__law_noted D_Log___init__ D_Log_length D_Log_value D_Election___init__ D_Election_note D_Election_promised D_Election_decided D_Election_choice E_TooFew E_OutOfRange g_TooFew_HallError N_TO hcB TB L_Election ⟨L_Election.cl, n_Election_journals, n_Election__promises⟩ L_Log ⟨L_Log.cl, n_Log_base, n_Log_image, n_Log_records⟩ ⟨hf_free KX G hF_len, hf_free KX G hF_int, hf_free KX G hF_range, hf_free KX G hF_max, hf_free KX G hF_min, hf_free KX G hF_isinstance, hf_free KX G hF_bool, hf_free KX G hF_tuple, hf_free KX G hF_list, hf_free KX G hF_str, hf_free KX G hF_ValueError⟩⟩
end Ap
open PySem PySem.W PyProof.Rows
set_option maxHeartbeats 0 in
theorem PySem.Challenge.cw_appendhall_k48_election_keeps_first_prom_holds : PySem.Challenge.rw_appendhall_k48_election_keeps_first_prom.Holds := by
  w_on; o_law
  refine HandSHeadRun.head_any (r := OpenLaw.row PySem.Challenge.rw_appendhall_k48_election_keeps_first_prom) (q := Ap.hQ) (H := Ap.hkF Ap.asL Ap.obF0 Ap.vaF0) (ob := fun s => Ap.obF0 (He.frG (HandSHeadRun.getT s) Ap.asL)) (M := 60000) (loose := Ap.looseN) (d := HandSHeadRun.topDef (OpenLaw.row PySem.Challenge.rw_appendhall_k48_election_keeps_first_prom).prog 21) (kwd := []) Ap.hkF_eq
    (by kernel_rfl) (fun s => by kernel_rfl) Ap.runF0 (by kernel_rfl) (by kernel_rfl) (by kernel_rfl) (by rfl) (by first | assumption | decide +kernel) (by decide +kernel) ⟨rfl, rfl, rfl, rfl, rfl, by decide +kernel⟩ ?hw ?hc
  case hw => w_witness2
  case hc =>
    refine LamX.walk_ofTsE (l := PySem.Challenge.rw_appendhall_k48_election_keeps_first_prom) (n := 63) (k := 20) (x := "script") (CX := fun _ => L2.CX0) rfl (by decide) (by kernel_rfl) ⟨rfl, by decide, by decide⟩ ?F (fun _ _ _ _ _ z => z)
    intro w mg fa h Y G hmg0
    obtain ⟨K, KX, c⟩ := Y
    have hmg : mg ("law" : PySem.Str) = some (.ref fa) := by
      have e : (HandSHeadRun.topDef (OpenLaw.row PySem.Challenge.rw_appendhall_k48_election_keeps_first_prom).prog 21).name = ("law" : PySem.Str) := by kernel_rfl
      rw [← e]
      exact hmg0
    obtain ⟨K, fd, cB, KX, nT, hT, hCd, hb, hF⟩ := Ap.factsOk (P := (PySem.Challenge.rw_appendhall_k48_election_keeps_first_prom).prog) (w := w) KX G hmg c
    exact ⟨K, KX, fd, [(cB, 72)], Ap.spLawT K 72, fun p hp => by rw [List.mem_singleton.mp hp]; exact hT, fun p hp => by rw [List.mem_singleton.mp hp]; exact nT, fun p hp => by rw [List.mem_singleton.mp hp]; exact hCd, hb, fun H a ns hl _ hTT hS => ⟨a, ns, rfl, hS, hl, hTT _ (List.mem_singleton.mpr rfl), fun _ => rfl⟩, fun base _ _ hTB => hF base (hTB _ (List.mem_singleton.mpr rfl))⟩
#print axioms PySem.Challenge.cw_appendhall_k48_election_keeps_first_prom_holds
