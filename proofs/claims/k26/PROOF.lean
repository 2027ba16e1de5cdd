import PyProof.Rows.All
import Wide.All
import OpenK.AllK
import Wide.FinOn
import HandS.ForMost
import HandS.Evl
import HandS.Walk
import HandS.SortKw
import HandS.DictComp
import HandS.IsInst
import HandS.ForExc
import HandS.TupAny
import HandS.Conv
import HandS.Property
import HandS.ExcIs
import HandS.Deep
import HandS.SetBool
import HandS.SetKeys
import HandS.OwnIter
import HandS.OwnEq
import HandS.IterNext
import PyProof.InstSpecial
import KE.KOwnIter
import HandS.ClsMeth
import OpenK.KDescr
import HandS.Defaults
import OpenK.KMore
import HandS.Style
import KE.KUnpackStar
import HandS.Text
import HandS.HotCalls
import HandS.WordsDict
import KE.DataMinMax
import HandS.Wide
import PyProof.StrBlock2
import HandS.More
import PyProof.Rows.StrSplitJoin
import PyProof.Rows.StrItems
import PyProof.StrLawsChain
import HandS.Codes
import HandS.TupLe
import KE.OsRunLaw
import PySem.Challenge.RW_appendhall_k26_files_and_directories
set_option Elab.async false
set_option linter.all false
set_option maxRecDepth 100000
namespace Ap
open PySem PySem.Spec PyProof.Rows L2 Evl
section
variable {K : PySem.W.Frag} {σ : L2.St} {H H' : Hp} {ta tb tc te : TE} {t u : TT} {x y z v w : V} {r r' : R2}
theorem ev_chain {k m : Bool} (ha : Ev ta σ H x) (hb : Ev tb σ H y) (hr : RV r x y H (.bl k)) (hc : Ev tc σ H z) (hr' : RV r' y z H (.bl m)) : Ev (tChain r r' ta tb tc) σ H (.bl (k && m)) := fun H1 e Q q =>
  ha H1 e _ fun H2 e2 => hb H2 (e.trans e2) _ fun H3 e3 => hr H3 ((e.trans e2).trans e3) _ fun H4 e4 => ⟨k, rfl, by
    cases k with
    | true =>
      show tc σ H4 _
      exact hc H4 (((e.trans e2).trans e3).trans e4) _ fun H5 e5 => hr' H5 ((((e.trans e2).trans e3).trans e4).trans e5) Q fun H6 e6 => q H6 ((((e2.trans e3).trans e4).trans e5).trans e6)
    | false =>
      show Q (.bl false) H4
      exact q H4 ((e2.trans e3).trans e4)⟩
theorem rc_int {i : Int} : RC (fun xs H Q => (∃ i, xs = [.int i] ∧ Q (.int i) H) ∨ ∃ k, xs = [.bl k] ∧ Q (.int (if k then 1 else 0)) H) [.int i] H (.int i) := fun H1 _ _ q => Or.inl ⟨i, rfl, q H1 (Ex.refl H1)⟩
theorem rc_len {p : Addr} {xs : List V} (h : SqL K H p xs) : RC (fun xs H Q => ∃ p ys, xs = [.ref p] ∧ (SqL K H p ys ∨ SqT K H p ys) ∧ Q (.int ys.length) H) [.ref p] H (.int (xs.length : Int)) := fun H1 e _ q => ⟨p, xs, rfl, Or.inl (ex_l e h), q H1 (Ex.refl H1)⟩
end
section
variable {K : PySem.W.Frag} {σ : L2.St} {H H' : Hp} {ta tb tc te td ty tv : TE} {t u : TT} {x y z v w : V} {D : Ends} {tz : TS}
theorem ev_dget {a : Addr} {kvs : List (Key × V)} {k : Key} (ha : Ev td σ H (.ref a)) (hk : Ev ty σ H (kV k)) (hr : Rd H a (.dK kvs)) (hv : valV kvs k = some v) : Ev (tDGet td ty) σ H v := fun H1 e Q q =>
  ha H1 e _ fun H2 e2 => hk H2 (e.trans e2) _ fun H3 e3 => ⟨a, v, rfl, .inl ⟨kvs, k, ex_rd ((e.trans e2).trans e3) hr, rfl, hv.symm⟩, q H3 (e2.trans e3)⟩
/-- isinstance(x, T) of a plain value -/
theorem rc_isi {x : V} {T X : String} {b : Bool} (ht : ∀ H, TyX K H x (.type X)) (hb : kitB X T = some b) : RC (rIsi K) [x, .ty T] H (.bl b) := fun H1 _ _ q => ⟨x, .ty T, .type X, .type T, b, rfl, .ty T, ht H1, kit_ty hb, q H1 (Ex.refl H1)⟩
/-- within a lock, and out of it -/
theorem Ex.unlock {H H' : Hp} {d : Addr} {o : Obj} {u : HO} (hd : H d = some u) (e : Ex (upd H d (.frz o u)) H') : Ex H (upd H' d u) := fun a o' h => by
  by_cases q : a = d
  · subst q
    rw [upd_same, ← hd, h]
  · rw [upd_ne q]
    exact e a o' (by rw [upd_ne q]; exact h)
theorem q_call {sp : Sp} {dvs vs : List V} {E : XK} {ta : TA} {i : Nat} (h : EvA ta σ H vs) (k : ∀ H1, Ex H H1 → sp (vs ++ dvs) H1 (fun v H2 => tz D (σ.set i (some v)) H2) E) : tSeq (tAsg (tCall sp dvs E ta) (gName i)) tz D σ H := h H (Ex.refl H) _ fun H1 e => k H1 e
end
def Dr (ds : List Int) : Prop := ∀ d ∈ ds, 0 ≤ d ∧ d < 5040
theorem Dr.nil : Dr [] := fun _ h => nomatch h
theorem Dr.app {ds : List Int} {d : Int} (h : Dr ds) (h0 : 0 ≤ d) (h1 : d < 5040) : Dr (ds ++ [d]) := fun e he => by
  rcases List.mem_append.mp he with he | he
  · exact h e he
  · rw [List.mem_singleton.mp he]
    exact ⟨h0, h1⟩
/-- a draw: the k-th one, 0 behind the last -/
def drw (ds : List Int) (k : Nat) : Int := ds.getD k 0
def spDraw (K : PySem.W.Frag) : Sp := fun vs H Q _ => ∃ (a : Addr) (ds : List Int) (k : Nat), vs = [.ref a, .int (k : Int)] ∧ SqL K H a (ds.map V.int) ∧ RetV (.int (drw ds k)) H Q
theorem spDraw_v {K : PySem.W.Frag} {H : Hp} {a : Addr} {ds : List Int} {j : Int} {k : Nat} (h : SqL K H a (ds.map V.int)) (e : j = (k : Int)) : SpV (spDraw K) [.ref a, .int j] H (.int (drw ds k)) := fun H1 e1 Q q E =>
  ⟨a, ds, k, by rw [e], ex_l e1 h, fun H2 e2 => q H2 e2⟩
def drI (ds : List Int) (j : Int) : Int := drw ds j.toNat
theorem spDrawI {K : PySem.W.Frag} {H : Hp} {a : Addr} {ds : List Int} {j : Int} (h : SqL K H a (ds.map V.int)) (e : 0 ≤ j) : SpV (spDraw K) [.ref a, .int j] H (.int (drI ds j)) := spDraw_v h (by omega)
structure Df (K : PySem.W.Frag) (mg : Str → Option Value) (x : Str) (st : Stmt) (ps : List Str) (f : Addr) (fd : FuncData) : Prop where
  F : Fun K x x st f fd
  b : Binds K fd ps []
  g : mg x = some (.ref f)
theorem df_mk {K : PySem.W.Frag} {mg : Str → Option Value} {h : Heap} (X : K.In h) (G : h.Ns mainGlobals mg) {x : Str} {st : Stmt} {ps : List Str} {f : Addr} {oc : Value} {od an : Option Addr} {sl : Array (Option Value)} {kV dc pm cd ct : Value}
    (a : PySem.W.nsIn K mainGlobals x = some (some (.ref f))) (l : K.lookup f = some ⟨oc, od, .func (PySem.W.fnOf x x (defArgs st) (defBody st) (defScope st) .none kV dc pm an cd ct), sl⟩) (c : PySem.W.codeIn K cd x = true) (k : PySem.W.keepIn K (.ref f) = true)
    (hb : ∀ (kV doc pm : Value) (an : Option Addr) (cdv ct : Value) (us : List Value), us.length = ps.length → bindArgs (PySem.W.fnOf x x (defArgs st) (defBody st) (defScope st) .none kV doc pm an cdv ct) ⟨us, []⟩ = pure (ps.zip us)) :
    ∃ f fd, Df K mg x st ps f fd := ⟨_, _, fun_mk l c k, (fun_mk l c k).binds hb, PySem.W.mg_of X G a⟩
theorem law_mk {K : PySem.W.Frag} {mg : Str → Option Value} {h : Heap} (X : K.In h) (G : h.Ns mainGlobals mg) {st : Stmt} {fa f : Addr} {oc : Value} {od an : Option Addr} {sl : Array (Option Value)} {kV dc pm cd ct : Value} (hfa : mg "law" = some (.ref fa))
    (a : PySem.W.nsIn K mainGlobals "law" = some (some (.ref f))) (l : K.lookup f = some ⟨oc, od, .func (PySem.W.fnOf "law" "law" (defArgs st) (defBody st) (defScope st) .none kV dc pm an cd ct), sl⟩) (c : PySem.W.codeIn K cd "law" = true) (k : PySem.W.keepIn K (.ref f) = true)
    (hb : ∀ (kV doc pm : Value) (an : Option Addr) (cdv ct : Value) (s : Shared) (v : Value), BindsTo s (PySem.W.fnOf "law" "law" (defArgs st) (defBody st) (defScope st) .none kV doc pm an cdv ct) ⟨[v], []⟩ [("script", v)]) :
    ∃ fd, (∀ (s : Shared) (v : Value), BindsTo s fd ⟨[v], []⟩ [("script", v)]) ∧ Fun K "law" "law" st fa fd := by
  have e := hfa.symm.trans (PySem.W.mg_of X G a)
  cases e
  exact ⟨_, fun s v => hb kV dc pm an cd ct s v, fun_mk l c k⟩
def spLaw (K : PySem.W.Frag) : Sp := fun vs H Q _ => ∃ (a : Addr) (ns : List Int), vs = [.ref a] ∧ SqL K H a (ns.map V.int) ∧ ns.length ≤ 63 ∧ ∀ H', Q (.bl true) H'
end Ap
set_option Elab.async false
set_option linter.all false
set_option maxRecDepth 100000
namespace Ap
open PySem PySem.Spec PyProof.Rows L2 Evl
section
variable {K : PySem.W.Frag} {H H' : Hp}
mutual
theorem dp_mono (e : Ex H H') : ∀ (d : PyData) (v : V), Dp K H v d → Dp K H' v d
  | .none, _, h => by cases h; exact .non
  | .bool b, _, h => by cases h; exact .bl b
  | .int i, _, h => by cases h; exact .int i
  | .str x, _, h => by cases h; exact .str x
  | .list ds, _, h => by
    cases h with
    | lst hs ha => exact .lst (ex_l e hs) (dpa_mono e ds _ ha)
  | .tuple ds, _, h => by
    cases h with
    | tup hs ha => exact .tup (ex_t e hs) (dpa_mono e ds _ ha)
  | .dict _, _, h => by cases h
theorem dpa_mono (e : Ex H H') : ∀ (ds : List PyData) (vs : List V), DpAll K H vs ds → DpAll K H' vs ds
  | [], _, h => by cases h; exact .nil
  | d :: ds, _, h => by
    cases h with
    | cons h1 h2 => exact .cons (dp_mono e d _ h1) (dpa_mono e ds _ h2)
end
theorem dpa_len : ∀ {vs : List V} {ds : List PyData}, DpAll K H vs ds → vs.length = ds.length
  | _, _, .nil => rfl
  | _, _, .cons _ h => by rw [List.length_cons, List.length_cons, dpa_len h]
theorem dpa_at : ∀ {vs : List V} {ds : List PyData} {i : Nat} {d : PyData}, DpAll K H vs ds → ds[i]? = some d → ∃ v, vs[i]? = some v ∧ Dp K H v d
  | _, _, i, d, .nil, h => by simp at h
  | _, _, 0, d, .cons h1 _, h => ⟨_, rfl, by
    have e := Option.some.inj (show some _ = some d from h)
    rw [← e]
    exact h1⟩
  | _, _, i + 1, d, .cons _ h2, h => by
    obtain ⟨v, e, q⟩ := dpa_at (i := i) h2 (by simpa using h)
    exact ⟨v, by simpa using e, q⟩
theorem dpa_app : ∀ {vs ws : List V} {ds es : List PyData}, DpAll K H vs ds → DpAll K H ws es → DpAll K H (vs ++ ws) (ds ++ es)
  | _, _, _, _, .nil, h => h
  | _, _, _, _, .cons h1 h2, h => .cons h1 (dpa_app h2 h)
theorem dpa_one {v : V} {d : PyData} (h : Dp K H v d) : DpAll K H [v] [d] := .cons h .nil
end
/-- no dict within, no text out of range, at most n deep -/
def Sd (n : Nat) (d : PyData) : Prop := d.canLay0 = true ∧ d.depth ≤ n
def Sds (n : Nat) (ds : List PyData) : Prop := ∀ d ∈ ds, Sd n d
theorem Sd.up {n m : Nat} {d : PyData} (h : Sd n d) (l : n ≤ m) : Sd m d := ⟨h.1, Nat.le_trans h.2 l⟩
theorem Sds.drop {n : Nat} {ds : List PyData} (h : Sds n ds) (k : Nat) : Sds n (ds.drop k) := fun e he => h e (List.mem_of_mem_drop he)
theorem Sds.take {n : Nat} {ds : List PyData} (h : Sds n ds) (k : Nat) : Sds n (ds.take k) := fun e he => h e (List.mem_of_mem_take he)
def ov (H H1 H2 : Hp) : Hp := fun a => match H a with
  | some o => some o
  | none => match H1 a with
    | some _ => none
    | none => H2 a
theorem ov_ex {H H1 H2 : Hp} (e : Ex H H1) (e2 : Ex H1 H2) : Ex (ov H H1 H2) H2 := fun a o h => by
  unfold ov at h
  cases h0 : H a with
  | some o' =>
    rw [h0] at h
    rw [← h]
    exact e2 a o' (e a o' h0)
  | none =>
    rw [h0] at h
    cases h1 : H1 a with
    | some o' => rw [h1] at h; cases h
    | none => rw [h1] at h; exact h
theorem ov_base {H H1 H2 : Hp} : Ex H (ov H H1 H2) := fun a o h => by
  unfold ov
  rw [h]
theorem ov_grow {H H1 H2 H3 : Hp} (e2 : Ex H2 H3) : Ex (ov H H1 H2) (ov H H1 H3) := fun a o h => by
  unfold ov at h ⊢
  cases h0 : H a with
  | some o' => rw [h0] at h; exact h
  | none =>
    rw [h0] at h
    cases h1 : H1 a with
    | some o' => rw [h1] at h; cases h
    | none =>
      rw [h1] at h
      exact e2 a o h
theorem ov_later {H H1 H2 H3 : Hp} (e1 : Ex H1 H2) : Ex (ov H H2 H3) (ov H H1 H3) := fun a o h => by
  unfold ov at h ⊢
  cases h0 : H a with
  | some o' => rw [h0] at h; exact h
  | none =>
    rw [h0] at h
    cases h2 : H2 a with
    | some o' => rw [h2] at h; cases h
    | none =>
      rw [h2] at h
      have h1 : H1 a = none := fresh_back e1 h2
      rw [h1]
      exact h
theorem ov_new {H H1 H2 : Hp} {p : Addr} (e : Ex H H1) (e2 : Ex H1 H2) (hp : H2 p = none) {u : HO} : ov H H1 (upd H2 p u) p = some u := by
  have h1 : H1 p = none := fresh_back e2 hp
  have h0 : H p = none := fresh_back e h1
  unfold ov
  rw [h0, h1]
  exact upd_same
def EvD (K : PySem.W.Frag) (te : TE) (σ : L2.St) (H : Hp) (d : PyData) : Prop := ∀ H1, Ex H H1 → ∀ Q : VK, (∀ v H2, Ex H1 H2 → Dp K (ov H H1 H2) v d → Q v H2) → te σ H1 Q
def EvDs (K : PySem.W.Frag) (ta : TA) (σ : L2.St) (H : Hp) (ds : List PyData) : Prop := ∀ H1, Ex H H1 → ∀ Q : List V → Hp → Prop, (∀ vs H2, Ex H1 H2 → DpAll K (ov H H1 H2) vs ds → Q vs H2) → ta σ H1 Q
section
variable {K : PySem.W.Frag} {σ : L2.St} {H H' : Hp} {ta tb tc te : TE} {t u : TT} {x y z v w : V} {d e : PyData} {ds es : List PyData} {r : R2}
theorem ed_of (h : Ev te σ H v) (hd : Dp K H v d) : EvD K te σ H d := fun H1 e Q q => h H1 e Q fun H2 e2 => q v H2 e2 (dp_mono ov_base d v hd)
theorem ed_int {i : Int} (h : Ev te σ H (.int i)) : EvD K te σ H (.int i) := ed_of h (.int i)
theorem EvD.mono (e : Ex H H') (h : EvD K te σ H d) : EvD K te σ H' d := fun H1 a Q q => h H1 (e.trans a) Q fun v H2 e2 hd => q v H2 e2 (dp_mono (fun b o hb => by
  unfold ov at hb ⊢
  cases h0 : H b with
  | some o' => rw [h0] at hb; rw [e b o' h0]; exact hb
  | none =>
    rw [h0] at hb
    cases h1 : H1 b with
    | some o' => rw [h1] at hb; cases hb
    | none =>
      rw [h1] at hb
      rw [fresh_back a h1]
      exact hb) d v hd)
theorem eds_nil : EvDs K tNil σ H [] := fun H1 _ _ q => q [] H1 (Ex.refl H1) .nil
theorem eds_cons {tr : TA} (h : EvD K te σ H d) (hr : EvDs K tr σ H ds) : EvDs K (tCons te tr) σ H (d :: ds) := fun H1 e Q q =>
  h H1 e _ fun v H2 e2 hv => hr H2 (e.trans e2) _ fun vs H3 e3 hs => q _ H3 (e2.trans e3) (.cons (dp_mono (ov_grow e3) d v hv) (dpa_mono (ov_later e2) ds vs hs))
theorem ed_tup {ta : TA} (h : EvDs K ta σ H ds) (hl : ds.length ≤ 100000) : EvD K (tTup ta) σ H (.tuple ds) := fun H1 e Q q =>
  h H1 e _ fun vs H2 e2 hs => ⟨by rw [dpa_len hs]; exact sz_of hl, fun p hp => q _ _ (e2.trans (Ex.new hp)) (.tup (st_of (ov_new e e2 hp)) (dpa_mono (ov_grow (Ex.new hp)) ds vs hs))⟩
theorem atI_len {α β : Type} {xs : List α} {ys : List β} (h : xs.length = ys.length) {i : Int} {y : β} (hy : atI ys i = some y) : ∃ j : Nat, ys[j]? = some y ∧ ∀ x, xs[j]? = some x → atI xs i = some x := by
  unfold atI at hy ⊢
  cases e : ixN ys.length i with
  | none => rw [e] at hy; cases hy
  | some j =>
    rw [e] at hy
    refine ⟨j, hy, fun x hx => ?_⟩
    rw [h, e]
    exact hx
variable {D : Ends} {tz : TS} {i : Nat}
theorem et_nil : EvT tYes σ H true := fun H1 _ _ q => q H1 (Ex.refl H1)
end
end Ap
set_option Elab.async false
set_option linter.all false
set_option maxRecDepth 100000
namespace Ap
open PySem PySem.Spec PyProof.Rows L2 Evl
def tMX (C : Addr) (m : Str) (sp : Sp) (E : L2.St → XK) (ta : TE) (t : TA) : TE := fun σ H Q => ta σ H fun x G => ∃ a dx fs, x = .ref a ∧ G a = some (.ins C dx fs) ∧ fs.lookup m = none ∧ t σ G fun vs G2 => sp (x :: vs) G2 Q (E σ)
theorem pe_mx {X : Cx} {CX : CXT} {k : Nat} {f C : Addr} {fd : FuncData} {ps : List Str} {sp : Sp} {E : L2.St → XK} {m : Str} {pos apos : Pos} {e o : Expr} {es : List Expr} {ta : TE} {t : TA} {pl : Sem Bool}
    (he : PE X o ta) (c : Cls X.K C) (hm : Meth X.K C m f) (F : FnOk X.prog X.w X.K X.mg X.base CX k f fd ps sp) (hr : Room k X.A) (hb : Binds X.K fd ps []) (hx : ∀ σ, PassesAt CX X σ (E σ)) (ha : PA X (e :: es) t)
    (z1 : starEach (e :: es) X.env = (false, eval e X.env) :: starEach es X.env := by rfl) (z2 : (backTo pos (starEach es X.env)).any (·.1) = false := by rfl)
    (z3 : eval (.Call (.Attribute o m apos) (e :: es) [] pos) X.env = (do { let ov ← eval o X.env; standAt apos.atName; let (f, first) ← holding [ov] (getMethod ov m pl); callWith pos f first (backTo pos (starEach (e :: es) X.env)) (backToKw pos (keywordEach [] X.env)) }) := by rfl) :
    PE X (.Call (.Attribute o m apos) (e :: es) [] pos) (tMX C m sp E ta t) := ⟨fun pins s σ H Q I h => PySem.W.methodCall_KW (pl := pl) (thn (he.run pins s σ H _ I h) fun u s1 hh => by
  obtain ⟨x, G, J, rx, a, dx, fs, ex, ea, l, q⟩ := hh
  subst ex
  cases (show u = Value.ref a from rx)
  exact getmeth_ok J ea c hm l (PySem.W.callWith_K (first := [.ref a]) (h₀ := X.base) I.ok.mod.kin hm.kp (thn (ha.run pos pins s1 σ G _ J q) fun us s2 ⟨vs, G2, J2, r, q2⟩ => ⟨J2.kIn, run_fnS (us := .ref a :: us) (vs := .ref a :: vs) F hr hb (hx σ) J2 (.cons rfl r) q2⟩) z1 z2)) z3⟩
/-- a block under a proposition -/
theorem pss_guard {X : Cx} {b : List Stmt} {t : TS} {p : Prop} (h : p → PSs X b t) : PSs X b (fun D σ H => p ∧ t D σ H) := ⟨fun pins s σ H D I q => (h q.1).run pins s σ H D I q.2⟩
/-- try: .. except X as n: suite, the errors of the body of one own class without fields -/
theorem ps_try_own {X : Cx} {C : Addr} {x n : Str} {c : Value} {i : Nat} {body suite : List Stmt} {b₀ : Stmt} {np pos pos' : Pos} {tb : WX → TS} {ts : Addr → TS} {Wout : WX} (hs : X.stack = X.env :: X.outer) (hf : X.env.frame = some X.env.locals) (hN : X.N.Nodup) (hi : X.N[i]? = some n) (hln : X.env.kindOf n = some .local) (hc : Names X x c) (tk : Takes X Wout)
    (hb : ∀ (W : WX) (pn : List (Addr × Obj)) (xe : Value → Shared → Prop), Takes (X.tr pn xe) W → PSs (X.tr pn xe) body (tb W))
    (hsu : ∀ (a : Addr) (oe : Obj) (pn : List (Addr × Obj)), Zc (.ref C) none oe → (∃ vs, oe.data = .fields vs) → PSs (X.suite a ((a, oe) :: pn)) (b₀ :: suite) (ts a)) :
    PS X (.Try body [.ExceptHandler (some (.Name x np)) (some n) (b₀ :: suite) pos'] [] [] pos) (fun D σ H => tb (wAs X.K c i (fun a cls d D σ H => (cls = .ref C ∧ d = none) ∧ ts a D σ H) Wout D) D σ H) :=
  ps_try_as hs hf hN hi hln hc tk (fun W pn xe tk' _ => hb W pn xe tk') (fun a oe cls d pn hz hf => pss_guard fun h => by
    obtain ⟨h1, h2⟩ := h
    subst h1
    subst h2
    exact hsu a oe pn hz hf)
/-- an own error class C over ValueError (through B), as the top left it -/
structure Err (K : PySem.W.Frag) (mg : Str → Option Value) (x : Str) (C B : Addr) : Prop where
  g : mg x = some (.ref C)
  kp : PySem.W.keepIn K (.ref C) = true
  ex : PySem.W.excIn K C [.type "ValueError", .type "Exception", .type "BaseException", .type "object"] "ValueError.__new__" = true
  bs : PySem.W.subIn K (.ref C) (.type "BaseException") = some true
  ty : PySem.W.typeIn K (.ref C) = some (.type "type")
  me : PySem.W.exmOne K (.ref C) (.ref C) = some true
  ec : ExcC K C
  k1 : PySem.W.kitOne K (.ref C) (.ref B) = some true
  k2 : PySem.W.kitOne K (.ref C) (.type "ValueError") = some true
theorem Err.mk' {X : Cx} {x m : Str} {C B : Addr} {j : Nat} {p p2 pos : Pos} (T : Err X.K X.mg x C B) (hg : Gl X x) (hdb : (x == ("__debug__" : Str)) = false := by decide) : PMk X (.Call (.Name x p) [.Constant (.str m) j p2] [] pos) (fun _ H Q => Q (.ref C) none H) :=
  pmk_own PySem.F.excBase_ValueError T.ex T.g T.kp (raises_own T.bs T.ty) hg hdb
/-- isinstance(e, T), e the error in hand -/
theorem ev_isE {K : PySem.W.Frag} {σ : L2.St} {H : Hp} {tx : TE} {D a : Addr} {i : Nat} {c : V} {cv : Value} {b : Bool} (h : σ[i]? = some (some (.ref a))) (hx : Ev tx σ H c) (hc : ∀ u, RelV c u → u = cv) (k : PySem.W.kitOne K (.ref D) cv = some b) : Ev (tCB (rIsE K D a) (tCons (tVar i) (tCons tx tNil))) σ H (.bl b) :=
  ev_cb (ea_cons (ev_var h) (ea_cons hx ea_nil)) fun H1 _ Q q => ⟨c, cv, b, rfl, hc, k, q H1 (Ex.refl H1)⟩
structure Dm (K : PySem.W.Frag) (C : Addr) (x qual : Str) (st : Stmt) (ps : List Str) (f : Addr) (fd : FuncData) : Prop where
  F : Fun K x qual st f fd
  b : Binds K fd ps []
  m : Meth K C x f
theorem dm_mk {K : PySem.W.Frag} {h : Heap} (X : K.In h) {C : Addr} {x qual : Str} {st : Stmt} {ps : List Str} {f : Addr} {oc : Value} {od an : Option Addr} {sl : Array (Option Value)} {kV dc pm cd ct : Value}
    (a : PySem.W.findIn K (.ref C) x = some (some (.ref f))) (i : PySem.W.isFn K (.ref f) = true) (l : K.lookup f = some ⟨oc, od, .func (PySem.W.fnOf x qual (defArgs st) (defBody st) (defScope st) .none kV dc pm an cd ct), sl⟩) (c : PySem.W.codeIn K cd qual = true) (k : PySem.W.keepIn K (.ref f) = true)
    (hb : ∀ (kV doc pm : Value) (an : Option Addr) (cdv ct : Value) (us : List Value), us.length = ps.length → bindArgs (PySem.W.fnOf x qual (defArgs st) (defBody st) (defScope st) .none kV doc pm an cdv ct) ⟨us, []⟩ = pure (ps.zip us)) :
    ∃ f fd, Dm K C x qual st ps f fd := ⟨_, _, fun_mk l c k, (fun_mk l c k).binds hb, ⟨a, i, k⟩⟩
/-- a class of the text with an __init__ -/
structure Kl (K : PySem.W.Frag) (mg : Str → Option Value) (x : Str) (C : Addr) : Prop where
  cl : Cls K C
  g : mg x = some (.ref C)
  makes : PySem.W.makesIn K C = true
  kp : PySem.W.keepIn K (.ref C) = true
theorem Kl.make {K : PySem.W.Frag} {mg : Str → Option Value} {x : Str} {C f : Addr} {q : Str} {st : Stmt} {ps : List Str} {fd : FuncData} (L : Kl K mg x C) (D : Dm K C "__init__" q st ps f fd) : Mk K C f := ⟨L.makes, D.m.at_, D.m.fn, L.kp⟩
theorem kl_mk {K : PySem.W.Frag} {h : Heap} {mg : Str → Option Value} {x : Str} {C : Addr} (X : K.In h) (G : h.Ns mainGlobals mg) (a : PySem.W.nsIn K mainGlobals x = some (some (.ref C))) (pg : PySem.W.plainGet K C Str.empty = true) (hd : PySem.W.hasDictIn K C = true) (po : PySem.W.plainOver K C = true)
    (sa : PySem.W.findIn K (.ref C) "__setattr__" = some (some (.builtin "object.__setattr__"))) (mk : PySem.W.makesIn K C = true) (kp : PySem.W.keepIn K (.ref C) = true) : Kl K mg x C := ⟨⟨pg, hd, po, sa⟩, PySem.W.mg_of X G a, mk, kp⟩
theorem na_mk {K : PySem.W.Frag} {h : Heap} {C : Addr} {f : Str} (X : K.In h) (a : PySem.W.findIn K (.ref C) f = some none) : NoAttr K C f := a
/-- a property of an own class: its getter -/
structure Pr (K : PySem.W.Frag) (C : Addr) (x qual : Str) (st : Stmt) (f : Addr) (fd : FuncData) : Prop where
  F : Fun K x qual st f fd
  b : Binds K fd ["self"] []
  p : ∃ p, PropOf K C x p f
theorem pr_mk {K : PySem.W.Frag} {h : Heap} (X : K.In h) {C : Addr} {x qual : Str} {st : Stmt} {f p : Addr} {rest : List Value} {oc : Value} {od an : Option Addr} {sl : Array (Option Value)} {kV dc pm cd ct : Value}
    (a : PySem.W.findIn K (.ref C) x = some (some (.ref p))) (g : PySem.W.specialIn K (.ref p) "__get__" = some (some (.builtin "property.__get__"))) (t : PySem.W.takesIn K (.ref p) = some true) (r : PySem.W.recIn K p "property" = some (.ref f :: rest))
    (l : K.lookup f = some ⟨oc, od, .func (PySem.W.fnOf x qual (defArgs st) (defBody st) (defScope st) .none kV dc pm an cd ct), sl⟩) (c : PySem.W.codeIn K cd qual = true) (k : PySem.W.keepIn K (.ref f) = true)
    (hb : ∀ (kV doc pm : Value) (an : Option Addr) (cdv ct : Value) (us : List Value), us.length = (["self"] : List Str).length → bindArgs (PySem.W.fnOf x qual (defArgs st) (defBody st) (defScope st) .none kV doc pm an cdv ct) ⟨us, []⟩ = pure ((["self"] : List Str).zip us)) :
    ∃ f fd, Pr K C x qual st f fd := ⟨_, _, fun_mk l c k, (fun_mk l c k).binds hb, p, ⟨a, g, t, rest, r⟩⟩
theorem pe_pr {X : Cx} {CX : CXT} {k : Nat} {C g : Addr} {f : Str} {fd : FuncData} {sp : Sp} {E : XK} {e : Expr} {pos : Pos} {ta : TE} {q : Str} {st : Stmt} (he : PE X e ta) (c : Cls X.K C) (hp : Pr X.K C f q st g fd) (F : FnOk X.prog X.w X.K X.mg X.base CX k g fd ["self"] sp) (hr : Room (k + 1) X.A) (hx : Passes CX X.nox E)
    (hab : attributeBase e f X.env (eval e X.env) = eval e X.env) : PE X (.Attribute e f pos) (tProp C sp [] E ta) := by
  obtain ⟨p, hp'⟩ := hp.p
  exact pe_prop he c hp' F hr hp.b .nil hx hab
section
variable {K : PySem.W.Frag} {σ : L2.St} {H H' : Hp} {ta tb te : TE} {ds es : List PyData}
theorem rc_max2 {i j : Int} : RC (fun xs H Q => ∃ i j, xs = [.int i, .int j] ∧ Q (.int (if j > i then j else i)) H) [.int i, .int j] H (.int (if j > i then j else i)) := fun H1 _ Q q => ⟨i, j, rfl, q H1 (Ex.refl H1)⟩
theorem rc_min2 {i j : Int} : RC (fun xs H Q => ∃ i j, xs = [.int i, .int j] ∧ Q (.int (if j < i then j else i)) H) [.int i, .int j] H (.int (if j < i then j else i)) := fun H1 _ Q q => ⟨i, j, rfl, q H1 (Ex.refl H1)⟩
end
theorem kit_own {K : PySem.W.Frag} {t : Value} {B : Addr} (hd : PySem.W.hasDictIn K B = true) (ht : PySem.W.typeIn K (.ref B) = some (.type "type")) (hs : PySem.W.subIn K t (.ref B) = some true) : PySem.W.kitOne K t (.ref B) = some true := by
  obtain ⟨cd, hc, _⟩ := PySem.W.any_some hd
  unfold PySem.W.kitOne
  split
  · rfl
  · show (if ((PySem.W.clsIn K B).isSome && PySem.W.typeIn K (.ref B) == some (.type "type")) = true then PySem.W.subIn K t (.ref B) else none) = some true
    rw [hc, ht, if_pos (by rfl)]
    exact hs
theorem kit_blt {K : PySem.W.Frag} {t : Value} {n : String} (hm : PySem.W.kitMeta n = true) (hs : PySem.W.subIn K t (.type n) = some true) : PySem.W.kitOne K t (.type n) = some true := by
  unfold PySem.W.kitOne
  split
  · rfl
  · show (if PySem.W.kitMeta n = true then PySem.W.subIn K t (.type n) else none) = some true
    rw [if_pos hm]
    exact hs
theorem err_mk {K : PySem.W.Frag} {h : Heap} {mg : Str → Option Value} {x y : Str} {C B : Addr} (X : K.In h) (G : h.Ns mainGlobals mg) (a : PySem.W.nsIn K mainGlobals x = some (some (.ref C))) (b : PySem.W.nsIn K mainGlobals y = some (some (.ref B))) (kp : PySem.W.keepIn K (.ref C) = true)
    (ex : PySem.W.excIn K C [.type "ValueError", .type "Exception", .type "BaseException", .type "object"] "ValueError.__new__" = true) (bs : PySem.W.subIn K (.ref C) (.type "BaseException") = some true) (ty : PySem.W.typeIn K (.ref C) = some (.type "type")) (ss : PySem.W.subIn K (.ref C) (.ref C) = some true)
    (hg : PySem.W.findIn K (.ref C) "__getattribute__" = some (some (.builtin "BaseException.__getattribute__"))) (hk : PySem.W.findIn K (.ref C) "__getattr__" = some none) (hd : PySem.W.hasDictIn K C = true) (ha : PySem.W.findIn K (.ref C) "__class__" = some (some (.builtin "object.__class__")))
    (hn : PySem.W.specialIn K (.builtin "object.__class__") "__get__" = some (some (.builtin "getset_descriptor.__get__"))) (ht : PySem.W.takesIn K (.builtin "object.__class__") = some true) (hm : PySem.W.mroIn K C (.type "object") = some true)
    (dB : PySem.W.hasDictIn K B = true) (tB : PySem.W.typeIn K (.ref B) = some (.type "type")) (sb : PySem.W.subIn K (.ref C) (.ref B) = some true) (sv : PySem.W.subIn K (.ref C) (.type "ValueError") = some true) : Err K mg x C B ∧ mg y = some (.ref B) :=
  ⟨⟨PySem.W.mg_of X G a, kp, ex, bs, ty, PySem.W.exm_ref bs hd ty ss, ⟨hg, hk, bs, hd, ha, hn, ht, hm⟩, kit_own dB tB sb, kit_blt (by decide +kernel) sv⟩, PySem.W.mg_of X G b⟩
end Ap
set_option Elab.async false
set_option linter.all false
set_option maxRecDepth 100000
namespace Ap
open PySem PySem.Spec PyProof.Rows L2 Evl
mutual
inductive Dx (K : PySem.W.Frag) (H : Hp) : V → PyData → Prop
  | non : Dx K H .non .none
  | bl (b : Bool) : Dx K H (.bl b) (.bool b)
  | int (i : Int) : Dx K H (.int i) (.int i)
  | str (x : Str) : Dx K H (.str x) (.str x)
  | lst {a : Addr} {xs : List V} {ds : List PyData} : SqL K H a xs → DxAll K H xs ds → Dx K H (.ref a) (.list ds)
  | tup {a : Addr} {xs : List V} {ds : List PyData} : SqT K H a xs → DxAll K H xs ds → Dx K H (.ref a) (.tuple ds)
  | dic {a : Addr} {kvs : List (Key × V)} : H a = some (.dK kvs) → Dx K H (.ref a) (.dict [])
inductive DxAll (K : PySem.W.Frag) (H : Hp) : List V → List PyData → Prop
  | nil : DxAll K H [] []
  | cons {v : V} {vs : List V} {d : PyData} {ds : List PyData} : Dx K H v d → DxAll K H vs ds → DxAll K H (v :: vs) (d :: ds)
end
section
variable {K : PySem.W.Frag} {H H' : Hp}
mutual
theorem dx_mono (e : Ex H H') : ∀ (d : PyData) (v : V), Dx K H v d → Dx K H' v d
  | .none, _, h => by cases h; exact .non
  | .bool b, _, h => by cases h; exact .bl b
  | .int i, _, h => by cases h; exact .int i
  | .str x, _, h => by cases h; exact .str x
  | .list ds, _, h => by
    cases h with
    | lst hs ha => exact .lst (Evl.ex_l e hs) (dxa_mono e ds _ ha)
  | .tuple ds, _, h => by
    cases h with
    | tup hs ha => exact .tup (ex_t e hs) (dxa_mono e ds _ ha)
  | .dict _, _, h => by
    cases h with
    | dic h => exact .dic (e _ _ h)
theorem dxa_mono (e : Ex H H') : ∀ (ds : List PyData) (vs : List V), DxAll K H vs ds → DxAll K H' vs ds
  | [], _, h => by cases h; exact .nil
  | d :: ds, _, h => by
    cases h with
    | cons h1 h2 => exact .cons (dx_mono e d _ h1) (dxa_mono e ds _ h2)
end
theorem dxa_len : ∀ {vs : List V} {ds : List PyData}, DxAll K H vs ds → vs.length = ds.length
  | _, _, .nil => rfl
  | _, _, .cons _ h => by rw [List.length_cons, List.length_cons, dxa_len h]
theorem dxa_at : ∀ {vs : List V} {ds : List PyData} {i : Nat} {d : PyData}, DxAll K H vs ds → ds[i]? = some d → ∃ v, vs[i]? = some v ∧ Dx K H v d
  | _, _, i, d, .nil, h => by simp at h
  | _, _, 0, d, .cons h1 _, h => ⟨_, rfl, by
    have e := Option.some.inj (show some _ = some d from h)
    rw [← e]
    exact h1⟩
  | _, _, i + 1, d, .cons _ h2, h => by
    obtain ⟨v, e, q⟩ := dxa_at (i := i) h2 (by simpa using h)
    exact ⟨v, by simpa using e, q⟩
end
def EvX (K : PySem.W.Frag) (te : TE) (σ : L2.St) (H : Hp) (d : PyData) : Prop := ∀ H1, Ex H H1 → ∀ Q : VK, (∀ v H2, Ex H1 H2 → Dx K (ov H H1 H2) v d → Q v H2) → te σ H1 Q
def EvXs (K : PySem.W.Frag) (ta : TA) (σ : L2.St) (H : Hp) (ds : List PyData) : Prop := ∀ H1, Ex H H1 → ∀ Q : List V → Hp → Prop, (∀ vs H2, Ex H1 H2 → DxAll K (ov H H1 H2) vs ds → Q vs H2) → ta σ H1 Q
section
variable {K : PySem.W.Frag} {σ : L2.St} {H H' : Hp} {ta tb tc te : TE} {t u : TT} {x y z v w : V} {d e : PyData} {ds es : List PyData} {r : R2}
theorem ex_of (h : Ev te σ H v) (hd : Dx K H v d) : EvX K te σ H d := fun H1 e Q q => h H1 e Q fun H2 e2 => q v H2 e2 (dx_mono ov_base d v hd)
theorem ex_var {i : Nat} (h : σ[i]? = some (some v)) (hd : Dx K H v d) : EvX K (tVar i) σ H d := ex_of (ev_var h) hd
theorem EvX.mono (e : Ex H H') (h : EvX K te σ H d) : EvX K te σ H' d := fun H1 a Q q => h H1 (e.trans a) Q fun v H2 e2 hd => q v H2 e2 (dx_mono (fun b o hb => by
  unfold ov at hb ⊢
  cases h0 : H b with
  | some o' => rw [h0] at hb; rw [e b o' h0]; exact hb
  | none =>
    rw [h0] at hb
    cases h1 : H1 b with
    | some o' => rw [h1] at hb; cases hb
    | none =>
      rw [h1] at hb
      rw [fresh_back a h1]
      exact hb) d v hd)
theorem exs_nil : EvXs K tNil σ H [] := fun H1 _ _ q => q [] H1 (Ex.refl H1) .nil
theorem exs_cons {tr : TA} (h : EvX K te σ H d) (hr : EvXs K tr σ H ds) : EvXs K (tCons te tr) σ H (d :: ds) := fun H1 e Q q =>
  h H1 e _ fun v H2 e2 hv => hr H2 (e.trans e2) _ fun vs H3 e3 hs => q _ H3 (e2.trans e3) (.cons (dx_mono (ov_grow e3) d v hv) (dxa_mono (ov_later e2) ds vs hs))
theorem ex_ixT {i : Int} (ha : EvX K ta σ H (.tuple ds)) (hb : Ev tb σ H (.int i)) (h : atI ds i = some d) : EvX K (tOp (rIxT K) ta tb) σ H d := fun H1 e Q q =>
  ha H1 e _ fun v H2 e2 hv => hb H2 (e.trans e2) _ fun H3 e3 => by
    cases hv with
    | tup hs hd =>
      obtain ⟨j, hj, hx⟩ := atI_len (dxa_len hd) h
      obtain ⟨x, ex, dx⟩ := dxa_at hd hj
      exact ⟨_, _, i, x, rfl, rfl, ex_t ((ov_ex e e2).trans e3) hs, hx x ex, q x H3 (e2.trans e3) (dx_mono (ov_grow e3) d x dx)⟩
theorem ev_lenXT (ha : EvX K ta σ H (.tuple ds)) : Ev (tCB (fun xs H Q => ∃ p ys, xs = [.ref p] ∧ (SqL K H p ys ∨ SqT K H p ys) ∧ Q (.int ys.length) H) (tCons ta tNil)) σ H (.int (ds.length : Int)) := fun H1 e Q q =>
  ha H1 e _ fun v H2 e2 hv => by
    cases hv with
    | @tup a xs _ hs hd => exact ⟨a, xs, rfl, .inr (ex_t (ov_ex e e2) hs), by rw [dxa_len hd]; exact q H2 e2⟩
variable {D : Ends} {tz : TS} {i : Nat}
end
end Ap
set_option Elab.async false
set_option linter.all false
set_option maxRecDepth 100000
set_option maxHeartbeats 2000000
set_option Elab.async false
set_option linter.all false
set_option maxRecDepth 100000
set_option maxHeartbeats 2000000
set_option Elab.async false
set_option linter.all false
set_option maxRecDepth 100000
namespace Ap
open PySem PySem.Spec PyProof.Rows L2 Evl
def tyN : PyData → String
  | .none => "NoneType"
  | .bool _ => "bool"
  | .int _ => "int"
  | .str _ => "str"
  | .list _ => "list"
  | .tuple _ => "tuple"
  | .dict _ => "dict"
theorem tyx_dx {K : PySem.W.Frag} {H : Hp} : ∀ {d : PyData} {v : V}, Dx K H v d → TyX K H v (.type (tyN d))
  | _, _, .non => .base .non
  | _, _, .bl b => .base (.bl b)
  | _, _, .int i => .base (.int i)
  | _, _, .str x => .base (.str x)
  | _, _, .lst hs _ => by
    rcases hs with (h | ⟨o, h⟩) | ⟨o, its, n, h, hc, _⟩
    · exact .base (.lst h)
    · exact .base (.frz h)
    · exact .kList h hc
  | _, _, .tup hs _ => by
    rcases hs with (h | ⟨o, h⟩) | ⟨o, its, n, h, hc, _⟩
    · exact .base (.tup h)
    · exact .fTuple h
    · exact .kTuple h hc
  | _, _, .dic h => .base (.dK h)
def isInt : PyData → Bool
  | .int _ => true
  | .bool _ => true
  | _ => false
def isBoo : PyData → Bool
  | .bool _ => true
  | _ => false
def isStr : PyData → Bool
  | .str _ => true
  | _ => false
def isTup : PyData → Bool
  | .tuple _ => true
  | _ => false
theorem kit_int : ∀ d : PyData, kitB (tyN d) "int" = some (isInt d)
  | .none => (by decide +kernel : kitB "NoneType" "int" = some false)
  | .bool _ => (by decide +kernel : kitB "bool" "int" = some true)
  | .int _ => (by decide +kernel : kitB "int" "int" = some true)
  | .str _ => (by decide +kernel : kitB "str" "int" = some false)
  | .list _ => (by decide +kernel : kitB "list" "int" = some false)
  | .tuple _ => (by decide +kernel : kitB "tuple" "int" = some false)
  | .dict _ => (by decide +kernel : kitB "dict" "int" = some false)
theorem kit_bool : ∀ d : PyData, kitB (tyN d) "bool" = some (isBoo d)
  | .none => (by decide +kernel : kitB "NoneType" "bool" = some false)
  | .bool _ => (by decide +kernel : kitB "bool" "bool" = some true)
  | .int _ => (by decide +kernel : kitB "int" "bool" = some false)
  | .str _ => (by decide +kernel : kitB "str" "bool" = some false)
  | .list _ => (by decide +kernel : kitB "list" "bool" = some false)
  | .tuple _ => (by decide +kernel : kitB "tuple" "bool" = some false)
  | .dict _ => (by decide +kernel : kitB "dict" "bool" = some false)
theorem kit_str : ∀ d : PyData, kitB (tyN d) "str" = some (isStr d)
  | .none => (by decide +kernel : kitB "NoneType" "str" = some false)
  | .bool _ => (by decide +kernel : kitB "bool" "str" = some false)
  | .int _ => (by decide +kernel : kitB "int" "str" = some false)
  | .str _ => (by decide +kernel : kitB "str" "str" = some true)
  | .list _ => (by decide +kernel : kitB "list" "str" = some false)
  | .tuple _ => (by decide +kernel : kitB "tuple" "str" = some false)
  | .dict _ => (by decide +kernel : kitB "dict" "str" = some false)
theorem kit_tup : ∀ d : PyData, kitB (tyN d) "tuple" = some (isTup d)
  | .none => (by decide +kernel : kitB "NoneType" "tuple" = some false)
  | .bool _ => (by decide +kernel : kitB "bool" "tuple" = some false)
  | .int _ => (by decide +kernel : kitB "int" "tuple" = some false)
  | .str _ => (by decide +kernel : kitB "str" "tuple" = some false)
  | .list _ => (by decide +kernel : kitB "list" "tuple" = some false)
  | .tuple _ => (by decide +kernel : kitB "tuple" "tuple" = some true)
  | .dict _ => (by decide +kernel : kitB "dict" "tuple" = some false)
section
variable {K : PySem.W.Frag} {σ : L2.St} {H : Hp} {te : TE} {d : PyData} {T : String} {b : Bool}
theorem ev_isiX (h : EvX K te σ H d) (k : kitB (tyN d) T = some b) : Ev (tCB (rIsi K) (tCons te (tCons (tC (.ty T)) tNil))) σ H (.bl b) := fun H1 e Q q => h H1 e _ fun v H2 e2 hv =>
  ⟨v, .ty T, .type (tyN d), .type T, b, rfl, .ty T, tyx_dx (dx_mono (ov_ex e e2) d v hv), kit_ty k, q H2 e2⟩
end
/-- bounded: texts, lists and tuples of at most 1000, at most n deep -/
inductive Okd : Nat → PyData → Prop
  | non {n : Nat} : Okd n .none
  | bl {n : Nat} (b : Bool) : Okd n (.bool b)
  | int {n : Nat} (i : Int) : Okd n (.int i)
  | str {n : Nat} {x : Str} (h : x.length ≤ 1000) : Okd n (.str x)
  | dic {n : Nat} {kvs : List (PyData × PyData)} : Okd n (.dict kvs)
  | lst {n : Nat} {ds : List PyData} (h : ds.length ≤ 1000) (hs : ∀ d, d ∈ ds → Okd n d) : Okd (n + 1) (.list ds)
  | tup {n : Nat} {ds : List PyData} (h : ds.length ≤ 1000) (hs : ∀ d, d ∈ ds → Okd n d) : Okd (n + 1) (.tuple ds)
  | lsa {n : Nat} {ds : List PyData} (h : ds.length ≤ 1000) : Okd n (.list ds)
def chOk (c : Nat) : Bool := (decide ((32 : Int) ≤ (c : Int)) && decide ((c : Int) ≤ 126)) && !decide (V.int (c : Int) = V.int 37)
section
variable {K : PySem.W.Frag} {σ : L2.St} {H : Hp} {te tl : TE} {t : TT}
theorem rc_lenS {z : Str} (h : z.length ≤ 100000) : RC (fun xs H Q => ∃ z, xs = [.str z] ∧ z.length ≤ sizeLine ∧ Q (.int z.length) H) [.str z] H (.int (z.length : Int)) := fun H1 _ Q q => ⟨z, rfl, sz_of h, q H1 (Ex.refl H1)⟩
end
section
variable {K : PySem.W.Frag} {σ : L2.St} {H : Hp} {te tl : TE} {t : TT}
theorem fn_false {P : Program} {w : World} {K : PySem.W.Frag} {mg : Str → Option Value} {base : Heap} {CX : CXT} {k : Nat} {f : Addr} {fd : FuncData} {ps : List Str} : FnOk P w K mg base CX k f fd ps (fun _ _ _ _ => False) := ⟨fun _ _ _ _ h => h.elim, fun _ _ _ _ _ _ _ _ _ _ _ _ _ h => h.elim⟩
end
end Ap
set_option Elab.async false
set_option linter.all false
set_option maxRecDepth 100000
namespace Ap
open PySem PySem.Spec PyProof.Rows L2 Evl ClX
theorem Okd.mono {n m : Nat} {d : PyData} (h : Okd n d) : n ≤ m → Okd m d := by
  induction h generalizing m with
  | non => exact fun _ => .non
  | bl b => exact fun _ => .bl b
  | int i => exact fun _ => .int i
  | str h => exact fun _ => .str h
  | dic => exact fun _ => .dic
  | lst h hs ih =>
    intro hl
    obtain ⟨k, rfl⟩ : ∃ k, m = k + 1 := ⟨m - 1, by omega⟩
    exact .lst h fun d hd => ih d hd (by omega)
  | tup h hs ih =>
    intro hl
    obtain ⟨k, rfl⟩ : ∃ k, m = k + 1 := ⟨m - 1, by omega⟩
    exact .tup h fun d hd => ih d hd (by omega)
  | lsa h => exact fun _ => .lsa h
theorem op_mulS {X : Cx} : OpR X (binaryOp .Mult) (fun x y H Q => ∃ (z : Str) (n : Int), x = .str z ∧ y = .int n ∧ PySem.MulOk z n ∧ Q (.str (Txt.mul z n)) H) := by
  intro pins s σ H x y v u Q I rx ry h
  obtain ⟨z, n, rfl, rfl, hok, q⟩ := h
  obtain ⟨t, rfl⟩ := rx
  obtain ⟨t2, rfl⟩ := ry
  exact PySem.SB.mul hok fun t' k => ⟨.str (Txt.mul z n), H, I.tok _, ⟨t', rfl⟩, q⟩
end Ap
set_option Elab.async false
set_option linter.all false
set_option maxRecDepth 100000
set_option Elab.async false
set_option linter.all false
set_option maxRecDepth 100000
set_option Elab.async false
set_option linter.all false
set_option maxRecDepth 100000
set_option Elab.async false
set_option linter.all false
set_option maxRecDepth 100000
set_option maxHeartbeats 2000000
set_option Elab.async false
set_option linter.all false
set_option maxRecDepth 100000
namespace Ap
open PySem PySem.Spec PyProof.Rows L2 Evl
/-- what such a def promises: a is where the exception stands, D its class -/
structure FnE (P : Program) (w : World) (K : PySem.W.Frag) (mg : Str → Option Value) (base : Heap) (D : Addr) (k : Nat) (f : Addr) (fd : FuncData) (ps : List Str) (sp : Addr → Sp) : Prop where
  len : ∀ a vs H Q E, sp a vs H Q E → vs.length = ps.length
  run : ∀ (A : Around) (outer : List Env) (s : Shared) (H : Hp) (args : Args) (us : List Value) (vs : List V) (Q : VK) (E : XK) (p : Addr × Obj), L2H.RoomH k A → Zc (.ref D) none p.2 → (∃ v, p.2.data = .fields v) → L2H.PinOk outer H s p → Env0 P w K mg base A outer s H → BindsTo s fd args (ps.zip us) → Vals vs us → sp p.1 vs H Q E →
    codeAny (model P w) A (.call (.ref f) args) (CR CX0 outer P w H s Q E) s
theorem FnE.mono {P : Program} {w : World} {K : PySem.W.Frag} {mg : Str → Option Value} {base : Heap} {D : Addr} {j k : Nat} {f : Addr} {fd : FuncData} {ps : List Str} {sp : Addr → Sp} (F : FnE P w K mg base D j f fd ps sp) (h : j ≤ k) : FnE P w K mg base D k f fd ps sp := ⟨F.len, fun A outer s H args us vs Q E p hr => F.run A outer s H args us vs Q E p (hr.mono h)⟩
end Ap
set_option Elab.async false
set_option linter.all false
set_option maxRecDepth 100000
namespace Ap
open PySem PySem.Spec PyProof.Rows L2 Evl
section
variable {K : PySem.W.Frag} {σ : L2.St} {H H' : Hp} {ta tb tc te : TE} {t u : TT} {x y z v w : V}
theorem et_orF (h1 : EvT t σ H false) (h2 : EvT u σ H false) : EvT (tOr t u) σ H false := et_or (a := false) (b := false) h1 (fun _ => h2)
theorem et_andT (h1 : EvT t σ H true) (h2 : EvT u σ H true) : EvT (tAnd t u) σ H true := et_and (a := true) (b := true) h1 (fun _ => h2)
theorem et_nt (h : EvT t σ H true) : EvT (tNot t) σ H false := et_not h
theorem et_nf (h : EvT t σ H false) : EvT (tNot t) σ H true := et_not h
theorem ev_andT (h1 : Ev ta σ H (.bl true)) (h2 : Ev tb σ H (.bl true)) : Ev (tAndV ta tb) σ H (.bl true) := ev_andV (a := true) (b := true) h1 (fun _ => h2)
theorem ev_orF (h1 : Ev ta σ H (.bl false)) (h2 : Ev tb σ H (.bl false)) : Ev (tOrV ta tb) σ H (.bl false) := ev_orV (a := false) (b := false) h1 (fun _ => h2)
theorem ev_nt (h : Ev ta σ H (.bl true)) : Ev (tNotV ta) σ H (.bl false) := ev_notV h
theorem ev_nf (h : Ev ta σ H (.bl false)) : Ev (tNotV ta) σ H (.bl true) := ev_notV h
theorem rc_isiI : RC (rIsi K) [.int x', .ty "int"] H (.bl true) := rc_isi (X := "int") (fun _ => .base (.int _)) (by decide +kernel)
theorem rc_isiIB : RC (rIsi K) [.int x', .ty "bool"] H (.bl false) := rc_isi (X := "int") (fun _ => .base (.int _)) (by decide +kernel)
theorem rc_isiB : RC (rIsi K) [.bl x', .ty "bool"] H (.bl true) := rc_isi (X := "bool") (fun _ => .base (.bl _)) (by decide +kernel)
theorem rc_isiBI : RC (rIsi K) [.bl x', .ty "int"] H (.bl true) := rc_isi (X := "bool") (fun _ => .base (.bl _)) (by decide +kernel)
theorem rv_eqI {i j : Int} : RV rEq (.int i) (.int j) H (.bl (decide (i = j))) := by
  have h := rv_eq (x := .int i) (y := .int j) (H := H) rfl
  have e : decide (V.int i = V.int j) = decide (i = j) := by
    by_cases q : i = j
    · rw [decide_eq_true q, decide_eq_true (by rw [q])]
    · rw [decide_eq_false q, decide_eq_false (fun h => q (V.int.inj h))]
  rwa [e] at h
theorem rv_neI {i j : Int} : RV rNe (.int i) (.int j) H (.bl (!decide (i = j))) := by
  have h := rv_ne (x := .int i) (y := .int j) (H := H) rfl
  have e : decide (V.int i = V.int j) = decide (i = j) := by
    by_cases q : i = j
    · rw [decide_eq_true q, decide_eq_true (by rw [q])]
    · rw [decide_eq_false q, decide_eq_false (fun h => q (V.int.inj h))]
  rwa [e] at h
end
end Ap
set_option Elab.async false
set_option linter.all false
set_option maxRecDepth 100000
namespace Ap
open PySem PySem.Spec PyProof.Rows L2 Evl
structure MP where
  p : Hp → Hp → Prop
  m : ∀ B B' H H', Ex B B' → Ex H H' → p B H → p B' H'
def cutIn (S : Addr → Bool) (H : Hp) : Hp := fun a => if S a = true then H a else none
theorem cutIn_ex {S : Addr → Bool} {H H' : Hp} (e : Ex H H') : Ex (cutIn S H) (cutIn S H') := fun a o h => by
  unfold cutIn at h ⊢
  split at h
  · rename_i q
    rw [if_pos q]
    exact e a o h
  · cases h
theorem cutIn_sub {S : Addr → Bool} {H : Hp} : Ex (cutIn S H) H := fun a o h => by
  unfold cutIn at h
  split at h
  · exact h
  · cases h
theorem cutIn_at {S : Addr → Bool} {H : Hp} {a : Addr} {o : HO} (h : cutIn S H a = some o) : S a = true ∧ H a = some o := by
  unfold cutIn at h
  split at h
  · rename_i q
    exact ⟨q, h⟩
  · cases h
theorem cutIn_yes {S : Addr → Bool} {H : Hp} {a : Addr} (h : S a = true) : cutIn S H a = H a := by
  unfold cutIn
  rw [if_pos h]
theorem cutIn_no {S : Addr → Bool} {H : Hp} {a : Addr} (h : S a = false) : cutIn S H a = none := by
  unfold cutIn
  rw [if_neg (by rw [h]; decide)]
def Emp : MP := ⟨fun _ _ => True, fun _ _ _ _ _ _ _ => trivial⟩
def Pt (a : Addr) (o : HO) : MP := ⟨fun _ H => H a = some o, fun _ _ _ _ _ e h => e _ _ h⟩
def Star (P Q : MP) : MP := ⟨fun B H => ∃ S : Addr → Bool, P.p B (cutIn S H) ∧ Q.p B (cutIn (fun a => !S a) H), fun _ _ _ _ b e ⟨S, h1, h2⟩ => ⟨S, P.m _ _ _ _ b (cutIn_ex e) h1, Q.m _ _ _ _ b (cutIn_ex e) h2⟩⟩
def Stars : List MP → MP
  | [] => Emp
  | P :: l => Star P (Stars l)
def Each {α : Type} (xs : List α) (f : α → MP) : MP := Stars (xs.map f)
def ExM {α : Type} (f : α → MP) : MP := ⟨fun B H => ∃ x, (f x).p B H, fun _ _ _ _ b e ⟨x, h⟩ => ⟨x, (f x).m _ _ _ _ b e h⟩⟩
/-- what is known of the base besides -/
def DpM (K : PySem.W.Frag) (vs : List V) (ds : List PyData) (P : MP) : MP := ⟨fun B H => DpAll K B vs ds ∧ P.p B H, fun _ _ _ _ b e ⟨a, h⟩ => ⟨dpa_mono b _ _ a, P.m _ _ _ _ b e h⟩⟩
theorem cut_cut {S T : Addr → Bool} {H : Hp} : cutIn S (cutIn T H) = cutIn (fun a => T a && S a) H := by
  funext a
  unfold cutIn
  cases hs : S a <;> cases ht : T a <;> simp [hs, ht]
theorem cut_all {H : Hp} : cutIn (fun _ => true) H = H := funext fun a => cutIn_yes rfl
theorem cut_all' {H : Hp} : cutIn (fun a => !((fun _ => false) a)) H = H := funext fun a => cutIn_yes rfl
theorem star_comm {P Q : MP} {B H : Hp} (h : (Star P Q).p B H) : (Star Q P).p B H := by
  obtain ⟨S, h1, h2⟩ := h
  refine ⟨fun a => !S a, h2, ?_⟩
  have e : (fun a => !!S a) = S := by
    funext a
    exact Bool.not_not _
  show P.p B (cutIn (fun a => !!S a) H)
  rw [e]
  exact h1
theorem star_l {P Q : MP} {B H : Hp} (h : (Star P Q).p B H) : P.p B H := by
  obtain ⟨S, h1, h2⟩ := h
  exact P.m _ _ _ _ (Ex.refl B) cutIn_sub h1
theorem star_r {P Q : MP} {B H : Hp} (h : (Star P Q).p B H) : Q.p B H := by
  obtain ⟨S, h1, h2⟩ := h
  exact Q.m _ _ _ _ (Ex.refl B) cutIn_sub h2
theorem star_mono {P P' Q Q' : MP} {B H : Hp} (hp : ∀ H, P.p B H → P'.p B H) (hq : ∀ H, Q.p B H → Q'.p B H) (h : (Star P Q).p B H) : (Star P' Q').p B H := by
  obtain ⟨S, h1, h2⟩ := h
  exact ⟨S, hp _ h1, hq _ h2⟩
theorem star_swap {P Q R : MP} {B H : Hp} (h : (Star P (Star Q R)).p B H) : (Star Q (Star P R)).p B H := by
  obtain ⟨S, h1, T, h2, h3⟩ := h
  rw [cut_cut] at h2 h3
  refine ⟨fun a => !S a && T a, h2, fun a => S a, ?_, ?_⟩
  · rw [cut_cut]
    refine P.m _ _ _ _ (Ex.refl B) (fun a o h => ?_) h1
    obtain ⟨q, h⟩ := cutIn_at h
    rw [cutIn_yes (by show (!(!S a && T a) && S a) = true; rw [q]; rfl)]
    exact h
  · rw [cut_cut]
    refine R.m _ _ _ _ (Ex.refl B) (fun a o h => ?_) h3
    obtain ⟨q, h⟩ := cutIn_at h
    have q : (!S a && !T a) = true := q
    rw [cutIn_yes (by
      show (!(!S a && T a) && !S a) = true
      cases hs : S a <;> cases ht : T a <;> rw [hs, ht] at q <;> first | rfl | cases q)]
    exact h
theorem star_assoc {P Q R : MP} {B H : Hp} (h : (Star (Star P Q) R).p B H) : (Star P (Star Q R)).p B H := star_mono (fun _ h => h) (fun _ h => star_comm h) (star_swap (star_mono (P' := R) (fun _ h => h) (fun _ h => h) (star_comm h)) |> star_mono (fun _ h => h) (fun _ h => h))
theorem star_assoc' {P Q R : MP} {B H : Hp} (h : (Star P (Star Q R)).p B H) : (Star (Star P Q) R).p B H := by
  have h1 : (Star R (Star P Q)).p B H := by
    have h2 : (Star P (Star R Q)).p B H := star_mono (fun _ h => h) (fun _ h => star_comm h) h
    exact star_swap h2
  exact star_comm h1
theorem stars_app : ∀ {l k : List MP} {B H : Hp}, (Star (Stars l) (Stars k)).p B H → (Stars (l ++ k)).p B H
  | [], _, _, _, h => star_r h
  | P :: l, k, _, _, h => star_mono (fun _ h => h) (fun _ h => stars_app h) (star_assoc h)
theorem stars_app' : ∀ {l k : List MP} {B H : Hp}, (Stars (l ++ k)).p B H → (Star (Stars l) (Stars k)).p B H
  | [], _, _, _, h => ⟨fun _ => false, trivial, by
    rw [cut_all']
    exact h⟩
  | P :: l, k, _, _, h => star_assoc' (star_mono (fun _ h => h) (fun _ h => stars_app' h) h)
theorem stars_pull : ∀ (l : List MP) (i : Nat) {B H : Hp} {P : MP}, l[i]? = some P → (Stars l).p B H → (Stars (P :: l.eraseIdx i)).p B H
  | [], i, _, _, _, e, _ => by simp at e
  | Q :: l, 0, _, _, _, e, h => by
    cases (show some Q = some _ from e)
    exact h
  | Q :: l, i + 1, _, _, P, e, h => star_swap (star_mono (P := Q) (Q := Stars l) (Q' := Stars (P :: l.eraseIdx i)) (fun _ h => h) (fun _ h => stars_pull l i (by simpa using e) h) h)
theorem stars_put : ∀ (l : List MP) (i : Nat) {B H : Hp} {P P' : MP}, l[i]? = some P → (Stars (P' :: l.eraseIdx i)).p B H → (Stars (l.set i P')).p B H
  | [], i, _, _, _, _, e, _ => by simp at e
  | Q :: l, 0, _, _, _, _, e, h => h
  | Q :: l, i + 1, _, _, P, P', e, h => star_mono (P := Q) (Q := Stars (P' :: l.eraseIdx i)) (Q' := Stars (l.set i P')) (fun _ h => h) (fun _ h => stars_put l i (P := P) (by simpa using e) h) (star_swap h)
theorem stars_at {l : List MP} {i : Nat} {B H : Hp} {P : MP} (e : l[i]? = some P) (h : (Stars l).p B H) : P.p B H := star_l (stars_pull l i e h)
/-- the base (what never changes), and what stands apart from it -/
def At (B : Hp) (l : List MP) (H : Hp) : Prop := ∃ S : Addr → Bool, Ex B (cutIn S H) ∧ (Stars l).p B (cutIn (fun a => !S a) H)
section
variable {K : PySem.W.Frag} {B H H1 : Hp} {l l' : List MP} {P Q : MP} {i : Nat} {a p : Addr} {o u : HO}
theorem at_map (f : ∀ H, (Stars l).p B H → (Stars l').p B H) (h : At B l H) : At B l' H := by
  obtain ⟨S, h1, h2⟩ := h
  exact ⟨S, h1, f _ h2⟩
theorem at_base (h : At B l H) : Ex B H := by
  obtain ⟨S, h1, h2⟩ := h
  exact h1.trans cutIn_sub
theorem at_ex (h : At B l H) (e : Ex H H1) : At B l H1 := by
  obtain ⟨S, h1, h2⟩ := h
  exact ⟨S, h1.trans (cutIn_ex e), (Stars l).m _ _ _ _ (Ex.refl B) (cutIn_ex e) h2⟩
theorem at_p (i : Nat) (e : l[i]? = some P) (h : At B l H) : P.p B H := by
  obtain ⟨S, h1, h2⟩ := h
  exact P.m _ _ _ _ (Ex.refl B) cutIn_sub (stars_at e h2)
theorem at_get (i : Nat) (e : l[i]? = some (Pt a o)) (h : At B l H) : H a = some o := at_p i e h
theorem at_start : At H [] H := ⟨fun _ => true, by
  rw [cut_all]
  exact Ex.refl H, trivial⟩
theorem at_drop (h : At B (P :: l) H) : At B l H := at_map (l := P :: l) (fun _ h => star_r h) h
theorem at_pull (i : Nat) (e : l[i]? = some P) (h : At B l H) : At B (P :: l.eraseIdx i) H := at_map (fun _ h => stars_pull l i e h) h
theorem at_put (i : Nat) (e : l[i]? = some P) (h : At B (Q :: l.eraseIdx i) H) : At B (l.set i Q) H := at_map (fun _ h => stars_put l i e h) h
theorem at_swap {R : MP} (h : At B (P :: R :: l) H) : At B (R :: P :: l) H := at_map (l := P :: R :: l) (l' := R :: P :: l) (fun _ h => star_swap h) h
theorem at_join {R : MP} (h : At B (P :: R :: l) H) : At B (Star P R :: l) H := at_map (l := P :: R :: l) (l' := Star P R :: l) (fun _ h => star_assoc' h) h
theorem at_split {R : MP} (h : At B (Star P R :: l) H) : At B (P :: R :: l) H := at_map (l := Star P R :: l) (l' := P :: R :: l) (fun _ h => star_assoc h) h
theorem at_stars {k : List MP} (h : At B (Stars k :: l) H) : At B (k ++ l) H := at_map (l := Stars k :: l) (fun _ h => stars_app h) h
theorem at_stars' (k : List MP) (h : At B (k ++ l) H) : At B (Stars k :: l) H := at_map (l' := Stars k :: l) (fun _ h => stars_app' h) h
theorem at_exm {α : Type} {f : α → MP} (h : At B (ExM f :: l) H) : ∃ x, At B (f x :: l) H := by
  obtain ⟨S, h1, T, ⟨x, h2⟩, h3⟩ := h
  exact ⟨x, S, h1, T, h2, h3⟩
theorem at_exm' {α : Type} {f : α → MP} (x : α) (h : At B (f x :: l) H) : At B (ExM f :: l) H := by
  obtain ⟨S, h1, T, h2, h3⟩ := h
  exact ⟨S, h1, T, ⟨x, h2⟩, h3⟩
theorem at_dpm {vs : List V} {ds : List PyData} (h : At B (DpM K vs ds P :: l) H) : DpAll K B vs ds ∧ At B (P :: l) H := by
  obtain ⟨S, h1, T, ⟨x, h2⟩, h3⟩ := h
  exact ⟨x, S, h1, T, h2, h3⟩
theorem at_dpm' {vs : List V} {ds : List PyData} (x : DpAll K B vs ds) (h : At B (P :: l) H) : At B (DpM K vs ds P :: l) H := by
  obtain ⟨S, h1, T, h2, h3⟩ := h
  exact ⟨S, h1, T, ⟨x, h2⟩, h3⟩
theorem upd_cut {S : Addr → Bool} (hS : S a = false) : cutIn S (upd H a o) = cutIn S H := by
  funext b
  by_cases q : b = a
  · rw [q, cutIn_no hS, cutIn_no hS]
  · unfold cutIn
    rw [upd_ne q]
/-- what stands at one of the places is written -/
theorem star_upd (h : (Star (Pt a o) P).p B H) : (Star (Pt a u) P).p B (upd H a u) := by
  obtain ⟨S, h1, h2⟩ := h
  have hs := (cutIn_at (show cutIn S H a = some o from h1)).1
  refine ⟨S, ?_, ?_⟩
  · show cutIn S (upd H a u) a = some u
    rw [cutIn_yes hs, upd_same]
  · rw [upd_cut (S := fun b => !S b) (by rw [hs]; rfl)]
    exact h2
theorem cut_upd {S : Addr → Bool} (hS : S a = true) : cutIn S (upd H a o) = upd (cutIn S H) a o := by
  funext b
  by_cases q : b = a
  · rw [q, cutIn_yes hS, upd_same, upd_same]
  · rw [upd_ne q]
    unfold cutIn
    rw [upd_ne q]
theorem at_upd (i : Nat) (e : l[i]? = some (Pt a o)) (h : At B l H) : At B (l.set i (Pt a u)) (upd H a u) := by
  obtain ⟨S, h1, h2⟩ := h
  have hs : (!S a) = true := (cutIn_at (show cutIn (fun a => !S a) H a = some o from stars_at e h2)).1
  have hs' : S a = false := by
    cases q : S a
    · rfl
    · rw [q] at hs; cases hs
  refine ⟨S, by rw [upd_cut hs']; exact h1, ?_⟩
  rw [cut_upd hs]
  exact stars_put l i e (star_upd (stars_pull l i e h2))
/-- something new -/
theorem star_new (h : P.p B H) (np : H p = none) (e : Ex H H1) (hp : H1 p = some o) : (Star (Pt p o) P).p B H1 := by
  refine ⟨fun a => decide (a = p), ?_, P.m _ _ _ _ (Ex.refl B) (fun a u h => ?_) h⟩
  · show cutIn (fun a => decide (a = p)) H1 p = some o
    rw [cutIn_yes (decide_eq_true rfl)]
    exact hp
  · have ne : a ≠ p := ne_of_none h np
    rw [cutIn_yes (by show (!decide (a = p)) = true; rw [decide_eq_false ne]; rfl)]
    exact e a u h
theorem at_new (h : At B l H) (np : H p = none) (e : Ex H H1) (hp : H1 p = some o) : At B (Pt p o :: l) H1 := by
  obtain ⟨S, h1, h2⟩ := h
  refine ⟨fun a => S a && !decide (a = p), fun a u ha => ?_, ?_⟩
  · obtain ⟨q, hh⟩ := cutIn_at (h1 a u ha)
    rw [cutIn_yes (by show (S a && !decide (a = p)) = true; rw [q, decide_eq_false (ne_of_none hh np)]; rfl)]
    exact e a u hh
  · refine star_new (P := Stars l) (H := cutIn (fun a => !S a) H) h2 ?_ (fun a u ha => ?_) ?_
    · unfold cutIn
      split
      · exact np
      · rfl
    · obtain ⟨q, hh⟩ := cutIn_at ha
      rw [cutIn_yes (by
        show (!(S a && !decide (a = p))) = true
        cases hs : S a
        · rfl
        · rw [hs] at q; cases q)]
      exact e a u hh
    · rw [cutIn_yes (by show (!(S p && !decide (p = p))) = true; rw [decide_eq_true rfl]; simp)]
      exact hp
/-- a new thing that belongs to the base from now on: all that is new does -/
theorem at_grow (h : At B l H) (e : Ex H H1) : At (ov B H H1) l H1 := by
  obtain ⟨S, h1, h2⟩ := h
  refine ⟨fun a => S a || (H a).isNone, ?_, (Stars l).m _ _ _ _ ov_base (fun a o ha => ?_) h2⟩
  · intro a o ha
    unfold ov at ha
    cases hb : B a with
    | some o' =>
      rw [hb] at ha
      have hc := h1 a o' hb
      obtain ⟨q, hh⟩ := cutIn_at hc
      rw [cutIn_yes (by show (S a || (H a).isNone) = true; rw [q]; rfl), ← ha]
      exact e a o' hh
    | none =>
      rw [hb] at ha
      cases h0 : H a with
      | some o' => rw [h0] at ha; cases ha
      | none =>
        rw [h0] at ha
        rw [cutIn_yes (by show (S a || (H a).isNone) = true; rw [h0]; simp)]
        exact ha
  · obtain ⟨q, hh⟩ := cutIn_at ha
    rw [cutIn_yes (by
      show (!(S a || (H a).isNone)) = true
      rw [hh]
      cases hs : S a
      · rfl
      · rw [hs] at q; cases q)]
    exact e a o hh
end
theorem map_erase {α β : Type} (f : α → β) : ∀ (xs : List α) (i : Nat), (xs.map f).eraseIdx i = (xs.eraseIdx i).map f
  | [], _ => rfl
  | x :: xs, 0 => rfl
  | x :: xs, i + 1 => by
    show f x :: (xs.map f).eraseIdx i = _
    rw [map_erase f xs i]
    rfl
section
variable {α : Type} {B H : Hp} {l : List MP} {xs : List α} {f : α → MP} {i : Nat} {x x' : α}
theorem each_at (h : At B (Each xs f :: l) H) (e : xs[i]? = some x) : At B (f x :: Each (xs.eraseIdx i) f :: l) H := by
  have h1 : At B (Stars (f x :: (xs.map f).eraseIdx i) :: l) H := at_map (l := Each xs f :: l) (l' := Stars (f x :: (xs.map f).eraseIdx i) :: l) (fun _ h => star_mono (P := Stars (xs.map f)) (fun _ h => stars_pull (xs.map f) i (by rw [List.getElem?_map, e]; rfl) h) (fun _ h => h) h) h
  rw [map_erase f xs i] at h1
  exact at_split h1
theorem each_set (hi : i < xs.length) (h : At B (f x' :: Each (xs.eraseIdx i) f :: l) H) : At B (Each (xs.set i x') f :: l) H := by
  have h1 := at_join h
  have e2 : Each (xs.set i x') f = Stars ((xs.map f).set i (f x')) := by
    unfold Each
    rw [List.map_set]
  rw [e2]
  refine at_map (l := Star (f x') (Each (xs.eraseIdx i) f) :: l) (l' := Stars ((xs.map f).set i (f x')) :: l) (fun _ h => star_mono (P := Star (f x') (Each (xs.eraseIdx i) f)) (fun _ h => stars_put (xs.map f) i (P := f xs[i]) (by rw [List.getElem?_map, List.getElem?_eq_getElem hi]; rfl) ?_) (fun _ h => h) h) h1
  rw [map_erase]
  exact h
theorem each_nil (h : At B l H) : At B (Each ([] : List α) f :: l) H := by
  refine at_map (l := l) (l' := Each ([] : List α) f :: l) (fun _ h => ?_) h
  exact ⟨fun _ => false, trivial, by
    rw [cut_all']
    exact h⟩
end
theorem stars_perm {l l' : List MP} (h : l.Perm l') : ∀ {B H : Hp}, (Stars l).p B H → (Stars l').p B H := by
  induction h with
  | nil => exact fun h => h
  | cons x _ ih => exact fun h => star_mono (P := x) (fun _ h => h) (fun _ h => ih h) h
  | swap x y l => exact fun h => star_swap h
  | trans _ _ ih1 ih2 => exact fun h => ih2 (ih1 h)
theorem at_perm {B H : Hp} {l l' : List MP} (p : l.Perm l') (h : At B l H) : At B l' H := at_map (fun _ h => stars_perm p h) h
theorem range_get {α : Type} (d : α) : ∀ l : List α, (List.range l.length).map (fun i => l.getD i d) = l := fun l => by
  refine List.ext_getElem (by simp) fun i h1 h2 => ?_
  simp [List.getD_eq_getElem?_getD, List.getElem?_eq_getElem h2]
theorem at_ix {B H : Hp} {l : List MP} (n : Nat) (is : List Nat) (h : At B l H) (hp : is.isPerm (List.range n) = true := by decide) (hn : n ≤ l.length := by simp) : At B (is.map (fun i => l.getD i Emp) ++ l.drop n) H := by
  refine at_perm ?_ h
  have p := List.isPerm_iff.mp hp
  have e : (List.range n).map (fun i => l.getD i Emp) = l.take n := by
    have e1 := range_get Emp (l.take n)
    rw [List.length_take, Nat.min_eq_left hn] at e1
    refine Eq.trans (List.map_congr_left fun i hi => ?_) e1
    have hi := List.mem_range.mp hi
    rw [List.getD_eq_getElem?_getD, List.getD_eq_getElem?_getD, List.getElem?_take_of_lt hi]
  have q := (p.map (fun i => l.getD i Emp)).append_right (l.drop n)
  rw [e, List.take_append_drop] at q
  exact q.symm
theorem each_app {α : Type} {B H : Hp} {l : List MP} {xs : List α} {f : α → MP} {x : α} (h : At B (f x :: Each xs f :: l) H) : At B (Each (xs ++ [x]) f :: l) H := by
  have h1 := at_join h
  have e : (f x :: xs.map f).Perm ((xs ++ [x]).map f) := by
    rw [List.map_append]
    exact (List.perm_append_singleton (f x) (xs.map f)).symm
  exact at_map (l := Star (f x) (Each xs f) :: l) (l' := Each (xs ++ [x]) f :: l) (fun _ h => star_mono (P := Stars (f x :: xs.map f)) (fun _ h => stars_perm e h) (fun _ h => h) h) h1
end Ap
set_option Elab.async false
set_option linter.all false
set_option maxRecDepth 100000
namespace Ap
open PySem PySem.Spec PyProof.Rows L2 Evl
structure Rr where
  r : V → Hp → Prop
  m : ∀ {v : V} {B B' : Hp}, Ex B B' → r v B → r v B'
def rV (x : V) : Rr := ⟨fun v _ => v = x, fun _ h => h⟩
def rD (K : PySem.W.Frag) (d : PyData) : Rr := ⟨fun v B => Dp K B v d, fun e h => dp_mono e _ _ h⟩
def Wv (te : TE) (σ : L2.St) (B : Hp) (l : List MP) (R : Rr) : Prop := ∀ B1 H, Ex B B1 → At B1 l H → ∀ Q : VK, (∀ v B2 H2, Ex B1 B2 → At B2 l H2 → R.r v B2 → Q v H2) → te σ H Q
section
variable {K : PySem.W.Frag} {σ : L2.St} {B B' H H' : Hp} {l l' : List MP} {ta tb te : TE} {t : TT} {x y v : V} {d : PyData} {ds : List PyData} {R R' : Rr} {P : MP} {i j : Nat} {a p : Addr} {o u : HO}
theorem Wv.up (e : Ex B B') (h : Wv te σ B l R) : Wv te σ B' l R := fun B1 H1 e1 hA Q q => h B1 H1 (e.trans e1) hA Q q
/-- what is known without the base growing -/
theorem wv_of (h : ∀ B1 H, Ex B B1 → At B1 l H → Ev te σ H x) : Wv te σ B l (rV x) := fun B1 H1 e1 hA Q q => h B1 H1 e1 hA H1 (Ex.refl H1) Q fun H2 e2 => q x B1 H2 (Ex.refl B1) (at_ex hA e2) rfl
theorem wv_dp (h : Wv te σ B l (rV x)) (hd : Dp K B x d) : Wv te σ B l (rD K d) := fun B1 H1 e1 hA Q q => h B1 H1 e1 hA Q fun v B2 H2 e2 hA2 hv => q v B2 H2 e2 hA2 (by
  have hv : v = x := hv
  rw [hv]
  exact dp_mono (e1.trans e2) _ _ hd)
theorem wv_var (h : σ[i]? = some (some v)) (hd : Dp K B v d) : Wv (tVar i) σ B l (rD K d) := wv_dp (wv_of fun _ _ _ _ => ev_var h) hd
theorem wv_str {z : Str} : Wv (tC (.str z)) σ B l (rD K (.str z)) := wv_dp (wv_of fun _ _ _ _ => ev_c) (.str z)
/-- data over the whole heap of now, told over the base -/
theorem wv_ed (h : ∀ B1, Ex B B1 → EvD K te σ B1 d) : Wv te σ B l (rD K d) := fun B1 H1 e1 hA Q q => h B1 e1 H1 (at_base hA) Q fun v H2 e2 hv => q v (ov B1 H1 H2) H2 ov_base (at_grow hA e2) hv
theorem at_tup {vs : List V} (hA : At B l H) (hp : H p = none) : Ex B (ov B H (upd H p (.tup vs))) ∧ At (ov B H (upd H p (.tup vs))) l (upd H p (.tup vs)) ∧ ov B H (upd H p (.tup vs)) p = some (.tup vs) :=
  ⟨ov_base, at_grow hA (Ex.new hp), ov_new (at_base hA) (Ex.refl H) hp⟩
variable {D : Ends} {tz tu tw : TS}
theorem qe_asg (hA : At B l H) (h : Ev te σ H x) (k : ∀ H1, At B l H1 → tz D (σ.set i (some x)) H1) : tSeq (tAsg te (gName i)) tz D σ H := q_asg h fun H1 e => k H1 (at_ex hA e)
theorem sw_ret (hA : At B l H) (h : Wv te σ B l R) (k : ∀ v B1 H1, Ex B B1 → At B1 l H1 → R.r v B1 → D.rt v H1) : tRet te D σ H := h B H (Ex.refl B) hA _ fun v B1 H1 e1 hA1 hv => k v B1 H1 e1 hA1 hv
theorem se_ret (hA : At B l H) (h : Ev te σ H x) (k : ∀ H1, At B l H1 → D.rt x H1) : tRet te D σ H := s_ret h fun H1 e => k H1 (at_ex hA e)
theorem qe_when {b : Bool} (hA : At B l H) (h : EvT t σ H b) (h1 : b = true → ∀ H1, At B l H1 → tu { D with nx := tz D } σ H1) (h2 : b = false → ∀ H1, At B l H1 → tz D σ H1) : tSeq (tIfS t tu tNext) tz D σ H := q_when h (fun hb H1 e => h1 hb H1 (at_ex hA e)) (fun hb H1 e => h2 hb H1 (at_ex hA e))
theorem se_when {b : Bool} (hA : At B l H) (h : EvT t σ H b) (h1 : b = true → ∀ H1, At B l H1 → tu D σ H1) (h2 : b = false → ∀ H1, At B l H1 → D.nx σ H1) : tIfS t tu tNext D σ H := s_when h (fun hb H1 e => h1 hb H1 (at_ex hA e)) (fun hb H1 e => h2 hb H1 (at_ex hA e))
theorem se_if {b : Bool} (hA : At B l H) (h : EvT t σ H b) (h1 : b = true → ∀ H1, At B l H1 → tu D σ H1) (h2 : b = false → ∀ H1, At B l H1 → tw D σ H1) : tIfS t tu tw D σ H := s_if h (fun hb H1 e => h1 hb H1 (at_ex hA e)) (fun hb H1 e => h2 hb H1 (at_ex hA e))
theorem ev_fld {C dx : Addr} {fs : List (Str × V)} {f : Str} (h : Ev ta σ H (.ref a)) (ha : H a = some (.ins C dx fs)) (c : Cls K C) (n : NoAttr K C f) (hl : fs.lookup f = some v) : Ev (tFld K ta f) σ H v := fun H1 e Q q => h H1 e _ fun H2 e2 => ⟨a, C, dx, fs, v, rfl, (e.trans e2) _ _ ha, c, n, hl, q H2 e2⟩
theorem qe_fld {C dx : Addr} {fs : List (Str × V)} {f : Str} (k : Nat) (hk : l[k]? = some (Pt a (.ins C dx fs))) (hA : At B l H) (hv : Ev tb σ H y) (ho : ∀ H1, Ev ta σ H1 (.ref a)) (c : Cls K C) (n : NoAttr K C f) (hl : fs.length < 1000) (g : ∀ H1, At B (l.set k (Pt a (.ins C dx (putF f y fs)))) H1 → tz D σ H1) : tSeq (sFld K ta tb f) tz D σ H :=
  hv H (Ex.refl H) _ fun H1 e1 => ho H1 H1 (Ex.refl H1) _ fun H2 e2 => ⟨a, C, dx, fs, rfl, at_get k hk (at_ex hA (e1.trans e2)), c, n, hl, g _ (at_upd k hk (at_ex hA (e1.trans e2)))⟩
theorem se_fld {C dx : Addr} {fs : List (Str × V)} {f : Str} (k : Nat) (hk : l[k]? = some (Pt a (.ins C dx fs))) (hA : At B l H) (hv : Ev tb σ H y) (ho : ∀ H1, Ev ta σ H1 (.ref a)) (c : Cls K C) (n : NoAttr K C f) (hl : fs.length < 1000) (g : ∀ H1, At B (l.set k (Pt a (.ins C dx (putF f y fs)))) H1 → D.nx σ H1) : sFld K ta tb f D σ H :=
  hv H (Ex.refl H) _ fun H1 e1 => ho H1 H1 (Ex.refl H1) _ fun H2 e2 => ⟨a, C, dx, fs, rfl, at_get k hk (at_ex hA (e1.trans e2)), c, n, hl, g _ (at_upd k hk (at_ex hA (e1.trans e2)))⟩
/-- o.f = {} -/
theorem qe_fldD {C dx : Addr} {fs : List (Str × V)} {f : Str} (k : Nat) (hk : l[k]? = some (Pt a (.ins C dx fs))) (hA : At B l H) (ho : ∀ H1, Ev ta σ H1 (.ref a)) (c : Cls K C) (n : NoAttr K C f) (hl : fs.length < 1000) (g : ∀ p H1, At B (Pt p (.dK []) :: l.set k (Pt a (.ins C dx (putF f (.ref p) fs)))) H1 → tz D σ H1) : tSeq (sFld K ta tDNewK f) tz D σ H := fun p hp =>
  have hA1 := at_new hA hp (Ex.new hp) upd_same
  ho _ _ (Ex.refl _) _ fun H2 e2 => ⟨a, C, dx, fs, rfl, at_get (k + 1) (by simpa using hk) (at_ex hA1 e2), c, n, hl, g p _ (by
    have h := at_upd (u := .ins C dx (putF f (.ref p) fs)) (k + 1) (by simpa using hk) (at_ex hA1 e2)
    simpa using h)⟩
/-- C(..) -/
theorem make_at {C : Addr} {sp : Sp} {E : XK} {ta : TA} {vs : List V} {Q : VK} (hA : At B l H) (h : EvA ta σ H vs) (k : ∀ x dx H1, At B (Pt x (.ins C dx []) :: l) H1 → sp (.ref x :: (vs ++ [])) H1 (fun v H2 => v = .non ∧ Q (.ref x) H2) E) : tMake C sp [] E ta σ H Q := h H (Ex.refl H) _ fun H1 e1 x dx nx ndx ne => by
  have h1 := at_new (at_ex hA e1) ndx (Ex.new ndx) (upd_same (o := .own x))
  have nx' : upd H1 dx (.own x) x = none := by rw [upd_ne (Ne.symm ne)]; exact nx
  have h2 := at_new h1 nx' (Ex.new nx') (upd_same (o := .ins C dx []))
  exact k x dx _ (at_drop (at_swap h2))
end
mutual
theorem dp_dx {K : PySem.W.Frag} {H : Hp} : ∀ (d : PyData) (v : V), Dp K H v d → Dx K H v d
  | .none, _, h => by cases h; exact .non
  | .bool b, _, h => by cases h; exact .bl b
  | .int i, _, h => by cases h; exact .int i
  | .str x, _, h => by cases h; exact .str x
  | .list ds, _, h => by
    cases h with
    | lst hs ha => exact .lst hs (dpa_dxa ds _ ha)
  | .tuple ds, _, h => by
    cases h with
    | tup hs ha => exact .tup hs (dpa_dxa ds _ ha)
  | .dict _, _, h => by cases h
theorem dpa_dxa {K : PySem.W.Frag} {H : Hp} : ∀ (ds : List PyData) (vs : List V), DpAll K H vs ds → DxAll K H vs ds
  | [], _, h => by cases h; exact .nil
  | d :: ds, _, h => by
    cases h with
    | cons h1 h2 => exact .cons (dp_dx d _ h1) (dpa_dxa ds _ h2)
end
def isLst : PyData → Bool
  | .list _ => true
  | _ => false
theorem kit_lst : ∀ d : PyData, kitB (tyN d) "list" = some (isLst d)
  | .none => (by decide +kernel : kitB "NoneType" "list" = some false)
  | .bool _ => (by decide +kernel : kitB "bool" "list" = some false)
  | .int _ => (by decide +kernel : kitB "int" "list" = some false)
  | .str _ => (by decide +kernel : kitB "str" "list" = some false)
  | .list _ => (by decide +kernel : kitB "list" "list" = some true)
  | .tuple _ => (by decide +kernel : kitB "tuple" "list" = some false)
  | .dict _ => (by decide +kernel : kitB "dict" "list" = some false)
section
variable {K : PySem.W.Frag} {σ : L2.St} {H : Hp} {te ta tb : TE} {d : PyData} {ds : List PyData} {T T1 T2 : String} {b b1 b2 : Bool}
/-- a call on data: its arguments known as data alone -/
theorem ev_callD {sp : Sp} {E : XK} {ta : TA} {x : V} (h : EvXs K ta σ H ds) (hs : ∀ vs H1, Ex H H1 → DxAll K H1 vs ds → ∀ Q : VK, (∀ H2, Ex H1 H2 → Q x H2) → sp (vs ++ []) H1 Q E) : Ev (tCall sp [] E ta) σ H x := fun H1 e Q q => h H1 e _ fun vs H2 e2 hv => hs vs H2 (e.trans e2) (dxa_mono (ov_ex e e2) _ _ hv) Q fun H3 e3 => q H3 (e2.trans e3)
end
/-- bounded, and no dict within -/
inductive Okn : Nat → PyData → Prop
  | non {n : Nat} : Okn n .none
  | bl {n : Nat} (b : Bool) : Okn n (.bool b)
  | int {n : Nat} (i : Int) : Okn n (.int i)
  | str {n : Nat} (x : Str) : Okn n (.str x)
  | lst {n : Nat} {ds : List PyData} (h : ds.length ≤ 50000) (hs : ∀ d, d ∈ ds → Okn n d) : Okn (n + 1) (.list ds)
  | tup {n : Nat} {ds : List PyData} (h : ds.length ≤ 50000) (hs : ∀ d, d ∈ ds → Okn n d) : Okn (n + 1) (.tuple ds)
theorem Okn.mono {n m : Nat} {d : PyData} (h : Okn n d) : n ≤ m → Okn m d := by
  induction h generalizing m with
  | non => exact fun _ => .non
  | bl b => exact fun _ => .bl b
  | int i => exact fun _ => .int i
  | str x => exact fun _ => .str x
  | lst h hs ih =>
    intro hl
    obtain ⟨k, rfl⟩ : ∃ k, m = k + 1 := ⟨m - 1, by omega⟩
    exact .lst h fun d hd => ih d hd (by omega)
  | tup h hs ih =>
    intro hl
    obtain ⟨k, rfl⟩ : ∃ k, m = k + 1 := ⟨m - 1, by omega⟩
    exact .tup h fun d hd => ih d hd (by omega)
theorem ev_isN {σ : L2.St} {H : Hp} {ta : TE} {x : V} (h : Ev ta σ H x) : Ev (tOp (fun x y H Q => y = .non ∧ Q (.bl (decide (x = .non))) H) ta (tC .non)) σ H (.bl (decide (x = .non))) := ev_op h ev_c (fun G _ _ q => ⟨rfl, q G (Ex.refl G)⟩)
theorem rv_eqT {H : Hp} {x : V} (h : scal x x = true) : RV rEq x x H (.bl true) := by
  have := rv_eq (H := H) h
  rwa [decide_eq_true rfl] at this
section
variable {K : PySem.W.Frag} {σ : L2.St} {B H : Hp} {l : List MP} {ta td ty tv : TE} {x y v : V} {R : Rr} {a : Addr} {D : Ends} {tz : TS}
/-- o.f += e -/
theorem qe_faug {C dx : Addr} {fs : List (Str × V)} {f : Str} {i j : Int} (k : Nat) (hk : l[k]? = some (Pt a (.ins C dx fs))) (hA : At B l H) (ho : Ev ta σ H (.ref a)) (hv : ∀ H1, Ev tv σ H1 (.int j)) (c : Cls K C) (n : NoAttr K C f) (hf : fs.lookup f = some (.int i)) (hl : fs.length < 1000)
    (g : ∀ H1, At B (l.set k (Pt a (.ins C dx (putF f (.int (i + j)) fs)))) H1 → tz D σ H1) : tSeq (sFldAug K ta tv rAdd f) tz D σ H :=
  ho H (Ex.refl H) _ fun H1 e1 => ⟨a, C, dx, fs, .int i, rfl, at_get k hk (at_ex hA e1), c, n, hf, hv H1 H1 (Ex.refl H1) _ fun H2 e2 => ⟨i, j, rfl, rfl, dx, fs, at_get k hk (at_ex hA (e1.trans e2)), hl, g _ (at_upd k hk (at_ex hA (e1.trans e2)))⟩⟩
end
theorem List.set_getElem?_self' {α : Type} : ∀ {l : List α} {i : Nat} {x : α}, l[i]? = some x → l.set i x = l
  | [], _, _, _ => rfl
  | y :: r, 0, x, h => by
    have e : y = x := by simpa using h
    rw [e, List.set_cons_zero]
  | y :: r, i + 1, x, h => by rw [List.set_cons_succ, List.set_getElem?_self' (by simpa using h)]
theorem qe_make {σ : L2.St} {B H : Hp} {l : List MP} {D : Ends} {tz : TS} {C : Addr} {sp : Sp} {E : XK} {ta : TA} {vs : List V} {i : Nat} (hA : At B l H) (h : EvA ta σ H vs) (k : ∀ x dx H1, At B (Pt x (.ins C dx []) :: l) H1 → sp (.ref x :: (vs ++ [])) H1 (fun v H2 => v = .non ∧ tz D (σ.set i (some (.ref x))) H2) E) : tSeq (tAsg (tMake C sp [] E ta) (gName i)) tz D σ H :=
  make_at (Q := fun v H2 => tz D (σ.set i (some v)) H2) hA h k
/-- what an expression does, its value set to a name | dropped | tested -/
theorem q_do {σ : L2.St} {H : Hp} {D : Ends} {tz : TS} {te : TE} {i : Nat} (h : te σ H (fun v H' => tz D (σ.set i (some v)) H')) : tSeq (tAsg te (gName i)) tz D σ H := h
section
variable {K : PySem.W.Frag} {σ : L2.St} {H : Hp} {te ta tb : TE} {tr : TA} {v : V} {D : Ends} {tz : TS} {E : XK} {sp : Sp} {r : R2}
theorem go_cons {Q : List V → Hp → Prop} (h : Ev te σ H v) (k : ∀ H1, Ex H H1 → tr σ H1 fun xs H2 => Q (v :: xs) H2) : tCons te tr σ H Q := h H (Ex.refl H) _ k
theorem go_cons' {Q : List V → Hp → Prop} (h : te σ H fun v H1 => tr σ H1 fun xs H2 => Q (v :: xs) H2) : tCons te tr σ H Q := h
theorem go_nil {Q : List V → Hp → Prop} (h : Q [] H) : tNil σ H Q := h
theorem go_lst {Q : VK} (h : tr σ H fun xs H1 => xs.length ≤ sizeLine ∧ ∀ p, H1 p = none → Q (.ref p) (upd H1 p (.lst xs))) : tLst tr σ H Q := h
theorem go_tup {Q : VK} (h : tr σ H fun xs H1 => xs.length ≤ sizeLine ∧ ∀ p, H1 p = none → Q (.ref p) (upd H1 p (.tup xs))) : tTup tr σ H Q := h
theorem go_call {Q : VK} (h : tr σ H fun vs H1 => sp (vs ++ []) H1 Q E) : tCall sp [] E tr σ H Q := h
theorem go_op {Q : VK} (h : ta σ H fun x H1 => tb σ H1 fun y H2 => r x y H2 Q) : tOp r ta tb σ H Q := h
theorem go_ev {Q : VK} (h : Ev te σ H v) (k : ∀ H1, Ex H H1 → Q v H1) : te σ H Q := h H (Ex.refl H) Q k
end
end Ap
set_option Elab.async false
set_option linter.all false
set_option maxRecDepth 100000
namespace Ap
open PySem PySem.Spec PyProof.Rows L2 Evl PySem.W
/-- a list whose items stand for these data -/
def LstM (K : PySem.W.Frag) (a : Addr) (ds : List PyData) : MP := ExM fun xs : List V => DpM K xs ds (Pt a (.lst xs))
abbrev DI := List (Int × PyData)
end Ap
set_option Elab.async false
set_option linter.all false
set_option maxRecDepth 100000
namespace Ap
open PySem PySem.Spec PyProof.Rows L2 Evl PySem.W
section
variable {K : PySem.W.Frag} {σ : L2.St} {B B' H H' H1 : Hp} {l : List MP} {ta tb tc te td ty tv : TE} {t : TT} {x y v : V} {d : PyData} {ds es : List PyData} {R : Rr} {a p : Addr} {xs vs : List V} {m : DI} {D : Ends} {tz tu : TS} {i j n : Nat} {k : Int}
theorem lst_at (n : Nat) (e : l[n]? = some (LstM K a ds)) (h : At B l H) : ∃ xs, DpAll K B xs ds ∧ H a = some (.lst xs) := at_p n e h
theorem lst_new (h : At B l H) (np : H p = none) (e : Ex H H1) (hp : H1 p = some (.lst xs)) (hd : DpAll K B xs ds) : At B (LstM K p ds :: l) H1 := at_exm' xs (at_dpm' hd (at_new h np e hp))
theorem lst_upd {xs' : List V} (n : Nat) (e : l[n]? = some (LstM K a ds)) (h : At B l H) (hd : DpAll K B xs' es) : At B (l.set n (LstM K a es)) (upd H a (.lst xs')) := by
  obtain ⟨xs, h1⟩ := at_exm (at_pull n e h)
  obtain ⟨_, h2⟩ := at_dpm h1
  exact at_put n e (at_exm' xs' (at_dpm' hd (at_upd 0 rfl h2)))
theorem sm_app (n : Nat) (e : l[n]? = some (LstM K a ds)) (hA : At B l H) (ha : ∀ H1, Ev ta σ H1 (.ref a)) (h : Wv te σ B l (rD K d)) (hz : ds.length < 100000) (c : ∀ B1 H1, Ex B B1 → At B1 (l.set n (LstM K a (ds ++ [d]))) H1 → D.nx σ H1) : tDrop (tBM K "list" rAppend ta (tCons te tNil)) D σ H :=
  ha H H (Ex.refl H) _ fun H1 e1 => by
    have hA1 := at_ex hA e1
    obtain ⟨xs, h1, h2⟩ := lst_at n e hA1
    refine ⟨.inl ⟨rfl, xs, sq_of h2⟩, h B H1 (Ex.refl B) hA1 _ fun v B2 H2 b2 hA2 hv => ?_⟩
    obtain ⟨xs, h1, h2⟩ := lst_at n e hA2
    exact ⟨a, xs, v, rfl, rfl, h2, sz_lt (by rw [dpa_len h1]; exact hz), c B2 _ b2 (lst_upd n e hA2 (dpa_app h1 (dpa_one hv)))⟩
theorem qm_app (n : Nat) (e : l[n]? = some (LstM K a ds)) (hA : At B l H) (ha : ∀ H1, Ev ta σ H1 (.ref a)) (h : Wv te σ B l (rD K d)) (hz : ds.length < 100000) (c : ∀ B1 H1, Ex B B1 → At B1 (l.set n (LstM K a (ds ++ [d]))) H1 → tz D σ H1) : tSeq (tDrop (tBM K "list" rAppend ta (tCons te tNil))) tz D σ H :=
  sm_app (D := { D with nx := tz D }) n e hA ha h hz c
/-- a list opened, to walk over it, and closed -/
theorem at_openL (n : Nat) (e : l[n]? = some (LstM K a ds)) (h : At B l H) : ∃ xs, DpAll K B xs ds ∧ At B (l.set n (Pt a (.lst xs))) H := by
  obtain ⟨xs, h1⟩ := at_exm (at_pull n e h)
  obtain ⟨h2, h3⟩ := at_dpm h1
  exact ⟨xs, h2, at_put n e h3⟩
theorem at_closeL (n : Nat) (e : l[n]? = some (Pt a (.lst xs))) (hd : DpAll K B xs ds) (h : At B l H) : At B (l.set n (LstM K a ds)) H := at_put n e (at_exm' xs (at_dpm' hd (at_pull n e h)))
end
end Ap
namespace Ap
open PySem PySem.Spec PyProof.Rows L2
theorem kit_ownB {K : PySem.W.Frag} {t : Value} {B : Addr} {b : Bool} (hd : PySem.W.hasDictIn K B = true) (ht : PySem.W.typeIn K (.ref B) = some (.type "type")) (hs : PySem.W.subIn K t (.ref B) = some b) (hne : b = false → (t == Value.ref B) = false) : PySem.W.kitOne K t (.ref B) = some b := by
  obtain ⟨cd, hc, _⟩ := PySem.W.any_some hd
  unfold PySem.W.kitOne
  cases b with
  | true =>
    split
    · rfl
    · show (if ((PySem.W.clsIn K B).isSome && PySem.W.typeIn K (.ref B) == some (.type "type")) = true then PySem.W.subIn K t (.ref B) else none) = some true
      rw [hc, ht, if_pos (by rfl)]
      exact hs
  | false =>
    rw [if_neg (by rw [hne rfl]; decide)]
    show (if ((PySem.W.clsIn K B).isSome && PySem.W.typeIn K (.ref B) == some (.type "type")) = true then PySem.W.subIn K t (.ref B) else none) = some false
    rw [hc, ht, if_pos (by rfl)]
    exact hs
/-- the law's end, the ground's own word handed on -/
theorem walk_ofX {l : PySem.W.OpenLaw} {n k : Nat} {q : Program} {loose : List Str} {XP : (Str → Option Value) → Heap → Prop} {YP : World → Heap → Prop} {d : DefRec} {K : Params → PySem.W.Frag} {CX : World → CXT} {sp : World → Sp} {x : Str}
    (hn : l.most = some n) (hn2 : n ≤ sizeLine) (hdf : d.params.defaults = []) (hr : Room k callerA) (hY : ∀ (w : World) (h : Heap), YP w h → (K w.params).In h)
    (F : ∀ (w : World) (mg : Str → Option Value) (fa : Addr) (h : Heap), (K w.params).In h → h.Ns mainGlobals mg → XP mg h → mg d.name = some (.ref fa) →
      ∃ fd : FuncData, (∀ (s : Shared) (u : Value), BindsTo s fd ⟨[u], []⟩ [(x, u)]) ∧ ∀ base : Heap, (K w.params).In base → base.Ns mainGlobals mg → FnOk l.prog w (K w.params) mg base (CX w) k fa fd [x] (sp w))
    (hsp : ∀ (w : World) (H : Hp) (a : Addr) (ns : List Int), ns.length ≤ n → Only H → SqL (K w.params) H a (ns.map V.int) → sp w [.ref a] H (fun v _ => v = .bl true) fun _ _ _ => False)
    (hCX : ∀ (w : World) (H : Hp) (s : Shared) (e : Value) (s' : Shared), CX w [] H s (fun _ _ _ => False) e s' → False) :
    PySem.W.WalkO q loose XP YP l.row.toRowW d [] (fun f vs => PySem.call f vs) := by
  refine Att.attach_call hn hdf fun w s₀ s₁ mg mb fa o pm cd doc a vs ns G Y ho hd hcd hmg hobj hints hlen hg => ?_
  have KX := hY w _ Y
  obtain ⟨fd, hb, hF⟩ := F w mg fa _ KX G.T.g G.X hmg
  exact law_call KX G.T.g G.T.b G.T.builtins G.T.nolimit hg hobj hints (Nat.le_trans hlen hn2) hr hF hb (fun H hO hS => hsp w H a ns hlen hO hS) fun H e s' => hCX w H s₁ e s'
end Ap
set_option Elab.async false
set_option linter.all false
set_option maxRecDepth 100000
namespace Ap
open PySem PySem.Spec PyProof.Rows L2 Evl PySem.W
def allC (cs : List Nat) : Bool := cs.all chOk
section
variable {K : PySem.W.Frag} {σ : L2.St} {B H : Hp} {l : List MP} {ta td te tn : TE} {t : TT} {x y v : V} {R : Rr} {s : Addr} {D : Ends} {tz tu : TS} {i j : Nat} {n : Int} {E : XK}
/-- xs[i] = e -/
theorem qe_set {ti : TE} {q : Addr} {xs : List V} {m : Nat} (k : Nat) (hk : l[k]? = some (Pt q (.lst xs))) (hA : At B l H) (hv : Ev te σ H v) (ha : ∀ H1, Ev ta σ H1 (.ref q)) (hi : ∀ H1, Ev ti σ H1 (.int i)) (hx : ixN xs.length i = some m) (c : ∀ H1, At B (l.set k (Pt q (.lst (xs.set m v)))) H1 → tz D σ H1) : tSeq (tAsg te (gSub ta ti rSetL)) tz D σ H :=
  hv H (Ex.refl H) _ fun H1 e1 => ha H1 H1 (Ex.refl H1) _ fun H2 e2 => hi H2 H2 (Ex.refl H2) _ fun H3 e3 => ⟨q, xs, i, m, rfl, rfl, at_get k hk (at_ex hA ((e1.trans e2).trans e3)), hx, c _ (at_upd k hk (at_ex hA ((e1.trans e2).trans e3)))⟩
theorem sm_appF {K : PySem.W.Frag} {a : Addr} {ds : List PyData} {d : PyData} (n : Nat) (e : l[n]? = some (LstM K a ds)) (hA : At B l H) (ha : ∀ H1, At B l H1 → Ev ta σ H1 (.ref a)) (h : Wv te σ B l (rD K d)) (hz : ds.length < 100000) (c : ∀ B1 H1, Ex B B1 → At B1 (l.set n (LstM K a (ds ++ [d]))) H1 → D.nx σ H1) : tDrop (tBM K "list" rAppend ta (tCons te tNil)) D σ H :=
  ha H hA H (Ex.refl H) _ fun H1 e1 => by
    have hA1 := at_ex hA e1
    obtain ⟨xs, h1, h2⟩ := lst_at n e hA1
    refine ⟨.inl ⟨rfl, xs, sq_of h2⟩, h B H1 (Ex.refl B) hA1 _ fun v B2 H2 b2 hA2 hv => ?_⟩
    obtain ⟨xs, h1, h2⟩ := lst_at n e hA2
    exact ⟨a, xs, v, rfl, rfl, h2, sz_lt (by rw [dpa_len h1]; exact hz), c B2 _ b2 (lst_upd n e hA2 (dpa_app h1 (dpa_one hv)))⟩
theorem qm_appF {K : PySem.W.Frag} {a : Addr} {ds : List PyData} {d : PyData} (n : Nat) (e : l[n]? = some (LstM K a ds)) (hA : At B l H) (ha : ∀ H1, At B l H1 → Ev ta σ H1 (.ref a)) (h : Wv te σ B l (rD K d)) (hz : ds.length < 100000) (c : ∀ B1 H1, Ex B B1 → At B1 (l.set n (LstM K a (ds ++ [d]))) H1 → tz D σ H1) : tSeq (tDrop (tBM K "list" rAppend ta (tCons te tNil))) tz D σ H :=
  sm_appF (D := { D with nx := tz D }) n e hA ha h hz c
variable {φ ψ χ : Int → Prop} {tb : TE} {tw : TS}
theorem allC_app {cs ds : List Nat} (h1 : allC cs = true) (h2 : allC ds = true) : allC (cs ++ ds) = true := by
  unfold allC at *
  rw [List.all_append, h1, h2]
  rfl
end
end Ap
set_option Elab.async false
set_option linter.all false
set_option maxRecDepth 100000
set_option maxHeartbeats 4000000
namespace Ap
open PySem PySem.Spec PyProof.Rows L2 Evl PySem.W
local macro_rules | `(tactic| walk_at "sq") => `(tactic| first | assumption | (refine Evl.ex_l (by assumption) ?_; walk_at "sq"))
local macro_rules | `(tactic| walk_at "st") => `(tactic| first | assumption | (refine Evl.ex_t (by assumption) ?_; walk_at "st"))
local macro_rules | `(tactic| walk_at "ev") => `(tactic| (repeat' (first
  | (with_reducible first
    | exact ev_c
    | refine' ev_var ?_
    | exact ea_nil
    | refine' ea_cons ?_ ?_
    | refine' ev_op ?_ ?_ ?_
    | refine' ev_chain ?_ ?_ ?_ ?_ ?_
    | refine' ev_un ?_ ?_
    | exact rv_I0
    | refine' rv_I ?_
    | refine' ev_cb ?_ ?_
    | refine' ev_call ?_ ?_
    | exact rc_int
    | exact rc_max2
    | exact rc_min2
    | exact ru_neg
    | exact rc_isiI
    | exact rc_isiIB
    | exact rc_isiB
    | exact rc_isiBI
    | exact rv_eqI
    | exact rv_neI
    | refine' et_test ?_
    | refine' et_B ?_)
  | ((with_reducible show _ = _); rfl)
  | ((with_reducible show SqL _ _ _ _); walk_at "sq")
  | ((with_reducible show SqT _ _ _ _); walk_at "st")
  | ((with_reducible show CPow _ _); exact ⟨by decide, by decide, by decide⟩)
  | ((with_reducible show CDiv _ _); first | exact ⟨by decide, by decide⟩ | exact ⟨by omega, by omega⟩)
  | ((with_reducible show CMul _ _); first | exact .inr (by decide) | exact .inl (by decide) | exact .inr ⟨by omega, by omega⟩ | exact .inl ⟨by omega, by omega⟩)
  | ((with_reducible show SpV (spDraw _) _ _ _); refine' spDrawI ?_ ?_)
  | ((with_reducible show SpV _ _ _ _); walk_at "sp")
  | ((with_reducible show RC _ _ _ _); refine' rc_len ?_)
  | ((with_reducible show RV _ _ _ _ _); first | exact rv_eq rfl | exact rv_ne rfl | (refine' rv_ixL ?hq ?eq; (case hq => walk_at "sq"); (case eq => rfl)))
  | ((with_reducible show _ ≤ _); first | decide | omega)
  | ((with_reducible show _ < _); first | decide | omega)
  | decide)))
local macro_rules | `(tactic| walk_at "bo") => `(tactic| first | rfl | exact decide_eq_true (by omega) | exact decide_eq_false (by omega) | (rw [decide_eq_true (by omega)]; done) | (rw [decide_eq_false (by omega)]; done) | (simp; omega) | (simp; done))
local macro_rules | `(tactic| walk_at "tf") => `(tactic| first
  | ((with_reducible refine' et_orF ?_ ?_) <;> walk_at "tf")
  | ((with_reducible refine' et_andT ?_ ?_) <;> walk_at "tf")
  | ((with_reducible refine' et_nt ?_) <;> walk_at "tf")
  | ((with_reducible refine' et_nf ?_) <;> walk_at "tf")
  | (refine' et_is ?c ?d; (case c => walk_at "ev"); (case d => walk_at "bo")))
local macro_rules | `(tactic| walk_at "vt") => `(tactic| first
  | ((with_reducible refine' ev_andT ?_ ?_) <;> walk_at "vt")
  | ((with_reducible refine' ev_orF ?_ ?_) <;> walk_at "vt")
  | ((with_reducible refine' ev_nt ?_) <;> walk_at "vt")
  | ((with_reducible refine' ev_nf ?_) <;> walk_at "vt")
  | (refine' ev_is ?c ?d; (case c => walk_at "ev"); (case d => first | rfl | (refine congrArg V.bl ?_; walk_at "bo"))))
def topS (i : Nat) : Stmt := PySem.Challenge.pw_appendhall_k26_files_and_directories.main.body.getD i (.Pass ⟨0, 0, 0, 0⟩)
abbrev s_File___init__ : Stmt := inClass (topS 5) 0
abbrev N_File___init__ : List Str := ["self"]
theorem sc_File___init__ : FnScope N_File___init__ ["self"] (defScope s_File___init__) := ⟨rfl, rfl, rfl, by decide +kernel, rfl, by decide +kernel, by decide +kernel⟩
abbrev s_File_pieces : Stmt := inClass (topS 5) 1
abbrev N_File_pieces : List Str := ["self"]
theorem sc_File_pieces : FnScope N_File_pieces ["self"] (defScope s_File_pieces) := ⟨rfl, rfl, rfl, by decide +kernel, rfl, by decide +kernel, by decide +kernel⟩
abbrev s_File_sealed : Stmt := inClass (topS 5) 2
abbrev N_File_sealed : List Str := ["self"]
theorem sc_File_sealed : FnScope N_File_sealed ["self"] (defScope s_File_sealed) := ⟨rfl, rfl, rfl, by decide +kernel, rfl, by decide +kernel, by decide +kernel⟩
abbrev s_File_length : Stmt := inClass (topS 5) 3
abbrev N_File_length : List Str := ["self"]
theorem sc_File_length : FnScope N_File_length ["self"] (defScope s_File_length) := ⟨rfl, rfl, rfl, by decide +kernel, rfl, by decide +kernel, by decide +kernel⟩
abbrev s_File_add_piece : Stmt := inClass (topS 5) 4
abbrev N_File_add_piece : List Str := ["self", "piece", "offset", "text"]
theorem sc_File_add_piece : FnScope N_File_add_piece ["self", "piece"] (defScope s_File_add_piece) := ⟨rfl, rfl, rfl, by decide +kernel, rfl, by decide +kernel, by decide +kernel⟩
abbrev s_File_seal : Stmt := inClass (topS 5) 5
abbrev N_File_seal : List Str := ["self"]
theorem sc_File_seal : FnScope N_File_seal ["self"] (defScope s_File_seal) := ⟨rfl, rfl, rfl, by decide +kernel, rfl, by decide +kernel, by decide +kernel⟩
abbrev s_File_sealed_copy : Stmt := inClass (topS 5) 6
abbrev N_File_sealed_copy : List Str := ["self", "other"]
theorem sc_File_sealed_copy : FnScope N_File_sealed_copy ["self"] (defScope s_File_sealed_copy) := ⟨rfl, rfl, rfl, by decide +kernel, rfl, by decide +kernel, by decide +kernel⟩
abbrev s_Directory___init__ : Stmt := inClass (topS 6) 0
abbrev N_Directory___init__ : List Str := ["self"]
theorem sc_Directory___init__ : FnScope N_Directory___init__ ["self"] (defScope s_Directory___init__) := ⟨rfl, rfl, rfl, by decide +kernel, rfl, by decide +kernel, by decide +kernel⟩
abbrev s_Directory_limit : Stmt := inClass (topS 6) 1
abbrev N_Directory_limit : List Str := ["self"]
theorem sc_Directory_limit : FnScope N_Directory_limit ["self"] (defScope s_Directory_limit) := ⟨rfl, rfl, rfl, by decide +kernel, rfl, by decide +kernel, by decide +kernel⟩
abbrev s_Directory_set_limit : Stmt := inClass (topS 6) 2
abbrev N_Directory_set_limit : List Str := ["self", "most"]
theorem sc_Directory_set_limit : FnScope N_Directory_set_limit ["self", "most"] (defScope s_Directory_set_limit) := ⟨rfl, rfl, rfl, by decide +kernel, rfl, by decide +kernel, by decide +kernel⟩
abbrev s_Directory_names : Stmt := inClass (topS 6) 3
abbrev N_Directory_names : List Str := ["self"]
theorem sc_Directory_names : FnScope N_Directory_names ["self"] (defScope s_Directory_names) := ⟨rfl, rfl, rfl, by decide +kernel, rfl, by decide +kernel, by decide +kernel⟩
abbrev s_Directory_child : Stmt := inClass (topS 6) 4
abbrev N_Directory_child : List Str := ["self", "name"]
theorem sc_Directory_child : FnScope N_Directory_child ["self", "name"] (defScope s_Directory_child) := ⟨rfl, rfl, rfl, by decide +kernel, rfl, by decide +kernel, by decide +kernel⟩
abbrev s_Directory_put : Stmt := inClass (topS 6) 5
abbrev N_Directory_put : List Str := ["self", "name", "number"]
theorem sc_Directory_put : FnScope N_Directory_put ["self", "name", "number"] (defScope s_Directory_put) := ⟨rfl, rfl, rfl, by decide +kernel, rfl, by decide +kernel, by decide +kernel⟩
abbrev s_Directory_take : Stmt := inClass (topS 6) 6
abbrev N_Directory_take : List Str := ["self", "name"]
theorem sc_Directory_take : FnScope N_Directory_take ["self", "name"] (defScope s_Directory_take) := ⟨rfl, rfl, rfl, by decide +kernel, rfl, by decide +kernel, by decide +kernel⟩
abbrev s__law_stream : Stmt := topS 8
abbrev N__law_stream : List Str := ["script", "many", "draws", "cell", "rest", "k", "mixed", "wide", "j"]
theorem sc__law_stream : FnScope N__law_stream ["script", "many"] (defScope s__law_stream) := ⟨rfl, rfl, rfl, by decide +kernel, rfl, by decide +kernel, by decide +kernel⟩
abbrev s__law_draw : Stmt := topS 9
abbrev N__law_draw : List Str := ["draws", "k"]
theorem sc__law_draw : FnScope N__law_draw ["draws", "k"] (defScope s__law_draw) := ⟨rfl, rfl, rfl, by decide +kernel, rfl, by decide +kernel, by decide +kernel⟩
abbrev s__law_good : Stmt := topS 10
abbrev N__law_good : List Str := ["name"]
theorem sc__law_good : FnScope N__law_good ["name"] (defScope s__law_good) := ⟨rfl, rfl, rfl, by decide +kernel, rfl, by decide +kernel, by decide +kernel⟩
abbrev s__law_name : Stmt := topS 11
abbrev N__law_name : List Str := ["draw", "signs", "name", "rest", "k"]
theorem sc__law_name : FnScope N__law_name ["draw"] (defScope s__law_name) := ⟨rfl, rfl, rfl, by decide +kernel, rfl, by decide +kernel, by decide +kernel⟩
abbrev s__law_near : Stmt := topS 12
abbrev N__law_near : List Str := ["name", "draw", "signs", "at", "sign"]
theorem sc__law_near : FnScope N__law_near ["name", "draw"] (defScope s__law_near) := ⟨rfl, rfl, rfl, by decide +kernel, rfl, by decide +kernel, by decide +kernel⟩
abbrev s__law_names : Stmt := topS 13
abbrev N__law_names : List Str := ["draws", "at", "names", "k", "draw"]
theorem sc__law_names : FnScope N__law_names ["draws", "at"] (defScope s__law_names) := ⟨rfl, rfl, rfl, by decide +kernel, rfl, by decide +kernel, by decide +kernel⟩
abbrev s__law_text : Stmt := topS 14
abbrev N__law_text : List Str := ["draw", "signs", "size", "rest", "part", "k"]
theorem sc__law_text : FnScope N__law_text ["draw"] (defScope s__law_text) := ⟨rfl, rfl, rfl, by decide +kernel, rfl, by decide +kernel, by decide +kernel⟩
abbrev s__law_same : Stmt := topS 15
abbrev N__law_same : List Str := ["actual", "due", "k"]
theorem sc__law_same : FnScope N__law_same ["actual", "due"] (defScope s__law_same) := ⟨rfl, rfl, rfl, by decide +kernel, rfl, by decide +kernel, by decide +kernel⟩
abbrev s__law_piece : Stmt := topS 16
abbrev N__law_piece : List Str := ["draw", "second", "text", "client"]
theorem sc__law_piece : FnScope N__law_piece ["draw", "second"] (defScope s__law_piece) := ⟨rfl, rfl, rfl, by decide +kernel, rfl, by decide +kernel, by decide +kernel⟩
abbrev s__law_file_is : Stmt := topS 17
abbrev N__law_file_is : List Str := ["actual", "due", "length", "piece"]
theorem sc__law_file_is : FnScope N__law_file_is ["actual", "due"] (defScope s__law_file_is) := ⟨rfl, rfl, rfl, by decide +kernel, rfl, by decide +kernel, by decide +kernel⟩
abbrev s__law_file_step : Stmt := topS 18
abbrev N__law_file_step : List Str := ["files", "dues", "draw", "second", "at", "choice", "actual", "due", "piece", "length", "row"]
theorem sc__law_file_step : FnScope N__law_file_step ["files", "dues", "draw", "second"] (defScope s__law_file_step) := ⟨rfl, rfl, rfl, by decide +kernel, rfl, by decide +kernel, by decide +kernel⟩
abbrev s__law_take : Stmt := topS 19
abbrev N__law_take : List Str := ["directory", "name", "e"]
theorem sc__law_take : FnScope N__law_take ["directory", "name"] (defScope s__law_take) := ⟨rfl, rfl, rfl, by decide +kernel, rfl, by decide +kernel, by decide +kernel⟩
abbrev s__law_directory_step : Stmt := topS 20
abbrev N__law_directory_step : List Str := ["directory", "entries", "name", "draw", "number", "choice"]
theorem sc__law_directory_step : FnScope N__law_directory_step ["directory", "entries", "name", "draw"] (defScope s__law_directory_step) := ⟨rfl, rfl, rfl, by decide +kernel, rfl, by decide +kernel, by decide +kernel⟩
abbrev s__law_directory_is : Stmt := topS 21
abbrev N__law_directory_is : List Str := ["directory", "entries", "names", "told", "name"]
theorem sc__law_directory_is : FnScope N__law_directory_is ["directory", "entries", "names"] (defScope s__law_directory_is) := ⟨rfl, rfl, rfl, by decide +kernel, rfl, by decide +kernel, by decide +kernel⟩
abbrev s_law : Stmt := topS 22
abbrev N_law : List Str := ["script", "draws", "names", "files", "dues", "directories", "entries", "limit", "k", "draw", "second", "at"]
theorem sc_law : FnScope N_law ["script"] (defScope s_law) := ⟨rfl, rfl, rfl, by decide +kernel, rfl, by decide +kernel, by decide +kernel⟩
section
variable {P : Program} {w : World} {K : PySem.W.Frag} {mg : Str → Option Value} {base : Heap}
structure Glo (mg : Str → Option Value) : Prop where
  len : mg "len" = none
  int : mg "int" = none
  range : mg "range" = none
  min : mg "min" = none
  sum : mg "sum" = none
  isinstance : mg "isinstance" = none
  bool : mg "bool" = none
  tuple : mg "tuple" = none
  list : mg "list" = none
  str : mg "str" = none
  sorted : mg "sorted" = none
  ValueError : mg "ValueError" = none
theorem r_do {σ : L2.St} {H : Hp} {D : Ends} {te : TE} (h : te σ H D.rt) : tRet te D σ H := h
theorem qe_fldN {σ : L2.St} {B H : Hp} {l : List MP} {ta te : TE} {D : Ends} {tz : TS} {a C dx : Addr} {fs : List (Str × V)} {f : Str} {u : HO} (k : Nat) (hk : l[k]? = some (Pt a (.ins C dx fs))) (hA : At B l H) (hv : ∀ Q : VK, (∀ p H1, H p = none → Ex H H1 → H1 p = some u → Q (.ref p) H1) → te σ H Q) (ho : ∀ H1, Ev ta σ H1 (.ref a)) (c : Cls K C) (n : NoAttr K C f) (hl : fs.length < 1000) (g : ∀ p H1, At B (Pt p u :: l.set k (Pt a (.ins C dx (putF f (.ref p) fs)))) H1 → tz D σ H1) : tSeq (sFld K ta te f) tz D σ H :=
  hv _ fun p H1 np e1 hp => by
    have hA1 := at_new hA np e1 hp
    exact ho _ _ (Ex.refl _) _ fun H2 e2 => ⟨a, C, dx, fs, rfl, at_get (k + 1) (by simpa using hk) (at_ex hA1 e2), c, n, hl, g p _ (by
      have h := at_upd (u := .ins C dx (putF f (.ref p) fs)) (k + 1) (by simpa using hk) (at_ex hA1 e2)
      simpa using h)⟩
theorem k_tup {B H : Hp} {l : List MP} {p : Addr} {ds : List PyData} {Q : VK} (n : Nat) (hn : l[n]? = some (LstM K p ds)) (hA : At B l H) (q : ∀ v B1 H1, Ex B B1 → At B1 l H1 → Dp K B1 v (.tuple ds) → Q v H1) : kTup K (.ref p) H Q := by
  obtain ⟨xs, hxs, hp⟩ := lst_at (K := K) n hn hA
  refine .inl ⟨p, xs, rfl, sq_of hp, fun o ho => ?_⟩
  obtain ⟨k1, k2, k3⟩ := Ap.at_tup (vs := xs) hA ho
  exact q _ _ _ k1 k2 (.tup (st_of k3) (dpa_mono k1 _ _ hxs))
theorem go_thenK {σ : L2.St} {H : Hp} {te : TE} {k : V → Hp → VK → Prop} {Q : VK} (h : te σ H fun v H1 => k v H1 Q) : tThen te k σ H Q := h
def pcLen : PyData → Int
  | .tuple [_, _, _, .str t] => (t.length : Int)
  | _ => 0
def flN (ps : List PyData) : Int := (ps.map pcLen).sum
theorem flN_snoc (ps : List PyData) (d : PyData) : flN (ps ++ [d]) = flN ps + pcLen d := by
  unfold flN
  rw [List.map_append, List.sum_append]
  simp
structure FlC (K : PySem.W.Frag) (C : Addr) : Prop where
  cl : Cls K C
  nP : NoAttr K C "_pieces"
  nS : NoAttr K C "_sealed"
  nL : NoAttr K C "_length"
def fF (p : Addr) (b : Bool) (n : Int) : List (Str × V) := [("_pieces", .ref p), ("_sealed", .bl b), ("_length", .int n)]
def FlM (K : PySem.W.Frag) (C f : Addr) (ps : List PyData) (b : Bool) : MP := ExM fun x : Addr × Addr => Stars [Pt f (.ins C x.1 (fF x.2 b (flN ps))), LstM K x.2 ps]
theorem fl_open {B H : Hp} {F : List MP} {C f : Addr} {ps : List PyData} {b : Bool} (h : At B (FlM K C f ps b :: F) H) : ∃ dx p, At B (Pt f (.ins C dx (fF p b (flN ps))) :: LstM K p ps :: F) H := by
  obtain ⟨⟨dx, p⟩, h⟩ := at_exm h
  exact ⟨dx, p, at_stars (k := [_, _]) h⟩
theorem fl_close {B H : Hp} {F : List MP} {C f dx p : Addr} {ps : List PyData} {b : Bool} (h : At B (Pt f (.ins C dx (fF p b (flN ps))) :: LstM K p ps :: F) H) : At B (FlM K C f ps b :: F) H := at_exm' (dx, p) (at_stars' [_, _] h)
theorem fl_ins {B H : Hp} {F : List MP} {C f : Addr} {ps : List PyData} {b : Bool} (h : At B (FlM K C f ps b :: F) H) : ∃ dx p, H f = some (.ins C dx (fF p b (flN ps))) := by
  obtain ⟨dx, p, h⟩ := fl_open h
  exact ⟨dx, p, at_get 0 rfl h⟩
def spFlI (K : PySem.W.Frag) (C : Addr) : Sp := fun vs H Q _ => ∃ (f dx : Addr) (B : Hp) (F : List MP), vs = [.ref f] ∧ At B (Pt f (.ins C dx []) :: F) H ∧ ∀ H1, At B (FlM K C f [] false :: F) H1 → Q .non H1
theorem ok_finit {f C : Addr} {fd : FuncData} (F : Fun K "__init__" "File.__init__" s_File___init__ f fd) (L : FlC K C) (T : Glo mg) : FnOk P w K mg base CX0 1 f fd ["self"] (spFlI K C) := by
  refine F.ok sc_File___init__ (fun vs H Q E h => ?_) (fun cdv A outer s H vs Q E hr h => ?_)
  · obtain ⟨d, dx, B, Fr, rfl, _⟩ := h
    rfl
  · obtain ⟨d, dx, B, Fr, rfl, hA, q⟩ := h
    refine ⟨_, (pss_cons (ps_fld (pv 0) (pe_lst pa_nil) rfl)
  (pss_cons (ps_fld (pv 0) pe_bl rfl)
  (pss_one (ps_fld (pv 0) pe_int rfl)))), ?_⟩
    refine qe_fldN (K := K) (u := .lst []) 0 rfl hA (fun Q' hQ => el_lst ea_nil (by decide) H (Ex.refl H) _ fun p H1 np e1 hp => hQ p H1 np e1 hp) (fun _ => ev_var rfl) L.cl L.nP (by show 0 < 1000; decide) fun p H1 hA => ?_
    refine qe_fld (K := K) 1 rfl hA ev_c (fun _ => ev_var rfl) L.cl L.nS (by show 1 < 1000; decide) fun H2 hA => ?_
    refine se_fld (K := K) 1 rfl hA ev_c (fun _ => ev_var rfl) L.cl L.nL (by show 2 < 1000; decide) fun H3 hA => ?_
    exact q H3 (fl_close (at_ix 2 [1, 0] (at_closeL (K := K) (ds := []) 0 rfl .nil hA)))
def spFlP (K : PySem.W.Frag) (C : Addr) : Sp := fun vs H Q _ => ∃ (f : Addr) (ps : List PyData) (b : Bool) (B : Hp) (F : List MP), vs = [.ref f] ∧ At B (FlM K C f ps b :: F) H ∧ ∀ v B1 H1, Ex B B1 → Dp K B1 v (.tuple ps) → At B1 (FlM K C f ps b :: F) H1 → Q v H1
theorem ok_fpieces {f C : Addr} {fd : FuncData} (F : Fun K "pieces" "File.pieces" s_File_pieces f fd) (L : FlC K C) (T : Glo mg) : FnOk P w K mg base CX0 1 f fd ["self"] (spFlP K C) := by
  refine F.ok sc_File_pieces (fun vs H Q E h => ?_) (fun cdv A outer s H vs Q E hr h => ?_)
  · obtain ⟨d, ps, b, B, Fr, rfl, _⟩ := h
    rfl
  · obtain ⟨d, ps, b, B, Fr, rfl, hA, q⟩ := h
    refine ⟨_, (pss_one (ps_ret (pe_tupleOf (by rfl) T.tuple (pe_fld (pv 0) rfl)))), ?_⟩
    obtain ⟨dx, p, hA⟩ := fl_open hA
    exact r_do (go_thenK (go_ev (ev_fld (K := K) (ev_var rfl) (at_get 0 rfl hA) L.cl L.nP rfl) fun H1 e1 => k_tup (K := K) 1 rfl (at_ex hA e1) fun v B1 H2 b1 hA hv => q v B1 H2 b1 hv (fl_close hA)))
def spFlS (K : PySem.W.Frag) (C : Addr) : Sp := fun vs H Q _ => ∃ (f : Addr) (ps : List PyData) (b : Bool) (B : Hp) (F : List MP), vs = [.ref f] ∧ At B (FlM K C f ps b :: F) H ∧ ∀ H1, Ex H H1 → Q (.bl b) H1
theorem ok_fsealed {f C : Addr} {fd : FuncData} (F : Fun K "sealed" "File.sealed" s_File_sealed f fd) (L : FlC K C) (T : Glo mg) : FnOk P w K mg base CX0 1 f fd ["self"] (spFlS K C) := by
  refine F.ok sc_File_sealed (fun vs H Q E h => ?_) (fun cdv A outer s H vs Q E hr h => ?_)
  · obtain ⟨d, ps, b, B, Fr, rfl, _⟩ := h
    rfl
  · obtain ⟨d, ps, b, B, Fr, rfl, hA, q⟩ := h
    refine ⟨_, (pss_one (ps_ret (pe_fld (pv 0) rfl))), ?_⟩
    obtain ⟨dx, p, hd⟩ := fl_ins hA
    exact s_ret (ev_fld (K := K) (ev_var rfl) hd L.cl L.nS rfl) q
def spFlL (K : PySem.W.Frag) (C : Addr) : Sp := fun vs H Q _ => ∃ (f : Addr) (ps : List PyData) (b : Bool) (B : Hp) (F : List MP), vs = [.ref f] ∧ At B (FlM K C f ps b :: F) H ∧ ∀ H1, Ex H H1 → Q (.int (flN ps)) H1
theorem ok_flength {f C : Addr} {fd : FuncData} (F : Fun K "length" "File.length" s_File_length f fd) (L : FlC K C) (T : Glo mg) : FnOk P w K mg base CX0 1 f fd ["self"] (spFlL K C) := by
  refine F.ok sc_File_length (fun vs H Q E h => ?_) (fun cdv A outer s H vs Q E hr h => ?_)
  · obtain ⟨d, ps, b, B, Fr, rfl, _⟩ := h
    rfl
  · obtain ⟨d, ps, b, B, Fr, rfl, hA, q⟩ := h
    refine ⟨_, (pss_one (ps_ret (pe_fld (pv 0) rfl))), ?_⟩
    obtain ⟨dx, p, hd⟩ := fl_ins hA
    exact s_ret (ev_fld (K := K) (ev_var rfl) hd L.cl L.nL rfl) q
def spFlSe (K : PySem.W.Frag) (C : Addr) : Sp := fun vs H Q _ => ∃ (f : Addr) (ps : List PyData) (b : Bool) (B : Hp) (F : List MP), vs = [.ref f] ∧ At B (FlM K C f ps b :: F) H ∧ ∀ H1, At B (FlM K C f ps true :: F) H1 → Q .non H1
theorem ok_fseal {f C : Addr} {fd : FuncData} (F : Fun K "seal" "File.seal" s_File_seal f fd) (L : FlC K C) (T : Glo mg) : FnOk P w K mg base CX0 1 f fd ["self"] (spFlSe K C) := by
  refine F.ok sc_File_seal (fun vs H Q E h => ?_) (fun cdv A outer s H vs Q E hr h => ?_)
  · obtain ⟨d, ps, b, B, Fr, rfl, _⟩ := h
    rfl
  · obtain ⟨d, ps, b, B, Fr, rfl, hA, q⟩ := h
    refine ⟨_, (pss_one (ps_fld (pv 0) pe_bl rfl)), ?_⟩
    obtain ⟨dx, p, hA⟩ := fl_open hA
    exact se_fld (K := K) (C := C) (dx := dx) (fs := fF p b (flN ps)) 0 rfl hA ev_c (fun _ => ev_var rfl) L.cl L.nS (by show 3 < 1000; decide) fun H3 hA => q H3 (fl_close (dx := dx) (p := p) (show At B (Pt d (.ins C dx (fF p true (flN ps))) :: LstM K p ps :: Fr) H3 from hA))
def spFlA (K : PySem.W.Frag) (C : Addr) : Sp := fun vs H Q _ => ∃ (f : Addr) (v : V) (ps : List PyData) (a1 a2 a3 : PyData) (z : Str) (b : Bool) (B : Hp) (F : List MP), vs = [.ref f, v] ∧ At B (FlM K C f ps b :: F) H ∧ Dp K B v (.tuple [a1, a2, a3, .str z]) ∧ z.length ≤ 1000 ∧ ps.length < 1000 ∧ ∀ B1 H1, Ex B B1 → At B1 (FlM K C f (ps ++ [.tuple [a1, a2, a3, .str z]]) b :: F) H1 → Q (.int (flN ps)) H1
theorem ok_fadd {f C : Addr} {fd : FuncData} (F : Fun K "add_piece" "File.add_piece" s_File_add_piece f fd) (L : FlC K C) (T : Glo mg) : FnOk P w K mg base CX0 1 f fd ["self", "piece"] (spFlA K C) := by
  refine F.ok sc_File_add_piece (fun vs H Q E h => ?_) (fun cdv A outer s H vs Q E hr h => ?_)
  · obtain ⟨d, v, ps, a1, a2, a3, z, b, B, Fr, rfl, _⟩ := h
    rfl
  · obtain ⟨d, v, ps, a1, a2, a3, z, b, B, Fr, rfl, hA, hv, hz, hl, q⟩ := h
    refine ⟨_, (pss_cons (ps_set (i := 2) sc_File_add_piece.nd rfl (.inl rfl) (pe_fld (pv 0) rfl))
  (pss_cons (ps_set (i := 3) sc_File_add_piece.nd rfl (.inl rfl) (pe_ix ix_tup (pv 1) pe_int (fun _ _ => rfl)))
  (pss_cons (ps_expr (pe_bm PySem.F.plainAttrs_list PySem.F.slot_list_append PySem.F.type_list_append mt_append (pe_fld (pv 0) rfl) (pa_cons (pv 1) pa_nil)))
  (pss_cons (ps_fldaug (pv 0) (pe_callB call_len_str (by rfl) T.len PySem.boot_len (pa_cons (pv 3) pa_nil)) in_add)
  (pss_one (ps_ret (pv 2))))))), ?_⟩
    obtain ⟨ta, x1, x2, x3, rfl, hs⟩ : ∃ ta x1 x2 x3, v = .ref ta ∧ SqT K B ta [x1, x2, x3, .str z] := by
      cases hv with
      | tup hs hd => cases hd with
        | cons g1 r => cases r with
          | cons g2 r => cases r with
            | cons g3 r => cases r with
              | cons g4 r => cases r; cases g4; exact ⟨_, _, _, _, rfl, hs⟩
    obtain ⟨dx, p, hA⟩ := fl_open hA
    refine qe_asg hA (ev_fld (K := K) (ev_var rfl) (at_get 0 rfl hA) L.cl L.nL rfl) fun H1 hA => ?_
    refine qe_asg hA (ev_op (ev_var rfl) ev_c (rv_ixT (ex_t (at_base hA) hs) (atI_nat (j := 3) rfl))) fun H2 hA => ?_
    refine qm_appF (K := K) (ds := ps) (d := .tuple [a1, a2, a3, .str z]) 1 rfl hA (fun H3 hA => ev_fld (K := K) (ev_var rfl) (at_get 0 rfl hA) L.cl L.nP rfl) (wv_var rfl hv) (by omega) fun B1 H3 b1 hA => ?_
    refine qe_faug (K := K) (i := flN ps) (j := (z.length : Int)) 0 rfl hA (ev_var rfl) (fun H4 => ev_cb (ea_cons (ev_var rfl) ea_nil) (rc_lenS (by omega))) L.cl L.nL rfl (by show 3 < 1000; decide) fun H4 hA => ?_
    have e : flN ps + (z.length : Int) = flN (ps ++ [.tuple [a1, a2, a3, .str z]]) := by rw [flN_snoc]; rfl
    rw [e] at hA
    have hA : At B1 (Pt d (.ins C dx (fF p b (flN (ps ++ [.tuple [a1, a2, a3, .str z]])))) :: LstM K p (ps ++ [.tuple [a1, a2, a3, .str z]]) :: Fr) H4 := hA
    exact se_ret hA (ev_var rfl) fun H5 hA => q B1 H5 b1 (fl_close hA)
def spFlC (K : PySem.W.Frag) (C : Addr) : Sp := fun vs H Q _ => ∃ (f : Addr) (ps : List PyData) (b : Bool) (B : Hp) (F : List MP), vs = [.ref f] ∧ At B (FlM K C f ps b :: F) H ∧ ∀ g H1, At B (FlM K C g ps true :: FlM K C f ps b :: F) H1 → Q (.ref g) H1
theorem ok_fcopy {f f_i C : Addr} {fd fd_i : FuncData} (F : Fun K "sealed_copy" "File.sealed_copy" s_File_sealed_copy f fd) (L_File : Kl K mg "File" C) (L : FlC K C) (D_File___init__ : Dm K C "__init__" "File.__init__" s_File___init__ ["self"] f_i fd_i) (G_File___init__ : FnOk P w K mg base CX0 1 f_i fd_i ["self"] (spFlI K C)) (T : Glo mg) : FnOk P w K mg base CX0 3 f fd ["self"] (spFlC K C) := by
  refine F.ok sc_File_sealed_copy (fun vs H Q E h => ?_) (fun cdv A outer s H vs Q E hr h => ?_)
  · obtain ⟨d, ps, b, B, Fr, rfl, _⟩ := h
    rfl
  · obtain ⟨d, ps, b, B, Fr, rfl, hA, q⟩ := h
    refine ⟨_, (pss_cons (ps_set (i := 1) sc_File_sealed_copy.nd rfl (.inl rfl) (pe_make0 (L_File.make D_File___init__) G_File___init__ (hr.mono (by decide)) (by rfl) L_File.g D_File___init__.b .nil pass0))
  (pss_cons (ps_fld (pv 1) (pe_callTy call_list_of (by rfl) T.list (by decide +kernel) (pa_cons (pe_fld (pv 0) rfl) pa_nil)) rfl)
  (pss_cons (ps_fld (pv 1) pe_bl rfl)
  (pss_cons (ps_fld (pv 1) (pe_fld (pv 0) rfl) rfl)
  (pss_one (ps_ret (pv 1))))))), ?_⟩
    refine qe_make hA ea_nil fun g gx H1 hA => ⟨g, gx, _, _, rfl, hA, fun H2 hA => ⟨rfl, ?_⟩⟩
    obtain ⟨gx, gp, hA⟩ := fl_open hA
    obtain ⟨dx, dp, hA⟩ := fl_open (at_ix 3 [2, 0, 1] hA)
    obtain ⟨xs, hx, hA⟩ := at_openL (K := K) 1 rfl hA
    have hA : At B (Pt d (.ins C dx (fF dp b (flN ps))) :: Pt dp (.lst xs) :: Pt g (.ins C gx (fF gp false (flN []))) :: LstM K gp [] :: Fr) H2 := hA
    refine qe_fldN (K := K) (u := .lst xs) 2 rfl hA (fun Q' hQ => go_cons (ev_fld (K := K) (ev_var rfl) (at_get 0 rfl hA) L.cl L.nP rfl) fun H3 e3 => go_nil ⟨_, _, rfl, .inl (sq_of (at_get (a := dp) 1 rfl (at_ex hA e3))), fun p hp => hQ p _ (fresh_back e3 hp) (e3.trans (Ex.new hp)) upd_same⟩) (fun _ => ev_var rfl) L.cl L.nP (by show 3 < 1000; decide) fun p1 H3 hA => ?_
    refine qe_fld (K := K) 3 rfl hA ev_c (fun _ => ev_var rfl) L.cl L.nS (by show 3 < 1000; decide) fun H4 hA => ?_
    refine qe_fld (K := K) 3 rfl hA (ev_fld (K := K) (ev_var rfl) (at_get (a := d) 1 rfl hA) L.cl L.nL rfl) (fun _ => ev_var rfl) L.cl L.nL (by show 3 < 1000; decide) fun H5 hA => ?_
    refine se_ret hA (ev_var rfl) fun H6 hA => q g H6 ?_
    have hA := at_closeL (K := K) (ds := ps) 0 rfl hx hA
    have hA := at_closeL (K := K) (ds := ps) 2 rfl hx hA
    have hA : At B (LstM K p1 ps :: Pt d (.ins C dx (fF dp b (flN ps))) :: LstM K dp ps :: Pt g (.ins C gx (fF p1 true (flN ps))) :: LstM K gp [] :: Fr) H6 := hA
    have hA : At B (FlM K C d ps b :: LstM K p1 ps :: Pt g (.ins C gx (fF p1 true (flN ps))) :: LstM K gp [] :: Fr) H6 := fl_close (at_ix 3 [1, 2, 0] hA)
    have hA : At B (FlM K C g ps true :: FlM K C d ps b :: LstM K gp [] :: Fr) H6 := fl_close (at_ix 3 [2, 1, 0] hA)
    exact at_drop (at_ix 3 [2, 0, 1] hA)
def kvT (l : List (Str × V)) : List (Key × V) := l.map fun p => (Sum.inr p.1, p.2)
theorem kvT_val (k : Str) : ∀ l : List (Str × V), valV (kvT l) (Sum.inr k) = valV l k
  | [] => rfl
  | p :: r => by
    have ih := kvT_val k r
    show valV ((Sum.inr p.1, p.2) :: kvT r) (Sum.inr k) = valV (p :: r) k
    by_cases h : p.1 = k
    · rw [valV_pos (p := (Sum.inr p.1, p.2)) (by show Sum.inr p.1 = Sum.inr k; rw [h]), valV_pos h]
    · rw [valV_neg (p := (Sum.inr p.1, p.2)) (fun e => h (Sum.inr.inj e)), valV_neg h, ih]
theorem kvT_any (k : Str) : ∀ l : List (Str × V), ((kvT l).any fun kv => decide (kv.1 = Sum.inr k)) = l.any fun kv => decide (kv.1 = k)
  | [] => rfl
  | p :: r => by
    have ih := kvT_any k r
    show (decide ((Sum.inr p.1 : Key) = Sum.inr k) || (kvT r).any _) = (decide (p.1 = k) || r.any _)
    rw [ih]
    congr 1
    by_cases h : p.1 = k
    · rw [decide_eq_true h, decide_eq_true (by rw [h])]
    · rw [decide_eq_false h, decide_eq_false (fun e => h (Sum.inr.inj e))]
theorem kvT_put (l : List (Str × V)) (k : Str) (v : V) : putK (kvT l) (Sum.inr k) v = kvT (putK l k v) := by
  unfold putK
  rw [kvT_any]
  split
  · unfold kvT
    rw [List.map_map, List.map_map]
    refine List.map_congr_left fun p _ => ?_
    show (if (Sum.inr p.1 : Key) = Sum.inr k then ((Sum.inr p.1 : Key), v) else (Sum.inr p.1, p.2)) = (Sum.inr (if p.1 = k then (p.1, v) else p).1, (if p.1 = k then (p.1, v) else p).2)
    by_cases h : p.1 = k
    · rw [if_pos h, if_pos (by rw [h])]
    · rw [if_neg h, if_neg (fun e => h (Sum.inr.inj e))]
  · unfold kvT
    rw [List.map_append]
    rfl
theorem kvT_drop (l : List (Str × V)) (k : Str) : dropK (kvT l) (Sum.inr k) = kvT (dropK l k) := by
  unfold dropK kvT
  rw [List.filter_map]
  congr 1
  refine List.filter_congr fun p _ => ?_
  show decide ((Sum.inr p.1 : Key) ≠ Sum.inr k) = decide (p.1 ≠ k)
  by_cases h : p.1 = k
  · simp [h]
  · simp [h]
theorem kvT_keys (l : List (Str × V)) : (kvT l).map (·.1) = (l.map (·.1)).map Sum.inr := by
  unfold kvT
  rw [List.map_map, List.map_map]
  rfl
theorem go_dget1 {σ : L2.St} {H : Hp} {td ty : TE} {Q : VK} (h : td σ H fun x H1 => ∃ a, x = .ref a ∧ IsD H1 a ∧ ty σ H1 fun y H2 => ∃ o, DGet H2 a y o ∧ Q (o.getD .non) H2) : tDGet1 td ty σ H Q := h
theorem go_dpop1 {σ : L2.St} {H : Hp} {td ty : TE} {Q : VK} (h : td σ H fun x H1 => ∃ a, x = .ref a ∧ IsD H1 a ∧ ty σ H1 fun y H2 => ∃ kvs k v, H2 a = some (.dK kvs) ∧ y = kV k ∧ valV kvs k = some v ∧ Q v (upd H2 a (.dK (dropK kvs k)))) : tDPop1 td ty σ H Q := h
theorem s_dput {σ : L2.St} {H : Hp} {D : Ends} {td ty tv : TE} (h : tv σ H fun v H1 => td σ H1 fun x H2 => ty σ H2 fun y H3 => ∃ a H4, x = .ref a ∧ DPut H3 a y v H4 ∧ D.nx σ H4) : sDPut td ty tv D σ H := h
theorem et_dnin {σ : L2.St} {H : Hp} {ty td : TE} {a : Addr} {l : List (Str × V)} {z : Str} (hy : Ev ty σ H (.str z)) (hd : Ev td σ H (.ref a)) (h : H a = some (.dK (kvT l))) : EvT (tB (tDNotIn ty td)) σ H (!(valV l z).isSome) := et_B (fun H1 e Q q => hy H1 e _ fun H2 e2 => hd H2 (e.trans e2) _ fun H3 e3 => ⟨a, valV l z, rfl, by
  rw [← kvT_val]
  exact DGet.k (k := Sum.inr z) (((e.trans e2).trans e3) _ _ h), q H3 (e2.trans e3)⟩)
structure DrC (K : PySem.W.Frag) (C : Addr) : Prop where
  cl : Cls K C
  nE : NoAttr K C "_entries"
  nL : NoAttr K C "_limit"
def fDr (e : Addr) (lim : V) : List (Str × V) := [("_entries", .ref e), ("_limit", lim)]
def DrM (K : PySem.W.Frag) (C d : Addr) (l : List (Str × V)) (lim : V) : MP := ExM fun x : Addr × Addr => Stars [Pt d (.ins C x.1 (fDr x.2 lim)), Pt x.2 (.dK (kvT l))]
theorem dr_open {B H : Hp} {F : List MP} {C d : Addr} {l : List (Str × V)} {lim : V} (h : At B (DrM K C d l lim :: F) H) : ∃ dx e, At B (Pt d (.ins C dx (fDr e lim)) :: Pt e (.dK (kvT l)) :: F) H := by
  obtain ⟨⟨dx, e⟩, h⟩ := at_exm h
  exact ⟨dx, e, at_stars (k := [_, _]) h⟩
theorem dr_close {B H : Hp} {F : List MP} {C d dx e : Addr} {l : List (Str × V)} {lim : V} (h : At B (Pt d (.ins C dx (fDr e lim)) :: Pt e (.dK (kvT l)) :: F) H) : At B (DrM K C d l lim :: F) H := at_exm' (dx, e) (at_stars' [_, _] h)
def spDrI (K : PySem.W.Frag) (C : Addr) : Sp := fun vs H Q _ => ∃ (f dx : Addr) (B : Hp) (F : List MP), vs = [.ref f] ∧ At B (Pt f (.ins C dx []) :: F) H ∧ ∀ H1, At B (DrM K C f [] .non :: F) H1 → Q .non H1
theorem ok_drinit {f C : Addr} {fd : FuncData} (F : Fun K "__init__" "Directory.__init__" s_Directory___init__ f fd) (L : DrC K C) (T : Glo mg) : FnOk P w K mg base CX0 1 f fd ["self"] (spDrI K C) := by
  refine F.ok sc_Directory___init__ (fun vs H Q E h => ?_) (fun cdv A outer s H vs Q E hr h => ?_)
  · obtain ⟨d, dx, B, Fr, rfl, _⟩ := h
    rfl
  · obtain ⟨d, dx, B, Fr, rfl, hA, q⟩ := h
    refine ⟨_, (pss_cons (ps_fld (pv 0) pe_dnewK rfl)
  (pss_one (ps_fld (pv 0) pe_non rfl))), ?_⟩
    refine qe_fldD (K := K) 0 rfl hA (fun _ => ev_var rfl) L.cl L.nE (by show 0 < 1000; decide) fun e H1 hA => ?_
    refine se_fld (K := K) 1 rfl hA ev_c (fun _ => ev_var rfl) L.cl L.nL (by show 1 < 1000; decide) fun H2 hA => ?_
    have hA : At B (Pt e (.dK (kvT [])) :: Pt d (.ins C dx (fDr e .non)) :: Fr) H2 := hA
    exact q H2 (dr_close (at_ix 2 [1, 0] hA))
def spDrL (K : PySem.W.Frag) (C : Addr) : Sp := fun vs H Q _ => ∃ (d : Addr) (l : List (Str × V)) (lim : V) (B : Hp) (F : List MP), vs = [.ref d] ∧ At B (DrM K C d l lim :: F) H ∧ ∀ H1, Ex H H1 → Q lim H1
theorem ok_drlimit {f C : Addr} {fd : FuncData} (F : Fun K "limit" "Directory.limit" s_Directory_limit f fd) (L : DrC K C) (T : Glo mg) : FnOk P w K mg base CX0 1 f fd ["self"] (spDrL K C) := by
  refine F.ok sc_Directory_limit (fun vs H Q E h => ?_) (fun cdv A outer s H vs Q E hr h => ?_)
  · obtain ⟨d, l, lim, B, Fr, rfl, _⟩ := h
    rfl
  · obtain ⟨d, l, lim, B, Fr, rfl, hA, q⟩ := h
    refine ⟨_, (pss_one (ps_ret (pe_fld (pv 0) rfl))), ?_⟩
    obtain ⟨dx, e, hA⟩ := dr_open hA
    exact s_ret (ev_fld (K := K) (ev_var rfl) (at_get 0 rfl hA) L.cl L.nL rfl) q
def spDrS (K : PySem.W.Frag) (C : Addr) : Sp := fun vs H Q _ => ∃ (d : Addr) (v : V) (l : List (Str × V)) (lim : V) (B : Hp) (F : List MP), vs = [.ref d, v] ∧ At B (DrM K C d l lim :: F) H ∧ ∀ H1, At B (DrM K C d l v :: F) H1 → Q .non H1
theorem ok_drset {f C : Addr} {fd : FuncData} (F : Fun K "set_limit" "Directory.set_limit" s_Directory_set_limit f fd) (L : DrC K C) (T : Glo mg) : FnOk P w K mg base CX0 1 f fd ["self", "most"] (spDrS K C) := by
  refine F.ok sc_Directory_set_limit (fun vs H Q E h => ?_) (fun cdv A outer s H vs Q E hr h => ?_)
  · obtain ⟨d, v, l, lim, B, Fr, rfl, _⟩ := h
    rfl
  · obtain ⟨d, v, l, lim, B, Fr, rfl, hA, q⟩ := h
    refine ⟨_, (pss_one (ps_fld (pv 0) (pv 1) rfl)), ?_⟩
    obtain ⟨dx, e, hA⟩ := dr_open hA
    exact se_fld (K := K) (C := C) (dx := dx) (fs := fDr e lim) 0 rfl hA (ev_var rfl) (fun _ => ev_var rfl) L.cl L.nL (by show 2 < 1000; decide) fun H3 hA => q H3 (dr_close (dx := dx) (e := e) (show At B (Pt d (.ins C dx (fDr e v)) :: Pt e (.dK (kvT l)) :: Fr) H3 from hA))
def spDrC (K : PySem.W.Frag) (C : Addr) : Sp := fun vs H Q _ => ∃ (d : Addr) (z : Str) (l : List (Str × V)) (lim : V) (B : Hp) (F : List MP), vs = [.ref d, .str z] ∧ At B (DrM K C d l lim :: F) H ∧ ∀ H1, Ex H H1 → Q ((valV l z).getD .non) H1
theorem ok_drchild {f C : Addr} {fd : FuncData} (F : Fun K "child" "Directory.child" s_Directory_child f fd) (L : DrC K C) (T : Glo mg) : FnOk P w K mg base CX0 1 f fd ["self", "name"] (spDrC K C) := by
  refine F.ok sc_Directory_child (fun vs H Q E h => ?_) (fun cdv A outer s H vs Q E hr h => ?_)
  · obtain ⟨d, z, l, lim, B, Fr, rfl, _⟩ := h
    rfl
  · obtain ⟨d, z, l, lim, B, Fr, rfl, hA, q⟩ := h
    refine ⟨_, (pss_one (ps_ret (pe_dget1 (hu_of hr) (pe_fld (pv 0) rfl) (pv 1) ⟨rfl, rfl, rfl, rfl⟩))), ?_⟩
    obtain ⟨dx, e, hA⟩ := dr_open hA
    refine r_do (go_dget1 (go_ev (ev_fld (K := K) (ev_var rfl) (at_get 0 rfl hA) L.cl L.nE rfl) fun H1 e1 => ⟨e, rfl, .inl ⟨_, .inl (at_get (a := e) 1 rfl (at_ex hA e1))⟩, go_ev (ev_var rfl) fun H2 e2 => ⟨valV l z, ?_, q H2 (e1.trans e2)⟩⟩))
    rw [← kvT_val]
    exact DGet.k (k := Sum.inr z) (at_get (a := e) 1 rfl (at_ex hA (e1.trans e2)))
def spDrP (K : PySem.W.Frag) (C : Addr) : Sp := fun vs H Q _ => ∃ (d : Addr) (z : Str) (v : V) (l : List (Str × V)) (lim : V) (B : Hp) (F : List MP), vs = [.ref d, .str z, v] ∧ At B (DrM K C d l lim :: F) H ∧ l.length < 1000 ∧ ∀ H1, At B (DrM K C d (putK l z v) lim :: F) H1 → Q .non H1
theorem ok_drput {f C : Addr} {fd : FuncData} (F : Fun K "put" "Directory.put" s_Directory_put f fd) (L : DrC K C) (T : Glo mg) : FnOk P w K mg base CX0 1 f fd ["self", "name", "number"] (spDrP K C) := by
  refine F.ok sc_Directory_put (fun vs H Q E h => ?_) (fun cdv A outer s H vs Q E hr h => ?_)
  · obtain ⟨d, z, v, l, lim, B, Fr, rfl, _⟩ := h
    rfl
  · obtain ⟨d, z, v, l, lim, B, Fr, rfl, hA, hl, q⟩ := h
    refine ⟨_, (pss_one (ps_dput (hu_of hr) (pe_fld (pv 0) rfl) (pv 1) (pv 2) rfl)), ?_⟩
    obtain ⟨dx, e, hA⟩ := dr_open hA
    refine s_dput (go_ev (ev_var rfl) fun H1 e1 => go_ev (ev_fld (K := K) (ev_var rfl) (at_get 0 rfl (at_ex hA e1)) L.cl L.nE rfl) fun H2 e2 => go_ev (ev_var rfl) fun H3 e3 => ?_)
    have hA := at_ex hA ((e1.trans e2).trans e3)
    have he := at_get (a := e) 1 rfl hA
    refine ⟨e, _, rfl, DPut.k (k := Sum.inr z) he (sz_lt (by unfold kvT; rw [List.length_map]; omega)), ?_⟩
    rw [kvT_put]
    have hA := at_upd (a := e) (u := .dK (kvT (putK l z v))) 1 rfl hA
    exact q _ (dr_close (dx := dx) (e := e) hA)
def spDrN (K : PySem.W.Frag) (C : Addr) : Sp := fun vs H Q _ => ∃ (d : Addr) (l : List (Str × V)) (lim : V) (B : Hp) (F : List MP), vs = [.ref d] ∧ At B (DrM K C d l lim :: F) H ∧ l.length < 64 ∧ ∀ ys p H1, ys.Perm (l.map (·.1)) → sortedS ys = true → At B (Pt p (.lst (ys.map V.str)) :: DrM K C d l lim :: F) H1 → Q (.ref p) H1
theorem ok_drnames {f C : Addr} {fd : FuncData} (F : Fun K "names" "Directory.names" s_Directory_names f fd) (L : DrC K C) (T : Glo mg) : FnOk P w K mg base CX0 1 f fd ["self"] (spDrN K C) := by
  refine F.ok sc_Directory_names (fun vs H Q E h => ?_) (fun cdv A outer s H vs Q E hr h => ?_)
  · obtain ⟨d, l, lim, B, Fr, rfl, _⟩ := h
    rfl
  · obtain ⟨d, l, lim, B, Fr, rfl, hA, hl, q⟩ := h
    refine ⟨_, (pss_one (ps_ret (pe_callB (call_sortedD rfl) (by rfl) T.sorted (by decide +kernel) (pa_cons (pe_fld (pv 0) rfl) pa_nil)))), ?_⟩
    obtain ⟨dx, e, hA⟩ := dr_open hA
    refine r_do (go_cons (ev_fld (K := K) (ev_var rfl) (at_get 0 rfl hA) L.cl L.nE rfl) fun H1 e1 => go_nil ⟨e, _, l.map (·.1), rfl, .inl (at_get (a := e) 1 rfl (at_ex hA e1)), kvT_keys l, by rw [List.length_map]; exact hl, fun ys p hp hs np => ?_⟩)
    have hA := at_new (at_ex hA e1) np (Ex.new np) (upd_same (o := .lst (ys.map V.str)))
    exact q ys p _ hp hs (at_swap (dr_close (at_ix 3 [1, 2, 0] hA)))
def spDrT (K : PySem.W.Frag) (C CU : Addr) : Sp := fun vs H Q E => ∃ (d : Addr) (z : Str) (l : List (Str × V)) (lim : V) (B : Hp) (F : List MP), vs = [.ref d, .str z] ∧ At B (DrM K C d l lim :: F) H ∧ (∀ v, valV l z = some v → ∀ H1, At B (DrM K C d (dropK l z) lim :: F) H1 → Q v H1) ∧ (valV l z = none → ∀ H1, Ex H H1 → E (.ref CU) none H1)
theorem ok_drtake {f C C_Unknown BU : Addr} {fd : FuncData} (F : Fun K "take" "Directory.take" s_Directory_take f fd) (L : DrC K C) (E_Unknown : Err K mg "Unknown" C_Unknown BU) (T : Glo mg) : FnOk P w K mg base (L2.CX P w) 1 f fd ["self", "name"] (spDrT K C C_Unknown) := by
  refine F.okX sc_Directory_take (fun vs H Q E h => ?_) (fun cdv A outer s H vs Q E hr h => ?_)
  · obtain ⟨d, z, l, lim, B, Fr, rfl, _⟩ := h
    rfl
  · obtain ⟨d, z, l, lim, B, Fr, rfl, hA, q1, q2⟩ := h
    refine ⟨_, (pss_cons (ps_if (pt_cmp (pc_dnotin (by exact hu_of hr) (pv 1) (show PE _ _ (tFld K _ "_entries") from pe_fld (pv 0) (by rfl))))
  (pss_one (ps_raise rfl (takes_of rfl rfl rfl rfl) (Err.mk' E_Unknown rfl)))
  pss_nil)
  (pss_one (ps_ret (pe_dpop1 (pe_fld (pv 0) rfl) (pv 1) ⟨rfl, rfl, rfl, rfl⟩)))), ?_⟩
    obtain ⟨dx, e, hA⟩ := dr_open hA
    refine q_when (b := !(valV l z).isSome) (et_dnin (ev_var rfl) (ev_fld (K := K) (ev_var rfl) (at_get 0 rfl hA) L.cl L.nE rfl) (at_get (a := e) 1 rfl hA)) (fun hb H1 e1 => q2 (by cases hv : valV l z with | none => rfl | some x => rw [hv] at hb; cases hb) H1 e1) (fun hb H1 e1 => ?_)
    obtain ⟨v, hv⟩ : ∃ v, valV l z = some v := by
      cases hv : valV l z with
      | none => rw [hv] at hb; cases hb
      | some x => exact ⟨x, rfl⟩
    have hA := at_ex hA e1
    refine r_do (go_dpop1 (go_ev (ev_fld (K := K) (ev_var rfl) (at_get 0 rfl hA) L.cl L.nE rfl) fun H2 e2 => ⟨e, rfl, .inl ⟨_, .inl (at_get (a := e) 1 rfl (at_ex hA e2))⟩, go_ev (ev_var rfl) fun H3 e3 => ⟨_, Sum.inr z, v, at_get (a := e) 1 rfl (at_ex hA (e2.trans e3)), rfl, by rw [kvT_val]; exact hv, ?_⟩⟩))
    rw [kvT_drop]
    have hA := at_upd (a := e) (u := .dK (kvT (dropK l z))) 1 rfl (at_ex hA (e2.trans e3))
    exact q1 v hv _ (dr_close (dx := dx) (e := e) hA)
inductive Oks : Nat → PyData → Prop
  | int {n : Nat} (i : Int) : Oks n (.int i)
  | str {n : Nat} (z : Str) : Oks n (.str z)
  | tup {n : Nat} {ds : List PyData} (h : ds.length ≤ 50000) (hs : ∀ d, d ∈ ds → Oks n d) : Oks (n + 1) (.tuple ds)
def spSm (K : PySem.W.Frag) (n : Nat) : Sp := fun vs H Q _ => ∃ (x y : V) (d : PyData), vs = [x, y] ∧ Dx K H x d ∧ Dx K H y d ∧ Oks n d ∧ RetV (.bl true) H Q
theorem ok_same26 {f : Addr} {fd : FuncData} (D__law_same : Df K mg "_law_same" s__law_same ["actual", "due"] f fd) (T : Glo mg) : ∀ n : Nat, FnOk P w K mg base CX0 (n + 1) f fd ["actual", "due"] (spSm K n) := fun n => by
  have key : ∀ (n : Nat) (S : Sp), FnOk P w K mg base CX0 n f fd ["actual", "due"] S → (∀ m, n = m + 1 → S = spSm K m) → FnOk P w K mg base CX0 (n + 1) f fd ["actual", "due"] (spSm K n) := fun n S G__law_same hSm => by
    refine D__law_same.F.ok sc__law_same (fun vs H Q E h => ?_) (fun cdv A outer s H vs Q E hr h => ?_)
    · obtain ⟨x, y, d, rfl, _⟩ := h
      rfl
    · obtain ⟨x, y, d, rfl, hx, hy, ok, q⟩ := h
      refine ⟨_, (pss_cons (ps_if (pt_val (pe_callB call_isi (by rfl) T.isinstance (by decide +kernel) (pa_cons (pv 1) (pa_cons (pe_bltn (v := .ty "tuple") (u := .type "tuple") (by rfl) T.tuple (by decide +kernel) rfl) pa_nil))))
  (pss_cons (ps_if (PW.pt (pw_or (pt_not (pt_val (pe_callB call_isi (by rfl) T.isinstance (by decide +kernel) (pa_cons (pv 0) (pa_cons (pe_bltn (v := .ty "tuple") (u := .type "tuple") (by rfl) T.tuple (by decide +kernel) rfl) pa_nil))))) (pw_or1 (pt_cmpR op_ne (pe_callB call_len_seq (by rfl) T.len PySem.boot_len (pa_cons (pv 0) pa_nil)) (pe_callB call_len_seq (by rfl) T.len PySem.boot_len (pa_cons (pv 1) pa_nil)) (nomark _)))))
  (pss_one (ps_ret pe_bl))
  pss_nil)
  (pss_cons (ps_for PassesOwn.never rfl (pi_range1 (by rfl) T.range (pa_cons (pe_callB call_len_seq (by rfl) T.len PySem.boot_len (pa_cons (pv 1) pa_nil)) pa_nil)) (pg_name (i := 2) sc__law_same.nd rfl (.inl rfl))
  (pss_one (ps_if (pt_not (pt_val (pe_call G__law_same (hr.mono (by omega)) (by rfl) D__law_same.g D__law_same.F.kp D__law_same.b .nil pass0 (pa_cons (pe_ix ix_tup (pv 0) (pv 2) (fun _ _ => rfl)) (pa_cons (pe_ix ix_tup (pv 1) (pv 2) (fun _ _ => rfl)) pa_nil)))))
  (pss_one (ps_ret pe_bl))
  pss_nil)))
  (pss_one (ps_ret pe_bl))))
  pss_nil)
  (pss_cons (ps_if (pt_val (pe_callB call_isi (by rfl) T.isinstance (by decide +kernel) (pa_cons (pv 1) (pa_cons (pe_bltn (v := .ty "str") (u := .type "str") (by rfl) T.str (by decide +kernel) rfl) pa_nil))))
  (pss_one (ps_ret (pe_and (pe_callB call_isi (by rfl) T.isinstance (by decide +kernel) (pa_cons (pv 0) (pa_cons (pe_bltn (v := .ty "str") (u := .type "str") (by rfl) T.str (by decide +kernel) rfl) pa_nil))) (pe_one (pe_cmpR op_eq (pv 0) (pv 1) (nomark _))))))
  pss_nil)
  (pss_one (ps_ret (pe_and (pe_callB call_isi (by rfl) T.isinstance (by decide +kernel) (pa_cons (pv 0) (pa_cons (pe_bltn (v := .ty "int") (u := .type "int") (by rfl) T.int (by decide +kernel) rfl) pa_nil))) (pe_and (pe_not (pe_callB call_isi (by rfl) T.isinstance (by decide +kernel) (pa_cons (pv 0) (pa_cons (pe_bltn (v := .ty "bool") (u := .type "bool") (by rfl) T.bool (by decide +kernel) rfl) pa_nil)))) (pe_one (pe_cmpR op_eq (pv 0) (pv 1) (nomark _))))))))), ?_⟩
      cases ok with
      | @tup m ds hl hok =>
        have hS := hSm m rfl
        subst hS
        refine q_when (b := true) (et_B (ev_isiX (K := K) (ex_var rfl hy) (kit_tup _))) (fun _ H1 e1 => ?_) (fun hb => nomatch hb)
        have hx1 := dx_mono e1 _ _ hx
        have hy1 := dx_mono e1 _ _ hy
        refine q_when (b := false) (et_is (et_or (a := false) (b := false) (et_is (et_not (et_B (ev_isiX (K := K) (ex_var rfl hx1) (kit_tup _)))) rfl) (fun _ => et_is (et_test (ev_op (ev_lenXT (K := K) (ex_var rfl hx1)) (ev_lenXT (K := K) (ex_var rfl hy1)) rv_neI)) (by rw [decide_eq_true rfl]; rfl))) rfl) (fun hb => nomatch hb) (fun _ H2 e2 => ?_)
        have hx2 := dx_mono e2 _ _ hx1
        have hy2 := dx_mono e2 _ _ hy1
        refine q_forR1 (n := (ds.length : Int)) (ea_cons (ev_lenXT (K := K) (ex_var rfl hy2)) ea_nil) (by omega) (fun i σ' H' => ∃ y2 : Option V, σ' = [some x, some y, y2] ∧ Ex H2 H') (fun H4 e4 => ⟨none, rfl, e4⟩) (fun i σ' H' hi p => ?_) (fun σ' H' p => ?_)
        · obtain ⟨y2, rfl, e4⟩ := p
          have hx4 := dx_mono e4 _ _ hx2
          have hy4 := dx_mono e4 _ _ hy2
          have hil : i < ds.length := by omega
          have hat : atI ds (i : Int) = some ds[i] := atI_nat (List.getElem?_eq_getElem hil)
          refine s_when (b := false) (et_nt (et_B (ev_callD (K := K) (exs_cons (ex_ixT (K := K) (ex_var rfl hx4) (ev_var rfl) hat) (exs_cons (ex_ixT (K := K) (ex_var rfl hy4) (ev_var rfl) hat) exs_nil)) (fun vs H5 e5 hv Q q => ?_)))) (fun hb => nomatch hb) (fun _ H5 e5 => ⟨_, rfl, e4.trans e5⟩)
          cases hv with
          | cons h1 h2 => cases h2 with
            | cons h2 h3 =>
              cases h3
              exact ⟨_, _, _, rfl, h1, h2, hok _ (List.getElem_mem hil), q⟩
        · obtain ⟨y2, rfl, e4⟩ := p
          exact s_ret ev_c (fun H5 e5 => q H5 (((e1.trans e2).trans e4).trans e5))
      | int i =>
        have hy0 := hy
        cases hx
        cases hy
        refine q_when (b := false) (et_B (ev_isiX (K := K) (ex_var rfl hy0) (kit_tup _))) (fun hb => nomatch hb) (fun _ H1 e1 => ?_)
        have hy1 := dx_mono e1 _ _ hy0
        refine q_when (b := false) (et_B (ev_isiX (K := K) (ex_var rfl hy1) (kit_str _))) (fun hb => nomatch hb) (fun _ H2 e2 => ?_)
        have hy2 := dx_mono e2 _ _ hy1
        exact s_ret (ev_andT (ev_isiX (K := K) (ex_var rfl hy2) (kit_int _)) (ev_andT (ev_nf (ev_isiX (K := K) (ex_var rfl hy2) (kit_bool _))) (ev_op (ev_var rfl) (ev_var rfl) (rv_eqT rfl)))) (fun H5 e5 => q H5 ((e1.trans e2).trans e5))
      | str z =>
        have hy0 := hy
        cases hx
        cases hy
        refine q_when (b := false) (et_B (ev_isiX (K := K) (ex_var rfl hy0) (kit_tup _))) (fun hb => nomatch hb) (fun _ H1 e1 => ?_)
        have hy1 := dx_mono e1 _ _ hy0
        refine q_when (b := true) (et_B (ev_isiX (K := K) (ex_var rfl hy1) (kit_str _))) (fun _ H2 e2 => ?_) (fun hb => nomatch hb)
        have hy2 := dx_mono e2 _ _ hy1
        exact s_ret (ev_andT (ev_isiX (K := K) (ex_var rfl hy2) (kit_str _)) (ev_op (ev_var rfl) (ev_var rfl) (rv_eqT rfl))) (fun H5 e5 => q H5 ((e1.trans e2).trans e5))
  induction n with
  | zero => exact key 0 (fun _ _ _ _ => False) fn_false (fun m h => nomatch h)
  | succ n ih => exact key (n + 1) _ ih (fun m h => by cases h; rfl)
abbrev NC : Str := Str.ofString ".-abcdefghijklmnopqrstuvwxyz0123456789"
def nmC (c : Nat) : Bool := !(Builtin.Str.occurrences NC ⟨#[c]⟩ 0 NC.length 1).isEmpty
def nmS (z : Str) : Bool := (decide ((1 : Int) ≤ (z.length : Int)) && decide ((z.length : Int) ≤ 12)) && (!(decide (V.str z = V.str ".") || decide (V.str z = V.str "..")) && z.cps.toList.all nmC)
theorem nmC_eq (c : Nat) : nmC c = decide (c ∈ NC.cps.toList) := StrLaws.found_one NC c
abbrev T24 : Int := (10 : Int) ^ (24 : Int).toNat
def DrW (ds : List Int) : Prop := ∀ d ∈ ds, 0 ≤ d ∧ d < T24
theorem DrW.app {ds : List Int} {d : Int} (h : DrW ds) (h0 : 0 ≤ d) (h1 : d < T24) : DrW (ds ++ [d]) := fun e he => by
  rcases List.mem_append.mp he with he | he
  · exact h e he
  · rw [List.mem_singleton.mp he]
    exact ⟨h0, h1⟩
theorem t24_pos : (0 : Int) < T24 := by decide
def DWW (H0 : Hp) (l : Addr) (m : Nat) (H' : Hp) : Prop := H0 l = none ∧ Ex H0 H' ∧ ∃ ds : List Int, H' l = some (.lst (ds.map V.int)) ∧ DrW ds ∧ ds.length ≤ m
theorem DWW.app {H0 H1 H2 : Hp} {l : Addr} {m : Nat} {ds : List Int} {d : Int} (n : H0 l = none) (e : Ex H0 H1) (D : DrW ds) (hl : ds.length ≤ m) (h0 : 0 ≤ d) (h1 : d < T24) (e2 : Ex H1 H2) : DWW H0 l (m + 1) (upd H2 l (.lst (ds.map V.int ++ [V.int d]))) :=
  ⟨n, Ex.mut (e.trans e2) n, ds ++ [d], by rw [upd_same, List.map_append]; rfl, D.app h0 h1, by rw [List.length_append, List.length_singleton]; omega⟩
theorem ev_t24 {σ : L2.St} {H : Hp} : Ev (tOp (rI CPow fun i j => V.int (i ^ j.toNat)) (tC (V.int 10)) (tC (V.int 24))) σ H (.int T24) := ev_op ev_c ev_c (rv_I ⟨by decide, by decide, by decide⟩)
def spStreamW (K : PySem.W.Frag) : Sp := fun vs H Q _ => ∃ (a : Addr) (ns : List Int) (m : Nat), vs = [.ref a, .int (m : Int)] ∧ SqL K H a (ns.map V.int) ∧ ns.length ≤ 63 ∧ m ≤ 1000 ∧
  ∀ ds : List Int, DrW ds → ds.length ≤ m + 60 → RetL (ds.map V.int) H Q
theorem ok_streamW {f : Addr} {fd : FuncData} {k : Nat} (F : Fun K "_law_stream" "_law_stream" s__law_stream f fd) (T : Glo mg) : FnOk P w K mg base CX0 (k + 1) f fd ["script", "many"] (spStreamW K) := by
  refine F.ok sc__law_stream (fun vs H Q E h => ?_) (fun cdv A outer s H vs Q E hr h => ?_)
  · obtain ⟨a, ns, m, rfl, _⟩ := h
    rfl
  · obtain ⟨a, ns, m, rfl, hS, hn, hm, q⟩ := h
    refine ⟨_, (pss_cons (ps_set (i := 2) sc__law_stream.nd rfl (.inl rfl) (pe_lst pa_nil))
  (pss_cons (ps_for PassesOwn.never rfl (pi_list (pv 0)) (pg_name (i := 3) sc__law_stream.nd rfl (.inl rfl))
  (pss_cons (ps_if (pt_cmpR op_ge (pe_callB call_len_seq (by rfl) T.len PySem.boot_len (pa_cons (pv 2) pa_nil)) (pv 1) (nomark _))
  (pss_one ps_break)
  pss_nil)
  (pss_one (ps_if (pt_cmpR op_ge (pv 3) (pe_op op_pow pe_int pe_int) (nomark _))
  (pss_cons (ps_set (i := 4) sc__law_stream.nd rfl (.inl rfl) (pv 3))
  (pss_one (ps_for PassesOwn.never rfl (pi_range1 (by rfl) T.range (pa_cons pe_int pa_nil)) (pg_name (i := 5) sc__law_stream.nd rfl (.inl rfl))
  (pss_one (ps_if (pt_cmpR op_gt (pv 4) pe_int (nomark _))
  (pss_cons (ps_expr (pe_bm PySem.F.plainAttrs_list PySem.F.slot_list_append PySem.F.type_list_append mt_append (pv 2) (pa_cons (pe_op op_mod (pe_callTy call_int1 (by rfl) T.int (by decide +kernel) (pa_cons (pv 4) pa_nil)) (pe_op op_pow pe_int pe_int)) pa_nil)))
  (pss_one (ps_set (i := 4) sc__law_stream.nd rfl (.inl rfl) (pe_op op_fdivW (pv 4) (pe_op op_pow pe_int pe_int)))))
  pss_nil)))))
  (pss_cons (ps_set (i := 6) sc__law_stream.nd rfl (.inl rfl) (pe_op op_mod (pe_callTy call_int1 (by rfl) T.int (by decide +kernel) (pa_cons (pe_op op_add (pe_op op_add (pe_op op_mul (pv 3) pe_int) (pe_op op_mul (pe_callB call_len_seq (by rfl) T.len PySem.boot_len (pa_cons (pv 2) pa_nil)) pe_int)) pe_int) pa_nil)) pe_int))
  (pss_one (ps_for PassesOwn.never rfl (pi_range1 (by rfl) T.range (pa_cons pe_int pa_nil)) (pg_name (i := 5) sc__law_stream.nd rfl (.inl rfl))
  (pss_cons (ps_set (i := 7) sc__law_stream.nd rfl (.inl rfl) pe_int)
  (pss_cons (ps_for PassesOwn.never rfl (pi_range1 (by rfl) T.range (pa_cons pe_int pa_nil)) (pg_name (i := 8) sc__law_stream.nd rfl (.inl rfl))
  (pss_cons (ps_set (i := 6) sc__law_stream.nd rfl (.inl rfl) (pe_op op_mod (pe_callTy call_int1 (by rfl) T.int (by decide +kernel) (pa_cons (pe_op op_add (pe_op op_add (pe_op op_add (pe_op op_mul (pv 6) pe_int) (pe_op op_mul pe_int (pv 5))) (pe_op op_mul pe_int (pv 8))) pe_int) pa_nil)) pe_int))
  (pss_one (ps_set (i := 7) sc__law_stream.nd rfl (.inl rfl) (pe_op op_add (pe_op op_mul (pv 7) pe_int) (pv 6))))))
  (pss_one (ps_expr (pe_bm PySem.F.plainAttrs_list PySem.F.slot_list_append PySem.F.type_list_append mt_append (pv 2) (pa_cons (pe_op op_mod (pe_callTy call_int1 (by rfl) T.int (by decide +kernel) (pa_cons (pe_op op_fdiv (pv 7) pe_int) pa_nil)) (pe_op op_pow pe_int pe_int)) pa_nil)))))))))))))
  (pss_one (ps_ret (pv 2))))), ?_⟩
    refine' q_asgL (xs := []) (el_lst ea_nil (by decide)) (fun l H1 nl e1 h1 => ?_)
    have hS1 : SqL K H1 a (ns.map V.int) := ex_l e1 hS
    refine' q_forLn (a := a) (xs := ns.map V.int) (ev_var rfl) hS1 (fun i σ' H' => ∃ y3 y4 y5 y6 y7 y8, σ' = [some (.ref a), some (.int (m : Int)), some (.ref l), y3, y4, y5, y6, y7, y8] ∧ DWW H l (m + 60) H') (fun H2 e2 => ?_) (fun i σ' H' _ p => ?_) (fun i x σ' H' hx p => ?_) (fun σ' H' p => ?_)
    · exact ⟨none, none, none, none, none, none, rfl, nl, e1.trans e2, [], e2 l _ h1, (fun _ h => nomatch h), Nat.zero_le _⟩
    · obtain ⟨_, _, _, _, _, _, _, _, e, _⟩ := p
      exact ex_l e hS
    · obtain ⟨y3, y4, y5, y6, y7, y8, rfl, n, e, ds, hd, D, hl⟩ := p
      obtain ⟨c, rfl⟩ : ∃ c, x = V.int c := by
        rw [List.getElem?_map] at hx
        cases h : ns[i]? with
        | none => rw [h] at hx; cases hx
        | some c => rw [h] at hx; exact ⟨c, (Option.some.inj hx).symm⟩
      have hL : SqL K H' l (ds.map V.int) := sq_of hd
      refine' q_when ?c (fun hb H2 e2 => ?_) (fun hb H2 e2 => ?_)
      case c => walk_at "ev"
      · -- break
        refine s_ret (ev_var rfl) fun H3 e3 => ?_
        exact q ds D hl l H3 n ((e.trans e2).trans e3) (e3 l _ (e2 l _ hd))
      · have hb := of_decide_eq_false hb
        rw [List.length_map] at hb
        have hlt : ds.length < m := by omega
        have hd2 := e2 l _ hd
        have E2 := e.trans e2
        refine' s_if ?c (fun hc H3 e3 => ?_) (fun hc H3 e3 => ?_)
        case c => walk_at "ev"
        · -- a great one
          refine' q_asg (ev_var rfl) (fun H4 e4 => ?_)
          refine' s_forR1 (n := 60) (ea_cons ev_c ea_nil) (by decide) (fun i σ' H' => ∃ (r : Int) (y5 : Option V), σ' = [some (.ref a), some (.int (m : Int)), some (.ref l), some (.int c), some (.int r), y5, y6, y7, y8] ∧ DWW H l (m + i) H') (fun H5 e5 => ⟨c, _, rfl, n, ((E2.trans e3).trans e4).trans e5, ds, e5 l _ (e4 l _ (e3 l _ hd2)), D, by omega⟩) (fun i σ' H' hi p => ?_) (fun σ' H' p => ?_)
          · obtain ⟨r, z5, rfl, n', e', ds', hd', D', hl'⟩ := p
            have hL' : SqL K H' l (ds'.map V.int) := sq_of hd'
            refine' s_when ?c (fun hb H6 e6 => ?_) (fun hb H6 e6 => ?_)
            case c => walk_at "ev"
            · refine' q_app (l := l) (xs := ds'.map V.int) (v := .int (r % T24)) (e6 l _ hd') (ev_var rfl) ?c (by rw [List.length_map]; omega) (fun H7 e7 => ?_)
              case c => exact ev_op (ev_cb (ea_cons (ev_var rfl) ea_nil) rc_int) ev_t24 (rv_I t24_pos)
              refine' s_asg (v := .int (r / T24)) ?c (fun H8 e8 => ?_)
              case c => exact ev_op (ev_var rfl) ev_t24 (rv_I (wide_div (b := 80) t24_pos (by decide) (by decide) (by decide)))
              obtain ⟨_, k2, k3⟩ := DWW.app n' (e'.trans e6) D' hl' (Int.emod_nonneg r (Int.ne_of_gt t24_pos)) (Int.emod_lt_of_pos r t24_pos) e7
              obtain ⟨ds8, k4, k5, k6⟩ := k3
              exact ⟨r / T24, _, rfl, n', k2.trans e8, ds8, e8 l _ k4, k5, k6⟩
            · exact ⟨r, _, rfl, n', e'.trans e6, ds', e6 l _ hd', D', by omega⟩
          · obtain ⟨r, z5, rfl, w⟩ := p
            exact ⟨_, _, _, _, _, _, rfl, w⟩
        · -- a plain one
          refine' q_asg ?c (fun H4 e4 => ?_)
          case c =>
            have hL3 : SqL K H3 l (ds.map V.int) := sq_of (e3 l _ hd2)
            refine' ev_op (ev_cb (ea_cons (ev_op (ev_op (ev_op (ev_var rfl) ev_c (rv_I (.inr (by decide)))) (ev_op (ev_cb (ea_cons (ev_var rfl) ea_nil) (rc_len hL3)) ev_c (rv_I (.inr (by decide)))) rv_I0) ev_c rv_I0) ea_nil) rc_int) ev_c (rv_I (by decide))
          refine' s_forR1 (n := 4) (ea_cons ev_c ea_nil) (by decide) (fun i σ' H' => ∃ (r : Int) (y5 y7 y8 : Option V), σ' = [some (.ref a), some (.int (m : Int)), some (.ref l), some (.int c), y4, y5, some (.int r), y7, y8] ∧ DWW H l (m + i) H') (fun H5 e5 => ⟨_, _, _, _, rfl, n, ((E2.trans e3).trans e4).trans e5, ds, e5 l _ (e4 l _ (e3 l _ hd2)), D, by omega⟩) (fun i σ' H' hi p => ?_) (fun σ' H' p => ?_)
          · obtain ⟨r, z5, z7, z8, rfl, n', e', ds', hd', D', hl'⟩ := p
            refine' q_asg ev_c (fun H6 e6 => ?_)
            refine' q_forR1 (n := 3) (ea_cons ev_c ea_nil) (by decide) (fun j σ' H' => ∃ (r g : Int) (y8 : Option V), σ' = [some (.ref a), some (.int (m : Int)), some (.ref l), some (.int c), y4, some (.int ((i : Nat) : Int)), some (.int r), some (.int g), y8] ∧ Ex H6 H') (fun H7 e7 => ⟨_, _, _, rfl, e7⟩) (fun j σ' H' hj p => ?_) (fun σ' H7 p => ?_)
            · obtain ⟨r, g, y8, rfl, ee⟩ := p
              refine' q_asg ?c (fun H8 e8 => ?_)
              case c =>
                refine' ev_op (ev_cb (ea_cons (ev_op (ev_op (ev_op (ev_op (ev_var rfl) ev_c (rv_I (.inr (by decide)))) (ev_op ev_c (ev_var rfl) (rv_I (.inl (by decide)))) rv_I0) (ev_op ev_c (ev_var rfl) (rv_I (.inl (by decide)))) rv_I0) ev_c rv_I0) ea_nil) rc_int) ev_c (rv_I (by decide))
              refine' s_asg ?c (fun H9 e9 => ?_)
              case c => exact ev_op (ev_op (ev_var rfl) ev_c (rv_I (.inr (by decide)))) (ev_var rfl) rv_I0
              exact ⟨_, _, _, rfl, ee.trans (e8.trans e9)⟩
            · obtain ⟨r, g, y8, rfl, ee⟩ := p
              have ee := e6.trans ee
              refine s_app (l := l) (xs := ds'.map V.int) (ee l _ hd') (ev_var rfl) (ev_op (ev_cb (ea_cons (ev_op (ev_var rfl) ev_c (rv_I ⟨by decide, by decide⟩)) ea_nil) rc_int) ev_t24 (rv_I t24_pos)) (by rw [List.length_map]; omega) (fun H8 e8 => ?_)
              exact ⟨_, _, _, _, rfl, DWW.app n' (e'.trans ee) D' hl' (Int.emod_nonneg _ (Int.ne_of_gt t24_pos)) (Int.emod_lt_of_pos _ t24_pos) e8⟩
          · obtain ⟨r, z5, z7, z8, rfl, n', e', ds', hd', D', hl'⟩ := p
            exact ⟨_, _, _, _, _, _, rfl, n', e', ds', hd', D', by have : (4 : Int).toNat = 4 := rfl; omega⟩
    · obtain ⟨y3, y4, y5, y6, y7, y8, rfl, n, e, ds, hd, D, hl⟩ := p
      refine s_ret (ev_var rfl) fun H3 e3 => ?_
      exact q ds D hl l H3 n (e.trans e3) (e3 l _ hd)
theorem ok_draw {f : Addr} {fd : FuncData} {k : Nat} (F : Fun K "_law_draw" "_law_draw" s__law_draw f fd) (T : Glo mg) : FnOk P w K mg base CX0 (k + 1) f fd ["draws", "k"] (spDraw K) := by
  refine F.ok sc__law_draw (fun vs H Q E h => ?_) (fun cdv A outer s H vs Q E hr h => ?_)
  · obtain ⟨a, ds, k, rfl, _⟩ := h
    rfl
  · obtain ⟨a, ds, k, rfl, hS, q⟩ := h
    refine ⟨_, (pss_cons (ps_if (pt_cmpR op_lt (pv 1) (pe_callB call_len_seq (by rfl) T.len PySem.boot_len (pa_cons (pv 0) pa_nil)) (nomark _))
  (pss_one (ps_ret (pe_ix ix_list (pv 0) (pv 1) (fun _ _ => rfl))))
  pss_nil)
  (pss_one (ps_ret pe_int))), ?_⟩
    refine' q_when ?c (fun hb H1 e1 => ?_) (fun hb H1 e1 => ?_)
    case c => walk_at "ev"
    · have hb := of_decide_eq_true hb
      rw [List.length_map] at hb
      have hk : k < ds.length := by omega
      refine s_ret (v := .int (drw ds k)) (ev_op (ev_var rfl) (ev_var rfl) (rv_ixL (ex_l e1 hS) ?_)) fun H2 e2 => q _ (e1.trans e2)
      have e0 : (ds.map V.int)[k]? = some (.int (drw ds k)) := by
        rw [List.getElem?_map, List.getElem?_eq_getElem hk]
        unfold drw
        rw [List.getD_eq_getElem?_getD, List.getElem?_eq_getElem hk]
        rfl
      exact atI_nat e0
    · have hb := of_decide_eq_false hb
      rw [List.length_map] at hb
      refine s_ret ev_c fun H2 e2 => ?_
      have e0 : drw ds k = 0 := by
        unfold drw
        rw [List.getD_eq_getElem?_getD, List.getElem?_eq_none (by omega)]
        rfl
      rw [← e0]
      exact q _ (e1.trans e2)
abbrev SG : Str := Str.ofString "abcdefghijklmnopqrstuvwxyz0123456789-."
theorem SG_ok : ∀ c ∈ SG.cps.toList, c ∈ NC.cps.toList := by decide +kernel
theorem SG_len : SG.cps.toList.length = 38 := by decide +kernel
def sgn (i : Int) : Nat := SG.cps.toList.getD i.toNat 0
theorem sg_at {i : Int} (h0 : 0 ≤ i) (h1 : i < 38) : atI SG.cps.toList i = some (sgn i) ∧ nmC (sgn i) = true := by
  have hl : i.toNat < SG.cps.toList.length := by rw [SG_len]; omega
  have hg : sgn i = SG.cps.toList[i.toNat] := by
    unfold sgn
    rw [List.getD_eq_getElem?_getD, List.getElem?_eq_getElem hl]
    rfl
  have t := atI_nat (List.getElem?_eq_getElem hl)
  rw [Int.toNat_of_nonneg h0, ← hg] at t
  refine ⟨t, ?_⟩
  rw [nmC_eq, hg]
  exact decide_eq_true (SG_ok _ (List.getElem_mem hl))
/-- signs of names only, at most 12 -/
def pc (z : Str) : Prop := z.length ≤ 12 ∧ z.cps.toList.all nmC = true
def goodS (z : Str) : Str := if z = "" ∨ z = "." ∨ z = ".." then z ++ "a" else z
theorem ne_nil {z : Str} (h : z ≠ "") : 1 ≤ z.length := by
  refine Nat.pos_of_ne_zero fun h0 => h ?_
  have : z.cps.size = 0 := h0
  have e : z.cps = #[] := Array.eq_empty_of_size_eq_zero this
  cases z
  cases e
  rfl
theorem good_nm {z : Str} (h : pc z) : nmS (goodS z) = true := by
  unfold goodS
  by_cases h1 : z = ""
  · rw [if_pos (.inl h1), h1]
    decide +kernel
  · by_cases h2 : z = "."
    · rw [if_pos (.inr (.inl h2)), h2]
      decide +kernel
    · by_cases h3 : z = ".."
      · rw [if_pos (.inr (.inr h3)), h3]
        decide +kernel
      · rw [if_neg (fun h => h.elim h1 (fun h => h.elim h2 h3))]
        have := ne_nil h1
        have hl := h.1
        unfold nmS
        rw [h.2, decide_eq_true (by omega), decide_eq_true (by omega), decide_eq_false (fun e => h2 (V.str.inj e)), decide_eq_false (fun e => h3 (V.str.inj e))]
        rfl
def spGood : Sp := fun vs H Q _ => ∃ z : Str, vs = [.str z] ∧ z.length ≤ 1000 ∧ RetV (.str (goodS z)) H Q
theorem spGood_v {H : Hp} {z : Str} (h : z.length ≤ 1000) : SpV spGood [.str z] H (.str (goodS z)) := fun H1 _ Q q _ => ⟨z, rfl, h, fun H2 e2 => q H2 e2⟩
theorem ok_good {f : Addr} {fd : FuncData} {k : Nat} (F : Fun K "_law_good" "_law_good" s__law_good f fd) (T : Glo mg) : FnOk P w K mg base CX0 (k + 1) f fd ["name"] spGood := by
  refine F.ok sc__law_good (fun vs H Q E h => ?_) (fun cdv A outer s H vs Q E hr h => ?_)
  · obtain ⟨a, rfl, _⟩ := h
    rfl
  · obtain ⟨z, rfl, hz, q⟩ := h
    refine ⟨_, (pss_cons (ps_if (PW.pt (pw_or (pt_cmpR op_eq (pv 0) pe_str (nomark _)) (pw_or (pt_cmpR op_eq (pv 0) pe_str (nomark _)) (pw_or1 (pt_cmpR op_eq (pv 0) pe_str (nomark _))))))
  (pss_one (ps_ret (pe_op op_add_str (pv 0) pe_str)))
  pss_nil)
  (pss_one (ps_ret (pv 0)))), ?_⟩
    have h1 : (Str.ofString "a").length = 1 := by decide +kernel
    have hsz : z.length + (Str.ofString "a").length ≤ 100000 := by omega
    refine q_when (b := decide (V.str z = V.str "") || (decide (V.str z = V.str ".") || decide (V.str z = V.str ".."))) (et_or (et_test (ev_op (ev_var rfl) ev_c (rv_eq rfl))) (fun _ => et_or (et_test (ev_op (ev_var rfl) ev_c (rv_eq rfl))) (fun _ => et_test (ev_op (ev_var rfl) ev_c (rv_eq rfl))))) (fun hb H1 e1 => ?_) (fun hb H1 e1 => ?_)
    · have hg : goodS z = z ++ "a" := by
        unfold goodS
        rw [if_pos]
        rcases Bool.or_eq_true_iff.mp hb with h | h
        · exact .inl (V.str.inj (of_decide_eq_true h))
        · rcases Bool.or_eq_true_iff.mp h with h | h
          · exact .inr (.inl (V.str.inj (of_decide_eq_true h)))
          · exact .inr (.inr (V.str.inj (of_decide_eq_true h)))
      rw [hg] at q
      exact s_ret (ev_op (y := .str "a") (ev_var rfl) ev_c (fun H2 e2 Q2 k2 => ⟨_, _, rfl, rfl, sz_of hsz, k2 H2 (Ex.refl H2)⟩)) (fun H2 e2 => q H2 (e1.trans e2))
    · have hg : goodS z = z := by
        unfold goodS
        rw [if_neg]
        obtain ⟨h1, h2⟩ := Bool.or_eq_false_iff.mp hb
        obtain ⟨h2, h3⟩ := Bool.or_eq_false_iff.mp h2
        exact fun h => h.elim (fun h => of_decide_eq_false h1 (by rw [h])) (fun h => h.elim (fun h => of_decide_eq_false h2 (by rw [h])) (fun h => of_decide_eq_false h3 (by rw [h])))
      rw [hg] at q
      exact s_ret (ev_var rfl) (fun H2 e2 => q H2 (e1.trans e2))
theorem pc_one {z : Str} {c : Nat} (h : z.cps.toList.all nmC = true) (hc : nmC c = true) : (z ++ (⟨#[c]⟩ : Str)).cps.toList.all nmC = true := by
  show (z.cps ++ #[c]).toList.all nmC = true
  rw [Array.toList_append, List.all_append, h]
  show (true && ((nmC c && true))) = true
  rw [hc]
  rfl
def nmF : Nat → Str → Int → Str
  | 0, z, _ => z
  | n + 1, z, r => nmF n (z ++ (⟨#[sgn (r % 38)]⟩ : Str)) (r / 38)
def nameS (d : Int) : Str := goodS (nmF (1 + d % 12).toNat "" (d / 12))
theorem sgn_ok (r : Int) : nmC (sgn (r % 38)) = true := (sg_at (Int.emod_nonneg r (show (38 : Int) ≠ 0 by decide)) (Int.emod_lt_of_pos r (show (0 : Int) < 38 by decide))).2
theorem nmF_len : ∀ (n : Nat) (z : Str) (r : Int), (nmF n z r).length = z.length + n
  | 0, _, _ => rfl
  | n + 1, z, r => by
    show (nmF n _ _).length = _
    rw [nmF_len n, Str.length_append]
    show z.length + 1 + n = _
    omega
theorem nmF_all : ∀ (n : Nat) (z : Str) (r : Int), z.cps.toList.all nmC = true → (nmF n z r).cps.toList.all nmC = true
  | 0, _, _, h => h
  | n + 1, z, r, h => nmF_all n _ _ (pc_one h (sgn_ok r))
theorem nmF_pc (d : Int) : pc (nmF (1 + d % 12).toNat "" (d / 12)) := by
  have m0 : 0 ≤ d % 12 := Int.emod_nonneg d (by decide)
  have m1 : d % 12 < 12 := Int.emod_lt_of_pos d (by decide)
  refine ⟨?_, nmF_all _ _ _ rfl⟩
  rw [nmF_len]
  show 0 + _ ≤ _
  omega
theorem name_nm (d : Int) : nmS (nameS d) = true := good_nm (nmF_pc d)
def spName : Sp := fun vs H Q _ => ∃ d : Int, vs = [.int d] ∧ RetV (.str (nameS d)) H Q
theorem spName_v {H : Hp} {d : Int} : SpV spName [.int d] H (.str (nameS d)) := fun H1 _ Q q _ => ⟨d, rfl, fun H2 e2 => q H2 e2⟩
theorem ok_name {f f_g : Addr} {fd fd_g : FuncData} (F : Fun K "_law_name" "_law_name" s__law_name f fd) (D__law_good : Df K mg "_law_good" s__law_good ["name"] f_g fd_g) (G__law_good : FnOk P w K mg base CX0 1 f_g fd_g ["name"] spGood) (T : Glo mg) : FnOk P w K mg base CX0 2 f fd ["draw"] spName := by
  refine F.ok sc__law_name (fun vs H Q E h => ?_) (fun cdv A outer s H vs Q E hr h => ?_)
  · obtain ⟨a, rfl, _⟩ := h
    rfl
  · obtain ⟨d, rfl, q⟩ := h
    refine ⟨_, (pss_cons (ps_set (i := 1) sc__law_name.nd rfl (.inl rfl) pe_str)
  (pss_cons (ps_set (i := 2) sc__law_name.nd rfl (.inl rfl) pe_str)
  (pss_cons (ps_set (i := 3) sc__law_name.nd rfl (.inl rfl) (pe_op op_fdiv (pv 0) pe_int))
  (pss_cons (ps_for PassesOwn.never rfl (pi_range1 (by rfl) T.range (pa_cons (pe_op op_add pe_int (pe_op op_mod (pe_callTy call_int1 (by rfl) T.int (by decide +kernel) (pa_cons (pv 0) pa_nil)) pe_int)) pa_nil)) (pg_name (i := 4) sc__law_name.nd rfl (.inl rfl))
  (pss_cons (ps_set (i := 2) sc__law_name.nd rfl (.inl rfl) (pe_op op_add_str (pv 2) (pe_ix ix_str (pv 1) (pe_op op_mod (pe_callTy call_int1 (by rfl) T.int (by decide +kernel) (pa_cons (pv 3) pa_nil)) pe_int) (fun _ _ => rfl))))
  (pss_one (ps_set (i := 3) sc__law_name.nd rfl (.inl rfl) (pe_op op_fdiv (pv 3) pe_int)))))
  (pss_one (ps_ret (pe_call G__law_good (hr.mono (by decide)) (by rfl) D__law_good.g D__law_good.F.kp D__law_good.b .nil pass0 (pa_cons (pv 2) pa_nil)))))))), ?_⟩
    refine q_asg ev_c fun H1 e1 => q_asg ev_c fun H2 e2 => ?_
    refine q_asg (ev_op (ev_var rfl) ev_c (rv_I ⟨by decide, by decide⟩)) fun H3 e3 => ?_
    have m0 : 0 ≤ d % 12 := Int.emod_nonneg d (by decide)
    have m1 : d % 12 < 12 := Int.emod_lt_of_pos d (by decide)
    refine q_forR1 (n := 1 + d % 12) (ea_cons (ev_op ev_c (ev_op (ev_cb (ea_cons (ev_var rfl) ea_nil) rc_int) ev_c (rv_I (by decide))) rv_I0) ea_nil) ⟨by omega, by omega⟩ (fun i σ' H' => ∃ (z : Str) (r : Int) (y : Option V), σ' = [some (.int d), some (.str SG), some (.str z), some (.int r), y] ∧ z.length = i ∧ nmF ((1 + d % 12).toNat - i) z r = nmF (1 + d % 12).toNat "" (d / 12) ∧ Ex H3 H') (fun H4 e4 => ⟨"", _, _, rfl, rfl, rfl, e4⟩) (fun i σ' H' hi p => ?_) (fun σ' H' p => ?_)
    · obtain ⟨z, r, y, rfl, hl, ha, e⟩ := p
      obtain ⟨hc, hn⟩ := sg_at (Int.emod_nonneg r (show (38 : Int) ≠ 0 by decide)) (Int.emod_lt_of_pos r (show (0 : Int) < 38 by decide))
      have hlen : (z ++ (⟨#[sgn (r % 38)]⟩ : Str)).length = i + 1 := by
        rw [Str.length_append, hl]
        rfl
      refine q_asg (v := .str (z ++ (⟨#[sgn (r % 38)]⟩ : Str))) (ev_op (y := .str ⟨#[sgn (r % 38)]⟩) (ev_var rfl) (ev_op (ev_var rfl) (ev_op (ev_cb (ea_cons (ev_var rfl) ea_nil) rc_int) ev_c (rv_I (by decide))) (rv_ixS (w := SG) (by decide +kernel) hc)) (fun H2 e2 Q2 k2 => ⟨_, _, rfl, rfl, sz_of (by rw [← Str.length_append, hlen]; omega), k2 H2 (Ex.refl H2)⟩)) fun H5 e5 => ?_
      refine s_asg (ev_op (ev_var rfl) ev_c (rv_I ⟨by decide, by decide⟩)) fun H6 e6 => ?_
      refine ⟨_, _, _, rfl, hlen, ?_, e.trans (e5.trans e6)⟩
      rw [← ha, show (1 + d % 12).toNat - i = ((1 + d % 12).toNat - (i + 1)) + 1 by omega]
      rfl
    · obtain ⟨z, r, y, rfl, hl, ha, e⟩ := p
      rw [Nat.sub_self] at ha
      have ha : z = nmF (1 + d % 12).toNat "" (d / 12) := ha
      subst ha
      have hp := (nmF_pc d).1
      exact s_ret (ev_call (ea_cons (ev_var rfl) ea_nil) (spGood_v (by omega))) (fun H7 e7 => q H7 ((e1.trans (e2.trans e3)).trans (e.trans e7)))
theorem ev_slS {σ : L2.St} {H : Hp} {te : TE} {z : Str} {tl th : TO} {lo hi : Option Int} (h : Ev te σ H (.str z)) (h1 : EvO tl σ H lo) (h2 : EvO th σ H hi) (hl : z.length ≤ 100000) : Ev (tSl rSlS te tl th) σ H (.str (cutS z lo hi)) := fun H1 e _ q =>
  h H1 e _ fun H2 e2 => h1 H2 (e.trans e2) _ fun H3 e3 => h2 H3 ((e.trans e2).trans e3) _ fun H4 e4 => ⟨z, rfl, sz_of hl, q H4 (e2.trans (e3.trans e4))⟩
theorem rv_addS {x y : Str} {H : Hp} (h : x.length + y.length ≤ 100000) : RV (fun x y H Q => ∃ i j, x = V.str i ∧ y = V.str j ∧ i.length + j.length ≤ sizeLine ∧ Q (V.str (i ++ j)) H) (.str x) (.str y) H (.str (x ++ y)) := fun H1 _ _ q => ⟨_, _, rfl, rfl, sz_of h, q H1 (Ex.refl H1)⟩
theorem cut_to (z : Str) (n : Nat) : (cutS z none (some (n : Int))).cps.toList = z.cps.toList.take n := by
  have hl : z.length = z.cps.toList.length := Array.length_toList.symm
  unfold cutS
  rw [HT.sIx_none, HT.sIx_nat]
  show (z.cps.toList.drop 0).take (min n z.length - 0) = _
  rw [List.drop_zero, Nat.sub_zero, hl, ← List.take_eq_take_min]
theorem cut_from (z : Str) (n : Nat) : (cutS z (some (n : Int)) none).cps.toList = z.cps.toList.drop n := by
  have hl : z.length = z.cps.toList.length := Array.length_toList.symm
  unfold cutS
  rw [HT.sIx_none, HT.sIx_nat]
  show (z.cps.toList.drop (min n z.length)).take (z.length - min n z.length) = _
  by_cases h : n ≤ z.length
  · rw [Nat.min_eq_left h, List.take_of_length_le (by rw [List.length_drop]; omega)]
  · rw [Nat.min_eq_right (by omega), Nat.sub_self, List.take_zero, List.drop_eq_nil_of_le (by omega)]
def nearT (z : Str) (d : Int) : Str := cutS z none (some (d % (z.length : Int))) ++ (⟨#[sgn (d / 12 % 38)]⟩ : Str) ++ cutS z (some (d % (z.length : Int) + 1)) none
def nearS (z : Str) (d : Int) : Str := goodS (nearT z d)
theorem nm_pc {z : Str} (h : nmS z = true) : pc z ∧ 1 ≤ z.length := by
  obtain ⟨h1, h2⟩ := Bool.and_eq_true_iff.mp h
  obtain ⟨h1, h3⟩ := Bool.and_eq_true_iff.mp h1
  obtain ⟨_, h4⟩ := Bool.and_eq_true_iff.mp h2
  have h1 := of_decide_eq_true h1
  have h3 := of_decide_eq_true h3
  exact ⟨⟨by omega, h4⟩, by omega⟩
theorem near_pc {z : Str} (d : Int) (h : nmS z = true) : pc (nearT z d) := by
  obtain ⟨⟨h1, h2⟩, h3⟩ := nm_pc h
  have m0 : 0 ≤ d % (z.length : Int) := Int.emod_nonneg d (by omega)
  have m1 : d % (z.length : Int) < z.length := Int.emod_lt_of_pos d (by omega)
  obtain ⟨k, hk⟩ : ∃ k : Nat, d % (z.length : Int) = (k : Int) := ⟨_, (Int.toNat_of_nonneg m0).symm⟩
  have hl : z.length = z.cps.toList.length := Array.length_toList.symm
  have e : (nearT z d).cps.toList = (z.cps.toList.take k ++ [sgn (d / 12 % 38)]) ++ z.cps.toList.drop (k + 1) := by
    unfold nearT
    rw [hk]
    show (((cutS z none (some (k : Int))).cps ++ #[sgn (d / 12 % 38)]) ++ (cutS z (some ((k + 1 : Nat) : Int)) none).cps).toList = _
    rw [Array.toList_append, Array.toList_append, cut_to, cut_from]
  refine ⟨?_, ?_⟩
  · rw [show (nearT z d).length = (nearT z d).cps.toList.length from Array.length_toList.symm, e, List.length_append, List.length_append, List.length_take, List.length_drop, List.length_singleton]
    omega
  · rw [e, List.all_append, List.all_append]
    have t1 : (z.cps.toList.take k).all nmC = true := List.all_eq_true.mpr fun c hc => List.all_eq_true.mp h2 c (List.mem_of_mem_take hc)
    have t2 : (z.cps.toList.drop (k + 1)).all nmC = true := List.all_eq_true.mpr fun c hc => List.all_eq_true.mp h2 c (List.mem_of_mem_drop hc)
    rw [t1, t2]
    show (true && (nmC _ && true) && true) = true
    rw [sgn_ok]
    rfl
theorem near_nm {z : Str} (d : Int) (h : nmS z = true) : nmS (nearS z d) = true := good_nm (near_pc d h)
def spNear : Sp := fun vs H Q _ => ∃ (z : Str) (d : Int), vs = [.str z, .int d] ∧ nmS z = true ∧ RetV (.str (nearS z d)) H Q
theorem spNear_v {H : Hp} {z : Str} {d : Int} (h : nmS z = true) : SpV spNear [.str z, .int d] H (.str (nearS z d)) := fun H1 _ Q q _ => ⟨z, d, rfl, h, fun H2 e2 => q H2 e2⟩
theorem ok_near {f f_g : Addr} {fd fd_g : FuncData} (F : Fun K "_law_near" "_law_near" s__law_near f fd) (D__law_good : Df K mg "_law_good" s__law_good ["name"] f_g fd_g) (G__law_good : FnOk P w K mg base CX0 1 f_g fd_g ["name"] spGood) (T : Glo mg) : FnOk P w K mg base CX0 2 f fd ["name", "draw"] spNear := by
  refine F.ok sc__law_near (fun vs H Q E h => ?_) (fun cdv A outer s H vs Q E hr h => ?_)
  · obtain ⟨a, b, rfl, _⟩ := h
    rfl
  · obtain ⟨z, d, rfl, hz, q⟩ := h
    refine ⟨_, (pss_cons (ps_set (i := 2) sc__law_near.nd rfl (.inl rfl) pe_str)
  (pss_cons (ps_set (i := 3) sc__law_near.nd rfl (.inl rfl) (pe_op op_mod (pe_callTy call_int1 (by rfl) T.int (by decide +kernel) (pa_cons (pv 1) pa_nil)) (pe_callB call_len_str (by rfl) T.len PySem.boot_len (pa_cons (pv 0) pa_nil))))
  (pss_cons (ps_set (i := 4) sc__law_near.nd rfl (.inl rfl) (pe_ix ix_str (pv 2) (pe_op op_mod (pe_callTy call_int1 (by rfl) T.int (by decide +kernel) (pa_cons (pe_op op_fdiv (pv 1) pe_int) pa_nil)) pe_int) (fun _ _ => rfl)))
  (pss_one (ps_ret (pe_call G__law_good (hr.mono (by decide)) (by rfl) D__law_good.g D__law_good.F.kp D__law_good.b .nil pass0 (pa_cons (pe_op op_add_str (pe_op op_add_str (pe_slice sl_str (pv 0) po_none (po_some (pv 3))) (pv 4)) (pe_slice sl_str (pv 0) (po_some (pe_op op_add (pv 3) pe_int)) po_none)) pa_nil))))))), ?_⟩
    obtain ⟨⟨h1, h2⟩, h3⟩ := nm_pc hz
    have hp := (near_pc d hz).1
    have c1 := cutS_length z none (some (d % (z.length : Int)))
    have c2 := cutS_length z (some (d % (z.length : Int) + 1)) none
    refine q_asg ev_c fun H1 e1 => ?_
    refine q_asg (ev_op (ev_cb (ea_cons (ev_var rfl) ea_nil) rc_int) (ev_cb (ea_cons (ev_var rfl) ea_nil) (rc_lenS (by omega))) (rv_I (by show (0 : Int) < (z.length : Int); omega))) fun H2 e2 => ?_
    refine q_asg (ev_op (ev_var rfl) (ev_op (ev_cb (ea_cons (ev_op (ev_var rfl) ev_c (rv_I ⟨by decide, by decide⟩)) ea_nil) rc_int) ev_c (rv_I (by decide))) (rv_ixS (w := SG) (by decide +kernel) (sg_at (i := d / 12 % 38) (Int.emod_nonneg _ (show (38 : Int) ≠ 0 by decide)) (Int.emod_lt_of_pos _ (show (0 : Int) < 38 by decide))).1)) fun H3 e3 => ?_
    refine s_ret (ev_call (vs := [.str (nearT z d)]) (ea_cons (ev_op (ev_op (ev_slS (ev_var rfl) eo_none (eo_some (ev_var rfl)) (by omega)) (ev_var rfl) (rv_addS ?_)) (ev_slS (ev_var rfl) (eo_some (ev_op (ev_var rfl) ev_c rv_I0)) eo_none (by omega)) (rv_addS ?_)) ea_nil) (spGood_v (by omega))) (fun H7 e7 => q H7 ((e1.trans (e2.trans e3)).trans e7))
    · show _ + 1 ≤ _
      omega
    · rw [Str.length_append]
      show _ + 1 + _ ≤ _
      omega
def nmAt (ds : List Int) (k j : Nat) : Str := if j = 0 then nameS (drw ds k) else if drw ds (k + j) % 2 = 1 then nearS (nameS (drw ds k)) (drw ds (k + j) / 2) else nameS (drw ds (k + j) / 2)
def namesS (ds : List Int) (k : Nat) : List Str := (List.range 6).map (nmAt ds k)
theorem nmAt_nm (ds : List Int) (k j : Nat) : nmS (nmAt ds k j) = true := by
  unfold nmAt
  split
  · exact name_nm _
  · split
    · exact near_nm _ (name_nm _)
    · exact name_nm _
theorem namesS_ok (ds : List Int) (k : Nat) : (namesS ds k).length = 6 ∧ ∀ z ∈ namesS ds k, nmS z = true := by
  refine ⟨by unfold namesS; rw [List.length_map, List.length_range], fun z hz => ?_⟩
  obtain ⟨j, _, rfl⟩ := List.mem_map.mp hz
  exact nmAt_nm ds k j
def spNames (K : PySem.W.Frag) : Sp := fun vs H Q _ => ∃ (a : Addr) (ds : List Int) (k : Nat), vs = [.ref a, .int (k : Int)] ∧ SqL K H a (ds.map V.int) ∧ RetL ((namesS ds k).map V.str) H Q
theorem ok_names {f f_n f_r f_d : Addr} {fd fd_n fd_r fd_d : FuncData} (F : Fun K "_law_names" "_law_names" s__law_names f fd) (D__law_name : Df K mg "_law_name" s__law_name ["draw"] f_n fd_n) (G__law_name : FnOk P w K mg base CX0 2 f_n fd_n ["draw"] spName) (D__law_near : Df K mg "_law_near" s__law_near ["name", "draw"] f_r fd_r) (G__law_near : FnOk P w K mg base CX0 2 f_r fd_r ["name", "draw"] spNear) (D__law_draw : Df K mg "_law_draw" s__law_draw ["draws", "k"] f_d fd_d) (G__law_draw : FnOk P w K mg base CX0 1 f_d fd_d ["draws", "k"] (spDraw K)) (T : Glo mg) : FnOk P w K mg base CX0 3 f fd ["draws", "at"] (spNames K) := by
  refine F.ok sc__law_names (fun vs H Q E h => ?_) (fun cdv A outer s H vs Q E hr h => ?_)
  · obtain ⟨a, ds, k, rfl, _⟩ := h
    rfl
  · obtain ⟨a, ds, k, rfl, hS, q⟩ := h
    refine ⟨_, (pss_cons (ps_set (i := 2) sc__law_names.nd rfl (.inl rfl) (pe_lst (pa_cons (pe_call G__law_name (hr.mono (by decide)) (by rfl) D__law_name.g D__law_name.F.kp D__law_name.b .nil pass0 (pa_cons (pe_call G__law_draw (hr.mono (by decide)) (by rfl) D__law_draw.g D__law_draw.F.kp D__law_draw.b .nil pass0 (pa_cons (pv 0) (pa_cons (pv 1) pa_nil))) pa_nil)) pa_nil)))
  (pss_cons (ps_for PassesOwn.never rfl (pi_range2 (by rfl) T.range (pa_cons pe_int (pa_cons pe_int pa_nil))) (pg_name (i := 3) sc__law_names.nd rfl (.inl rfl))
  (pss_cons (ps_set (i := 4) sc__law_names.nd rfl (.inl rfl) (pe_call G__law_draw (hr.mono (by decide)) (by rfl) D__law_draw.g D__law_draw.F.kp D__law_draw.b .nil pass0 (pa_cons (pv 0) (pa_cons (pe_op op_add (pv 1) (pv 3)) pa_nil))))
  (pss_one (ps_if (pt_cmpR op_eq (pe_op op_mod (pe_callTy call_int1 (by rfl) T.int (by decide +kernel) (pa_cons (pv 4) pa_nil)) pe_int) pe_int (nomark _))
  (pss_one (ps_expr (pe_bm PySem.F.plainAttrs_list PySem.F.slot_list_append PySem.F.type_list_append mt_append (pv 2) (pa_cons (pe_call G__law_near (hr.mono (by decide)) (by rfl) D__law_near.g D__law_near.F.kp D__law_near.b .nil pass0 (pa_cons (pe_ix ix_list (pv 2) pe_int (fun _ _ => rfl)) (pa_cons (pe_op op_fdiv (pv 4) pe_int) pa_nil))) pa_nil))))
  (pss_one (ps_expr (pe_bm PySem.F.plainAttrs_list PySem.F.slot_list_append PySem.F.type_list_append mt_append (pv 2) (pa_cons (pe_call G__law_name (hr.mono (by decide)) (by rfl) D__law_name.g D__law_name.F.kp D__law_name.b .nil pass0 (pa_cons (pe_op op_fdiv (pv 4) pe_int) pa_nil)) pa_nil))))))))
  (pss_one (ps_ret (pv 2))))), ?_⟩
    refine q_asgL (xs := [V.str (nmAt ds k 0)]) (el_lst (ea_cons (ev_call (ea_cons (ev_call (ea_cons (ev_var rfl) (ea_cons (ev_var rfl) ea_nil)) (spDraw_v hS rfl)) ea_nil) spName_v) ea_nil) (by show 1 ≤ 100000; decide)) (fun l H1 nl e1 h1 => ?_)
    refine q_forR2 (lo := 1) (n := 6) (ea_cons ev_c (ea_cons ev_c ea_nil)) (by decide) (fun i σ' H' => ∃ y3 y4 : Option V, σ' = [some (.ref a), some (.int (k : Int)), some (.ref l), y3, y4] ∧ Ex H H' ∧ H' l = some (.lst (((List.range (i + 1)).map (nmAt ds k)).map V.str)) ∧ i ≤ 5) (fun H2 e2 => ⟨_, _, rfl, e1.trans e2, e2 l _ h1, by omega⟩) (fun i σ' H' hi p => ?_) (fun σ' H' p => ?_)
    · obtain ⟨y3, y4, rfl, e, hl, _⟩ := p
      have hi5 : i + 1 ≤ 5 := by omega
      have hlen : (((List.range (i + 1)).map (nmAt ds k)).map V.str).length = i + 1 := by rw [List.length_map, List.length_map, List.length_range]
      have hnx : ((List.range (i + 1)).map (nmAt ds k)).map V.str ++ [V.str (nmAt ds k (i + 1))] = ((List.range (i + 1 + 1)).map (nmAt ds k)).map V.str := by
        rw [List.range_succ (n := i + 1), List.map_append, List.map_append]
        rfl
      have h0 : atI (((List.range (i + 1)).map (nmAt ds k)).map V.str) 0 = some (V.str (nmAt ds k 0)) := by
        refine atI_nat (j := 0) ?_
        rw [List.getElem?_map, List.getElem?_map, List.getElem?_range (by omega)]
        rfl
      refine q_asg (v := .int (drw ds (k + (i + 1)))) (ev_call (ea_cons (ev_var rfl) (ea_cons (ev_op (ev_var rfl) (ev_var rfl) rv_I0) ea_nil)) (spDraw_v (ex_l e hS) (by show (k : Int) + (1 + (i : Int)) = ((k + (i + 1) : Nat) : Int); omega))) fun H3 e3 => ?_
      have hl3 := e3 l _ hl
      refine s_if (b := decide (V.int (drw ds (k + (i + 1)) % 2) = V.int 1)) (et_test (ev_op (ev_op (ev_cb (ea_cons (ev_var rfl) ea_nil) rc_int) ev_c (rv_I (by decide))) ev_c (rv_eq rfl))) (fun hb H4 e4 => ?_) (fun hb H4 e4 => ?_)
      · have hb := V.int.inj (of_decide_eq_true hb)
        refine s_app (l := l) (v := .str (nmAt ds k (i + 1))) (e4 l _ hl3) (ev_var rfl) ?_ (by rw [hlen]; omega) (fun H5 e5 => ⟨_, _, rfl, Ex.mut (e.trans (e3.trans (e4.trans e5))) nl, by rw [upd_same, hnx], hi5⟩)
        refine ev_is (ev_call (ea_cons (ev_op (ev_var rfl) ev_c (rv_ixL (sq_of (e4 l _ hl3)) h0)) (ea_cons (ev_op (ev_var rfl) ev_c (rv_I ⟨by decide, by decide⟩)) ea_nil)) (spNear_v (nmAt_nm ds k 0))) ?_
        show V.str _ = V.str (if i + 1 = 0 then _ else _)
        rw [if_neg (by omega), if_pos hb]
        rfl
      · have hb : ¬ drw ds (k + (i + 1)) % 2 = 1 := fun h => of_decide_eq_false hb (by rw [h])
        refine s_app (l := l) (v := .str (nmAt ds k (i + 1))) (e4 l _ hl3) (ev_var rfl) ?_ (by rw [hlen]; omega) (fun H5 e5 => ⟨_, _, rfl, Ex.mut (e.trans (e3.trans (e4.trans e5))) nl, by rw [upd_same, hnx], hi5⟩)
        refine ev_is (ev_call (ea_cons (ev_op (ev_var rfl) ev_c (rv_I ⟨by decide, by decide⟩)) ea_nil) spName_v) ?_
        show V.str _ = V.str (if i + 1 = 0 then _ else _)
        rw [if_neg (by omega), if_neg hb]
    · obtain ⟨y3, y4, rfl, e, hl, _⟩ := p
      exact s_ret (ev_var rfl) (fun H7 e7 => q l H7 nl (e.trans e7) (e7 l _ hl))
theorem q_seqJ {σ : L2.St} {H : Hp} {D : Ends} {ts tz : TS} (C : L2.St → Hp → Prop) (h : ∀ nx' : L2.St → Hp → Prop, (∀ σ1 H1, C σ1 H1 → nx' σ1 H1) → ts { D with nx := nx' } σ H) (k : ∀ σ1 H1, C σ1 H1 → tz D σ1 H1) : tSeq ts tz D σ H := h (tz D) k
theorem foldl_cat (a : Array Nat) : ∀ (m : Nat) (acc : Array Nat), ((List.replicate m a).foldl (· ++ ·) acc).toList = acc.toList ++ (List.replicate m a.toList).flatten
  | 0, acc => by simp
  | m + 1, acc => by
    rw [List.replicate_succ, List.foldl_cons, foldl_cat a m, List.replicate_succ, List.flatten_cons, Array.toList_append, List.append_assoc]
theorem mul_list (z : Str) (n : Nat) (h : 1 ≤ n) : (Txt.mul z (n : Int)).cps.toList = (List.replicate n z.cps.toList).flatten := by
  unfold Txt.mul
  rw [if_neg (by omega)]
  split
  · rename_i hc
    rcases Bool.or_eq_true_iff.mp hc with h1 | h1
    · have h1 : n = 1 := by
        have := eq_of_beq h1
        omega
      subst h1
      simp
    · have h1 : z.cps.size = 0 := eq_of_beq h1
      have h2 : z.cps.toList = [] := List.length_eq_zero_iff.mp (by rw [Array.length_toList]; exact h1)
      rw [h2]
      clear hc h1 h2 h
      induction n with
      | zero => rfl
      | succ n ih => rw [List.replicate_succ, List.flatten_cons, ← ih]; rfl
  · rw [foldl_cat]
    simp
theorem mul_ok {z : Str} {n : Nat} (hz : z.length ≤ 1000) (h0 : 1 ≤ n) (h1 : n ≤ 1000) : MulOk z (n : Int) := by
  refine ⟨?_, fun a b => ?_, fun a b => ?_⟩
  · rw [decide_eq_false (by omega), decide_eq_false (by omega)]
    rfl
  · show ¬ (((z.length : Nat) : Int) > (2 ^ 63 - 1) / (n : Int))
    have : (1000 : Int) ≤ (2 ^ 63 - 1) / (n : Int) := by
      refine (Int.le_ediv_iff_mul_le (by omega)).mpr ?_
      omega
    omega
  · show Builtin.Str.tooLong (z.length * (n : Int).toNat) = false
    unfold Builtin.Str.tooLong
    refine decide_eq_false ?_
    have h2 : z.length * (n : Int).toNat ≤ 1000 * 1000 := Nat.mul_le_mul hz (by omega)
    have h : (1000 * 1000 : Nat) ≤ sizeLine := by decide
    omega
theorem cut_list (z : Str) (n : Nat) : (cutS z none (some (n : Int))).cps.toList = z.cps.toList.take n := by
  unfold cutS
  rw [HT.sIx_none, HT.sIx_nat]
  have hl : z.length = z.cps.toList.length := Array.length_toList.symm
  show (List.take (min n z.length - 0) (List.drop 0 z.cps.toList)) = _
  rw [Nat.sub_zero, List.drop_zero, hl]
  exact List.take_eq_take_iff.mpr (by omega)
theorem all_flat {cs : List Nat} (h : allC cs = true) : ∀ n, allC (List.replicate n cs).flatten = true
  | 0 => rfl
  | n + 1 => by
    rw [List.replicate_succ, List.flatten_cons]
    exact allC_app h (all_flat h n)
theorem all_take {cs : List Nat} (h : allC cs = true) (n : Nat) : allC (cs.take n) = true := List.all_eq_true.mpr fun x hx => List.all_eq_true.mp h x (List.mem_of_mem_take hx)
theorem len_flat (cs : List Nat) : ∀ n, ((List.replicate n cs).flatten).length = n * cs.length
  | 0 => by simp
  | n + 1 => by
    rw [List.replicate_succ, List.flatten_cons, List.length_append, len_flat cs n, Nat.add_mul, Nat.one_mul, Nat.add_comm]
theorem tx_add {z : Str} {c : Nat} (h : allC z.cps.toList = true) (hc : chOk c = true) : allC (z ++ (⟨#[c]⟩ : Str)).cps.toList = true := by
  rw [show (z ++ (⟨#[c]⟩ : Str)).cps.toList = z.cps.toList ++ [c] from Array.toList_append]
  exact allC_app h (by show ([c].all chOk) = true; rw [List.all_cons, hc]; rfl)
abbrev S94 : Str := Str.ofString " !\"#$&'()*+,-./0123456789:;<=>?@ABCDEFGHIJKLMNOPQRSTUVWXYZ[\\]^_`" ++ Str.ofString "abcdefghijklmnopqrstuvwxyz{|}~"
theorem S94_len : S94.cps.toList.length = 94 := by decide +kernel
theorem S94_ok : S94.cps.toList.all chOk = true := by decide +kernel
def spTx : Sp := fun vs H Q _ => ∃ d : Int, vs = [.int d] ∧ ∀ z H1, Ex H H1 → allC z.cps.toList = true → z.length ≤ 200 → Q (.str z) H1
theorem ok_ltext {f : Addr} {fd : FuncData} (F : Fun K "_law_text" "_law_text" s__law_text f fd) (T : Glo mg) : FnOk P w K mg base CX0 2 f fd ["draw"] spTx := by
  refine F.ok sc__law_text (fun vs H Q E h => ?_) (fun cdv A outer s H vs Q E hr h => ?_)
  · obtain ⟨d, rfl, _⟩ := h
    rfl
  · obtain ⟨d, rfl, q⟩ := h
    refine ⟨_, (pss_cons (ps_set (i := 1) sc__law_text.nd rfl (.inl rfl) pe_str)
  (pss_cons (ps_set (i := 1) sc__law_text.nd rfl (.inl rfl) (pe_op op_add_str (pv 1) pe_str))
  (pss_cons (ps_set (i := 2) sc__law_text.nd rfl (.inl rfl) (pe_op op_add pe_int (pe_op op_mod (pe_callTy call_int1 (by rfl) T.int (by decide +kernel) (pa_cons (pe_op op_fdiv (pv 0) pe_int) pa_nil)) pe_int)))
  (pss_cons (ps_if (pt_cmpR op_eq (pe_op op_mod (pe_callTy call_int1 (by rfl) T.int (by decide +kernel) (pa_cons (pv 0) pa_nil)) pe_int) pe_int (nomark _))
  (pss_one (ps_set (i := 2) sc__law_text.nd rfl (.inl rfl) (pe_op op_mod (pe_callTy call_int1 (by rfl) T.int (by decide +kernel) (pa_cons (pe_op op_fdiv (pv 0) pe_int) pa_nil)) pe_int)))
  pss_nil)
  (pss_cons (ps_set (i := 3) sc__law_text.nd rfl (.inl rfl) (pe_op op_fdiv (pv 0) pe_int))
  (pss_cons (ps_set (i := 4) sc__law_text.nd rfl (.inl rfl) pe_str)
  (pss_cons (ps_for PassesOwn.never rfl (pi_range1 (by rfl) T.range (pa_cons (pe_callB (call_min2 rfl) (by rfl) T.min (by decide +kernel) (pa_cons (pv 2) (pa_cons pe_int pa_nil))) pa_nil)) (pg_name (i := 5) sc__law_text.nd rfl (.inl rfl))
  (pss_cons (ps_set (i := 4) sc__law_text.nd rfl (.inl rfl) (pe_op op_add_str (pv 4) (pe_ix ix_str (pv 1) (pe_op op_mod (pe_callTy call_int1 (by rfl) T.int (by decide +kernel) (pa_cons (pv 3) pa_nil)) pe_int) (fun _ _ => rfl))))
  (pss_one (ps_set (i := 3) sc__law_text.nd rfl (.inl rfl) (pe_op op_fdiv (pv 3) pe_int)))))
  (pss_one (ps_ret (pe_slice sl_str (pe_op op_mulS (pv 4) pe_int) po_none (po_some (pv 2)))))))))))), ?_⟩
    refine q_asg ev_c fun H1 e1 => q_asg (v := .str S94) (ev_op (ev_var rfl) ev_c (rv_addS (by decide +kernel))) fun H2 e2 => ?_
    refine q_asg (v := .int (1 + d / 8 % 6)) (ev_op ev_c (ev_op (ev_cb (ea_cons (ev_op (ev_var rfl) ev_c (rv_I ⟨by decide, by decide⟩)) ea_nil) rc_int) ev_c (rv_I (by decide))) rv_I0) fun H3 e3 => ?_
    have a0 : 0 ≤ d / 8 % 6 := Int.emod_nonneg _ (by decide)
    have a1 : d / 8 % 6 < 6 := Int.emod_lt_of_pos _ (by decide)
    have c0 : 0 ≤ d / 8 % 201 := Int.emod_nonneg _ (by decide)
    have c1 : d / 8 % 201 < 201 := Int.emod_lt_of_pos _ (by decide)
    refine q_seqJ (fun σ' H' => ∃ n : Nat, σ' = [some (.int d), some (.str S94), some (.int (n : Int)), none, none, none] ∧ n ≤ 200 ∧ Ex H H') (fun nx hnx => ?_) (fun σ' H' p => ?_)
    · refine s_if (b := decide (d % 8 = 0)) (et_test (ev_op (ev_op (ev_cb (ea_cons (ev_var rfl) ea_nil) rc_int) ev_c (rv_I (by decide))) ev_c rv_eqI)) (fun _ H4 e4 => ?_) (fun _ H4 e4 => hnx _ _ ⟨(1 + d / 8 % 6).toNat, by rw [Int.toNat_of_nonneg (by omega)]; rfl, by omega, ((e1.trans e2).trans e3).trans e4⟩)
      exact s_asg (v := .int (d / 8 % 201)) (ev_op (ev_cb (ea_cons (ev_op (ev_var rfl) ev_c (rv_I ⟨by decide, by decide⟩)) ea_nil) rc_int) ev_c (rv_I (by decide))) fun H5 e5 => hnx _ _ ⟨(d / 8 % 201).toNat, by rw [Int.toNat_of_nonneg c0]; rfl, by omega, (((e1.trans e2).trans e3).trans e4).trans e5⟩
    · obtain ⟨n, rfl, hn, e0⟩ := p
      refine q_asg (v := .int (d / 1608)) (ev_op (ev_var rfl) ev_c (rv_I ⟨by decide, by decide⟩)) fun H6 e6 => ?_
      refine q_asg (v := .str (Str.ofString "")) ev_c fun H7 e7 => ?_
      refine q_forR1 (n := (if (9 : Int) < (n : Int) then 9 else (n : Int))) (ea_cons (ev_cb (ea_cons (ev_var rfl) (ea_cons ev_c ea_nil)) rc_min2) ea_nil) (by split <;> omega) (fun i σ' H' => ∃ (z : Str) (r : Int) (y : Option V), σ' = [some (.int d), some (.str S94), some (.int (n : Int)), some (.int r), some (.str z), y] ∧ z.length = i ∧ allC z.cps.toList = true ∧ Ex H7 H') (fun H8 e8 => ⟨_, _, none, rfl, by decide +kernel, by decide +kernel, e8⟩) (fun i σ' H' hi p => ?_) (fun σ' H' p => ?_)
      · obtain ⟨z, r, y, rfl, hl, ha, e⟩ := p
        have m0 : 0 ≤ r % 94 := Int.emod_nonneg r (by decide)
        have m1 : r % 94 < 94 := Int.emod_lt_of_pos r (by decide)
        obtain ⟨k, hk⟩ : ∃ k : Nat, r % 94 = (k : Int) := ⟨_, (Int.toNat_of_nonneg m0).symm⟩
        have hkl : k < S94.cps.toList.length := by rw [S94_len]; omega
        have hc := atI_nat (List.getElem?_eq_getElem hkl)
        have hi9 : i < 9 := by revert hi; split <;> omega
        have ok : chOk S94.cps.toList[k] = true := List.all_eq_true.mp S94_ok _ (List.getElem_mem hkl)
        refine q_asg (v := .str (z ++ (⟨#[S94.cps.toList[k]]⟩ : Str))) (ev_op (y := .str ⟨#[S94.cps.toList[k]]⟩) (ev_var rfl) (ev_op (ev_var rfl) (ev_is (ev_op (ev_cb (ea_cons (ev_var rfl) ea_nil) rc_int) ev_c (rv_I (by decide))) (congrArg V.int hk)) (rv_ixS (w := S94) (by decide +kernel) hc)) (rv_addS (by have h1 : (⟨#[S94.cps.toList[k]]⟩ : Str).length = 1 := rfl; omega))) fun H5 e5 => ?_
        refine s_asg (v := .int (r / 94)) (ev_op (ev_var rfl) ev_c (rv_I ⟨by decide, by decide⟩)) fun H9 e9 => ⟨_, _, _, rfl, ?_, tx_add ha ok, e.trans (e5.trans e9)⟩
        rw [Str.length_append, hl]
        rfl
      · obtain ⟨z, r, y, rfl, hl, ha, e⟩ := p
        have hz9 : z.length ≤ 9 := by rw [hl]; split <;> omega
        have hml : (Txt.mul z (23 : Int)).cps.toList = (List.replicate 23 z.cps.toList).flatten := mul_list z 23 (by decide)
        have hml2 : (Txt.mul z (23 : Int)).length = 23 * z.length := by
          show (Txt.mul z (23 : Int)).cps.size = _
          rw [← Array.length_toList, hml, len_flat, Array.length_toList]
          rfl
        have hcl := cut_list (Txt.mul z (23 : Int)) n
        refine s_ret (v := .str (cutS (Txt.mul z (23 : Int)) none (some (n : Int)))) (ev_slS (ev_op (ev_var rfl) ev_c (fun H4 e4 Q q => ⟨_, _, rfl, rfl, mul_ok (n := 23) (by omega) (by decide) (by decide), q H4 (Ex.refl H4)⟩)) eo_none (eo_some (ev_var rfl)) (by omega)) (fun H9 e9 => q _ H9 ((e0.trans (e6.trans e7)).trans (e.trans e9)) ?_ ?_)
        · rw [hcl, hml]
          exact all_take (all_flat ha 23) n
        · show (cutS _ none (some (n : Int))).cps.size ≤ 200
          rw [← Array.length_toList, hcl, List.length_take]
          omega
def pcOk (d : PyData) : Prop := ∃ (i c r : Int) (z : Str), d = .tuple [.int i, .int c, .int r, .str z] ∧ allC z.cps.toList = true ∧ z.length ≤ 200
def spPc (K : PySem.W.Frag) : Sp := fun vs H Q _ => ∃ (a b : Int) (B : Hp) (F : List MP), vs = [.int a, .int b] ∧ At B F H ∧ ∀ v d B1 H1, Ex B B1 → At B1 F H1 → Dp K B1 v d → pcOk d → Q v H1
theorem ok_lpiece {f f_t : Addr} {fd fd_t : FuncData} (F : Fun K "_law_piece" "_law_piece" s__law_piece f fd) (D__law_text : Df K mg "_law_text" s__law_text ["draw"] f_t fd_t) (G__law_text : FnOk P w K mg base CX0 2 f_t fd_t ["draw"] spTx) (T : Glo mg) : FnOk P w K mg base CX0 3 f fd ["draw", "second"] (spPc K) := by
  refine F.ok sc__law_piece (fun vs H Q E h => ?_) (fun cdv A outer s H vs Q E hr h => ?_)
  · obtain ⟨a, b, B, Fr, rfl, _⟩ := h
    rfl
  · obtain ⟨a, b, B, Fr, rfl, hA, q⟩ := h
    refine ⟨_, (pss_cons (ps_set (i := 2) sc__law_piece.nd rfl (.inl rfl) (pe_call G__law_text (hr.mono (by decide)) (by rfl) D__law_text.g D__law_text.F.kp D__law_text.b .nil pass0 (pa_cons (pv 1) pa_nil)))
  (pss_cons (ps_if (pt_cmpR op_eq (pv 2) pe_str (nomark _))
  (pss_one (ps_set (i := 2) sc__law_piece.nd rfl (.inl rfl) pe_str))
  pss_nil)
  (pss_cons (ps_set (i := 3) sc__law_piece.nd rfl (.inl rfl) (pe_op op_mod (pe_callTy call_int1 (by rfl) T.int (by decide +kernel) (pa_cons (pe_op op_fdiv (pv 0) pe_int) pa_nil)) (pe_op op_add (pe_op op_pow pe_int pe_int) pe_int)))
  (pss_one (ps_ret (pe_tup (pa_cons (pe_op op_mod (pe_callTy call_int1 (by rfl) T.int (by decide +kernel) (pa_cons (pv 0) pa_nil)) pe_int) (pa_cons (pv 3) (pa_cons (pe_op op_add pe_int (pe_op op_mod (pe_callTy call_int1 (by rfl) T.int (by decide +kernel) (pa_cons (pv 1) pa_nil)) (pe_op op_pow pe_int pe_int))) (pa_cons (pv 2) pa_nil)))))))))), ?_⟩
    refine q_do (go_call (go_cons (ev_var rfl) fun H1 e1 => go_nil ⟨b, rfl, fun z H2 e2 hz hl => ?_⟩))
    refine q_seqJ (fun σ' H' => ∃ z : Str, σ' = [some (.int a), some (.int b), some (.str z), none] ∧ allC z.cps.toList = true ∧ z.length ≤ 200 ∧ Ex H H') (fun nx hnx => ?_) (fun σ' H' p => ?_)
    · refine s_if (b := decide (V.str z = V.str "")) (et_test (ev_op (ev_var rfl) ev_c (rv_eq rfl))) (fun _ H3 e3 => ?_) (fun _ H3 e3 => hnx _ _ ⟨z, rfl, hz, hl, (e1.trans e2).trans e3⟩)
      exact s_asg ev_c fun H4 e4 => hnx _ _ ⟨Str.ofString "x", rfl, by decide +kernel, by decide +kernel, ((e1.trans e2).trans e3).trans e4⟩
    · obtain ⟨z, rfl, hz, hl, e0⟩ := p
      have p18 : ∀ {σ : L2.St} {H : Hp}, Ev (tOp (rI CPow fun i j => .int (i ^ j.toNat)) (tC (.int 10)) (tC (.int 18))) σ H (.int 1000000000000000000) := by
        intro σ H
        refine' ev_is ?c ?d
        case c => walk_at "ev"
        case d => rfl
      refine q_asg (v := .int (a / 1000 % 1000000000000000001)) (ev_op (ev_cb (ea_cons (ev_op (ev_var rfl) ev_c (rv_I ⟨by decide, by decide⟩)) ea_nil) rc_int) (ev_is (ev_op p18 ev_c rv_I0) (show _ = V.int 1000000000000000001 from rfl)) (rv_I (by decide))) fun H3 e3 => ?_
      exact sw_ret (at_ex hA (e0.trans e3)) (wv_ed fun B1 b1 => (ed_tup (eds_cons (ed_int (ev_op (ev_cb (ea_cons (ev_var rfl) ea_nil) rc_int) ev_c (rv_I (by decide)))) (eds_cons (ed_int (ev_var rfl)) (eds_cons (ed_int (ev_op ev_c (ev_op (ev_cb (ea_cons (ev_var rfl) ea_nil) rc_int) p18 (rv_I (by decide))) rv_I0)) (eds_cons (ed_of (ev_var rfl) (.str z)) eds_nil)))) (by show 4 ≤ 100000; decide) : EvD K _ _ B1 (.tuple [.int (a % 1000), .int (a / 1000 % 1000000000000000001), .int (1 + b % 1000000000000000000), .str z]))) fun v B1 H4 b1 hA hv => q v _ B1 H4 b1 hA hv ⟨_, _, _, z, rfl, hz, hl⟩
theorem q_or4 {σ : L2.St} {H : Hp} {ta tb : TE} {tu tz : TS} {D : Ends} (h : ta σ H fun x H1 => ∃ c, x = .bl c ∧ (if (!c) = true then tu { D with nx := tz D } σ H1 else tb σ H1 fun y H2 => ∃ c, y = .bl c ∧ (if (!c) = true then tu { D with nx := tz D } σ H2 else tz D σ H2))) : tSeq (tIfS (tOr (tNot (tB ta)) (tNot (tB tb))) tu tNext) tz D σ H := h
theorem fun_in {σ : L2.St} {H : Hp} {r : List V → Hp → VK → Prop} {tl : TE} {g : TG} {tt : TT} {te : TE} {vs : List Nat} {Q : VK} (h : tl σ H fun x H1 => tCB r (tCons (tLc (iList K (fun _ H k => k x H)) g tt te vs) tNil) σ H1 Q) : tCB r (tCons (tLc (iList K tl) g tt te vs) tNil) σ H Q := h
theorem go_prop {σ : L2.St} {H : Hp} {C : Addr} {sp : Sp} {E : XK} {ta : TE} {Q : VK} (h : ta σ H fun x H1 => ∃ d dx fs, x = .ref d ∧ H1 d = some (.ins C dx fs) ∧ sp [.ref d] H1 Q E) : tProp C sp [] E ta σ H Q := h
theorem ev_sealed {σ : L2.St} {B H : Hp} {l : List MP} {C g : Addr} {ps : List PyData} {b : Bool} {ta : TE} {E : XK} (hA : At B (FlM K C g ps b :: l) H) (h : Ev ta σ H (.ref g)) : Ev (tProp C (spFlS K C) [] E ta) σ H (.bl b) := fun H1 e Q q => h H1 e _ fun H2 e2 => by
  have hA := at_ex hA (e.trans e2)
  obtain ⟨dx, p, hg⟩ := fl_ins hA
  exact ⟨g, dx, _, rfl, hg, g, ps, b, B, l, rfl, hA, fun H3 e3 => q H3 (e2.trans e3)⟩
theorem ev_flength {σ : L2.St} {B H : Hp} {l : List MP} {C g : Addr} {ps : List PyData} {b : Bool} {ta : TE} {E : XK} (hA : At B (FlM K C g ps b :: l) H) (h : Ev ta σ H (.ref g)) : Ev (tProp C (spFlL K C) [] E ta) σ H (.int (flN ps)) := fun H1 e Q q => h H1 e _ fun H2 e2 => by
  have hA := at_ex hA (e.trans e2)
  obtain ⟨dx, p, hg⟩ := fl_ins hA
  exact ⟨g, dx, _, rfl, hg, g, ps, b, B, l, rfl, hA, fun H3 e3 => q H3 (e2.trans e3)⟩
theorem pcOks {n : Nat} {d : PyData} (h : pcOk d) : Oks (n + 1) d := by
  obtain ⟨i, c, r, z, rfl, _, _⟩ := h
  exact .tup (by show 4 ≤ 50000; decide) (fun x hx => by
    simp only [List.mem_cons, List.not_mem_nil, or_false] at hx
    rcases hx with rfl | rfl | rfl | rfl
    · exact .int _
    · exact .int _
    · exact .int _
    · exact .str _)
def spFis (K : PySem.W.Frag) (C : Addr) : Sp := fun vs H Q _ => ∃ (f du dl : Addr) (ps : List PyData) (b : Bool) (B : Hp) (F : List MP), vs = [.ref f, .ref du] ∧ At B (FlM K C f ps b :: Pt du (.lst [.ref dl, .bl b]) :: LstM K dl ps :: F) H ∧ (∀ d ∈ ps, pcOk d) ∧ ps.length ≤ 1000 ∧ ∀ B1 H1, Ex B B1 → At B1 (FlM K C f ps b :: Pt du (.lst [.ref dl, .bl b]) :: LstM K dl ps :: F) H1 → Q (.bl true) H1
theorem ok_lfile_is {f f1 f2 f3 f4 C : Addr} {fd fd1 fd2 fd3 fd4 : FuncData} (F : Fun K "_law_file_is" "_law_file_is" s__law_file_is f fd) (D__law_same : Df K mg "_law_same" s__law_same ["actual", "due"] f1 fd1) (G__law_same : FnOk P w K mg base CX0 4 f1 fd1 ["actual", "due"] (spSm K 3)) (D_File_pieces : Pr K C "pieces" "File.pieces" s_File_pieces f2 fd2) (G_File_pieces : FnOk P w K mg base CX0 1 f2 fd2 ["self"] (spFlP K C))
    (D_File_sealed : Pr K C "sealed" "File.sealed" s_File_sealed f3 fd3) (G_File_sealed : FnOk P w K mg base CX0 1 f3 fd3 ["self"] (spFlS K C)) (D_File_length : Pr K C "length" "File.length" s_File_length f4 fd4) (G_File_length : FnOk P w K mg base CX0 1 f4 fd4 ["self"] (spFlL K C)) (L_File : Kl K mg "File" C) (T : Glo mg) : FnOk P w K mg base CX0 5 f fd ["actual", "due"] (spFis K C) := by
  refine F.ok sc__law_file_is (fun vs H Q E h => ?_) (fun cdv A outer s H vs Q E hr h => ?_)
  · obtain ⟨g, du, dl, ps, b, B, Fr, rfl, _⟩ := h
    rfl
  · obtain ⟨g, du, dl, ps, b, B, Fr, rfl, hA, hps, hl, q⟩ := h
    refine ⟨_, (pss_cons (ps_if (PW.pt (pw_or (pt_not (pt_val (pe_call G__law_same (hr.mono (by decide)) (by rfl) D__law_same.g D__law_same.F.kp D__law_same.b .nil pass0 (pa_cons (pe_pr (pv 0) L_File.cl D_File_pieces G_File_pieces (hr.mono (by decide)) pass0 rfl) (pa_cons (pe_tupleOf (by rfl) T.tuple (pe_ix ix_list (pv 1) pe_int (fun _ _ => rfl))) pa_nil))))) (pw_or1 (pt_not (pt_val (pe_callB call_isi (by rfl) T.isinstance (by decide +kernel) (pa_cons (pe_pr (pv 0) L_File.cl D_File_sealed G_File_sealed (hr.mono (by decide)) pass0 rfl) (pa_cons (pe_bltn (v := .ty "bool") (u := .type "bool") (by rfl) T.bool (by decide +kernel) rfl) pa_nil))))))))
  (pss_one (ps_ret pe_bl))
  pss_nil)
  (pss_cons (ps_set (i := 2) sc__law_file_is.nd rfl (.inl rfl) (pe_callB (cr_sum rfl) (by rfl) T.sum (by decide +kernel) (pa_cons (pe_lc (own := [("piece", 3)]) (g := gName 3) rfl sc__law_file_is.nd (pi_list (pe_ix ix_list (pv 1) pe_int (fun _ _ => rfl))) (blkOk_by (N := N__law_file_is) (sc := defScope s__law_file_is) (by decide +kernel)) (fun _ _ _ _ _ => (pg_name (i := 3) sc__law_file_is.nd rfl (.inl rfl))) (fun _ _ _ _ _ => pts_nil) (fun _ _ _ _ _ => (pe_callB call_len_str (by rfl) T.len PySem.boot_len (pa_cons (pe_ix (show IxR _ (rIxT K) from ix_tup) (pv 3) pe_int (fun _ _ => rfl)) pa_nil)))) pa_nil)))
  (pss_one (ps_ret (pe_and (pe_cmpR op_eq (pe_pr (pv 0) L_File.cl D_File_sealed G_File_sealed (hr.mono (by decide)) pass0 rfl) (pe_ix ix_list (pv 1) pe_int (fun _ _ => rfl)) (nomark _)) (pe_one (pe_call G__law_same (hr.mono (by decide)) (by rfl) D__law_same.g D__law_same.F.kp D__law_same.b .nil pass0 (pa_cons (pe_pr (pv 0) L_File.cl D_File_length G_File_length (hr.mono (by decide)) pass0 rfl) (pa_cons (pv 2) pa_nil))))))))), ?_⟩
    obtain ⟨gx, gp, hg⟩ := fl_ins hA
    refine q_or4 (go_call (go_cons' (go_prop (go_ev (ev_var rfl) fun H1 e1 => ⟨g, gx, _, rfl, e1 _ _ hg, g, ps, b, B, _, rfl, at_ex hA e1, fun v1 B1 H2 b1 hv1 hA => go_cons' (go_thenK (go_ev (ev_op (ev_var rfl) ev_c (rv_ixL (sq_of (at_get (a := du) 1 rfl hA)) rfl)) fun H3 e3 => k_tup (K := K) 2 rfl (at_ex hA e3) fun v2 B2 H4 b2 hA hv2 => go_nil ⟨v1, v2, .tuple ps, rfl, dp_dx _ _ (dp_mono (b2.trans (at_base hA)) _ _ hv1), dp_dx _ _ (dp_mono (at_base hA) _ _ hv2), .tup (by omega) (fun d hd => ?_), fun H5 e5 => ⟨true, rfl, ?_⟩⟩))⟩))))
    · exact pcOks (hps d hd)
    · have hA := at_ex hA e5
      obtain ⟨gx, gp, hg⟩ := fl_ins hA
      refine ev_cb (ea_cons (ev_sealed (K := K) hA (ev_var rfl)) (ea_cons ev_c ea_nil)) rc_isiB H5 (Ex.refl H5) _ fun H6 e6 => ⟨true, rfl, ?_⟩
      have hA := at_ex hA e6
      obtain ⟨xs, hx, hA'⟩ := at_openL (K := K) 2 rfl hA
      have hdl := at_get (a := dl) 2 rfl hA'
      have hxl := dpa_len hx
      have hgl : Evl.given xs.length (fun _ => true) (fun i => V.int (pcLen (ps.getD i .none))) = (ps.map pcLen).map V.int := by
        rw [hxl]
        unfold Evl.given
        rw [List.filter_eq_self.mpr (fun _ _ => rfl)]
        refine List.ext_getElem (by simp) (fun i h1 h2 => ?_)
        have h1 : i < ps.length := by simpa using h1
        simp [h1]
      have hdu := at_get (a := du) 1 rfl hA
      refine q_do (fun_in (go_ev (ev_op (ev_var rfl) ev_c (rv_ixL (sq_of hdu) rfl)) fun H7 e7 => ?_))
      have hdl7 : H7 dl = some (.lst xs) := e7 _ _ hdl
      refine go_cons' ((hgl ▸ el_lcL (K := K) (tl := fun _ H k => k (.ref dl) H) (fun _ => true) (fun i => V.int (pcLen (ps.getD i .none))) (fun H8 e8 Q q => q H8 (Ex.refl H8)) (sq_of hdl7) (by omega) (fun _ => rfl) (fun i x H3 e3 _ => et_nil) (fun i x H3 e3 hxi _ => ?_)) H7 (Ex.refl H7) _ fun p H8 np e8 hp => go_nil ⟨p, ps.map pcLen, rfl, sq_of hp, ?_⟩)
      · obtain ⟨m, hm⟩ : ∃ d, ps[i]? = some d := by
          have hi : i < xs.length := (List.getElem?_eq_some_iff.mp hxi).1
          exact ⟨_, List.getElem?_eq_getElem (by omega)⟩
        obtain ⟨x', hx', hd⟩ := dpa_at hx hm
        rw [hxi] at hx'
        cases hx'
        obtain ⟨i1, c1, r1, z, rfl, _, hz⟩ := hps m (List.mem_of_getElem? hm)
        rw [List.getD_eq_getElem?_getD, hm]
        obtain ⟨ta, x1, x2, x3, rfl, hs⟩ : ∃ ta x1 x2 x3, x = .ref ta ∧ SqT K B2 ta [x1, x2, x3, .str z] := by
          cases hd with
          | tup hs hd => cases hd with
            | cons g1 r => cases r with
              | cons g2 r => cases r with
                | cons g3 r => cases r with
                  | cons g4 r => cases r; cases g4; exact ⟨_, _, _, _, rfl, hs⟩
        exact ev_cb (ea_cons (ev_op (ev_var rfl) ev_c (rv_ixT (ex_t ((at_base (at_ex hA e7)).trans e3) hs) (atI_nat (j := 3) rfl))) ea_nil) (rc_lenS (by omega))
      · have hA := at_ex hA (e7.trans e8)
        have hdu := at_get (a := du) 1 rfl hA
        exact s_ret (ev_andT (ev_op (ev_sealed (K := K) hA (ev_var rfl)) (ev_op (ev_var rfl) ev_c (rv_ixL (sq_of hdu) (atI_nat (j := 1) rfl))) (rv_eqT rfl)) (ev_call (ea_cons (ev_flength (K := K) hA (ev_var rfl)) (ea_cons (ev_var rfl) ea_nil)) (show SpV (spSm K 3) [.int (flN ps), .int (flN ps)] _ (.bl true) from fun H1 e Q q _ => ⟨.int (flN ps), .int (flN ps), .int (flN ps), rfl, .int _, .int _, .int _, fun H2 e2 => q H2 e2⟩))) (fun H9 e9 => q B2 H9 (b1.trans b2) (at_ex hA e9))
theorem go_mx {σ : L2.St} {H : Hp} {ta : TE} {C r dx : Addr} {sp : Sp} {E : L2.St → XK} {m : Str} {fs : List (Str × V)} {tr : L2.TA} {Q : VK} (h : Ev ta σ H (.ref r)) (hr : H r = some (.ins C dx fs)) (hn : fs.lookup m = none) (k : ∀ H1, Ex H H1 → tr σ H1 fun vs H2 => sp (.ref r :: vs) H2 Q (E σ)) : tMX C m sp E ta tr σ H Q := h H (Ex.refl H) _ fun H1 e1 => ⟨r, dx, fs, rfl, e1 _ _ hr, hn, k H1 e1⟩
def spLTk (K : PySem.W.Frag) (C : Addr) : Sp := fun vs H Q _ => ∃ (d : Addr) (z : Str) (l : List (Str × V)) (lim : V) (B : Hp) (F : List MP), vs = [.ref d, .str z] ∧ At B (DrM K C d l lim :: F) H ∧ (∀ v, valV l z = some v → ∀ t B1 H1, Ex B B1 → SqT K B1 t [v] → At B1 (DrM K C d (dropK l z) lim :: F) H1 → Q (.ref t) H1) ∧ (valV l z = none → ∀ H1, Ex H H1 → Q (.bl true) H1)
theorem ok_ltake {f f1 C C_Unknown B_Unknown C_BadPath : Addr} {fd fd1 : FuncData} (F : Fun K "_law_take" "_law_take" s__law_take f fd) (D_Directory_take : Dm K C "take" "Directory.take" s_Directory_take ["self", "name"] f1 fd1) (G_Directory_take : FnOk P w K mg base (L2.CX P w) 1 f1 fd1 ["self", "name"] (spDrT K C C_Unknown)) (L_Directory : Kl K mg "Directory" C) (E_Unknown : Err K mg "Unknown" C_Unknown B_Unknown) (h_U : mg "HallError" = some (.ref B_Unknown)) (g_BadPath : mg "BadPath" = some (.ref C_BadPath)) (M_U : PySem.W.exmOne K (.ref C_Unknown) (.ref B_Unknown) = some true)
    (K_U : PySem.W.kitOne K (.ref C_Unknown) (.ref C_Unknown) = some true) (N_U : PySem.W.kitOne K (.ref C_Unknown) (.ref C_BadPath) = some false) (T : Glo mg) : FnOk P w K mg base CX0 3 f fd ["directory", "name"] (spLTk K C) := by
  have g_Unknown := E_Unknown.g
  have g_HallError := h_U
  refine F.ok sc__law_take (fun vs H Q E h => ?_) (fun cdv A outer s H vs Q E hr h => ?_)
  · obtain ⟨d, z, l, lim, B, Fr, rfl, _⟩ := h
    rfl
  · obtain ⟨d, z, l, lim, B, Fr, rfl, hA, q1, q2⟩ := h
    refine ⟨_, (pss_one (ps_try_own (C := C_Unknown) (i := 2) rfl rfl sc__law_take.nd rfl rfl ⟨rfl, by decide, .inl g_HallError⟩ takes0 (fun W pn xe tk => (pss_one (ps_ret (pe_tup (pa_cons (pe_mx (pv 0) L_Directory.cl D_Directory_take.m G_Directory_take (hr.mono (by decide)) D_Directory_take.b (fun σ => passAt tk σ) (pa_cons (pv 1) pa_nil)) pa_nil))))) (fun a oe pn hz hf => (pss_one (ps_ret (pe_and (pe_callB (call_isE E_Unknown.ec hz hf) (by rfl) T.isinstance (by decide +kernel) (pa_cons (pv 2) (pa_cons (pe_glob (v := .ref C_Unknown) (by rfl) g_Unknown rfl) pa_nil))) (pe_and (pe_callB (call_isE E_Unknown.ec hz hf) (by rfl) T.isinstance (by decide +kernel) (pa_cons (pv 2) (pa_cons (pe_bltn (v := .ty "ValueError") (u := .type "ValueError") (by rfl) T.ValueError (by decide +kernel) rfl) pa_nil))) (pe_one (pe_not (pe_callB (call_isE E_Unknown.ec hz hf) (by rfl) T.isinstance (by decide +kernel) (pa_cons (pv 2) (pa_cons (pe_glob (v := .ref C_BadPath) (by rfl) g_BadPath rfl) pa_nil)))))))))))), ?_⟩
    obtain ⟨dx, e, hA'⟩ := dr_open hA
    have hd := at_get (a := d) 0 rfl hA'
    refine r_do (go_tup (go_cons' (go_mx (ev_var rfl) hd rfl fun H1 e1 => go_cons (ev_var rfl) fun H2 e2 => go_nil ⟨d, z, l, lim, B, Fr, rfl, at_ex hA (e1.trans e2), fun v hv H3 hA => go_nil ⟨by show 1 ≤ sizeLine; decide, fun p hp => ?_⟩, fun hn H3 e3 => ⟨true, M_U, fun _ a na => ⟨⟨rfl, rfl⟩, ?_⟩, fun z => nomatch z⟩⟩)))
    · obtain ⟨b1, hA, hp1⟩ := Ap.at_tup (vs := [v]) hA hp
      exact q1 v hv p _ _ b1 (st_of hp1) hA
    · exact s_ret (ev_andT (ev_isE (c := .ref C_Unknown) (cv := .ref C_Unknown) rfl ev_c (fun u hu => hu) K_U) (ev_andT (ev_isE (c := .ty "ValueError") (cv := .type "ValueError") rfl ev_c (fun u hu => hu) E_Unknown.k2) (ev_nf (ev_isE (c := .ref C_BadPath) (cv := .ref C_BadPath) rfl ev_c (fun u hu => hu) N_U)))) (fun H4 e4 => q2 hn H4 (((e1.trans e2).trans e3).trans e4))
def IntV (l : List (Str × V)) : Prop := ∀ p ∈ l, ∃ i, p.2 = V.int i
theorem intV_put {l : List (Str × V)} (h : IntV l) (z : Str) (i : Int) : IntV (putK l z (.int i)) ∧ (putK l z (.int i)).length ≤ l.length + 1 := by
  unfold putK
  split
  · refine ⟨fun p hp => ?_, by rw [List.length_map]; omega⟩
    obtain ⟨r, hr, rfl⟩ := List.mem_map.mp hp
    split
    · exact ⟨i, rfl⟩
    · exact h r hr
  · refine ⟨fun p hp => ?_, by rw [List.length_append]; exact Nat.le_refl _⟩
    rcases List.mem_append.mp hp with hp | hp
    · exact h p hp
    · rw [List.mem_singleton.mp hp]; exact ⟨i, rfl⟩
theorem intV_drop {l : List (Str × V)} (h : IntV l) (z : Str) : IntV (dropK l z) ∧ (dropK l z).length ≤ l.length + 1 := ⟨fun p hp => h p (List.mem_filter.mp hp).1, by
  have := List.length_filter_le (fun kv : Str × V => decide (kv.1 ≠ z)) l
  unfold dropK
  omega⟩
theorem intV_val {l : List (Str × V)} (h : IntV l) {z : Str} {v : V} (hv : valV l z = some v) : ∃ i, v = .int i := by
  unfold valV at hv
  cases hf : l.find? fun kv => decide (kv.1 = z) with
  | none => rw [hf] at hv; cases hv
  | some p =>
    rw [hf] at hv
    cases hv
    exact h p (List.mem_of_find?_eq_some hf)
theorem s_andX {σ : L2.St} {H : Hp} {D : Ends} {t1 t2 : TT} {tu : TS} {b : Bool} (h1 : EvT t1 σ H b) (hf : b = false → ∀ H1, Ex H H1 → D.nx σ H1) (ht : b = true → ∀ H1, Ex H H1 → t2 σ H1 fun c H2 => if c = true then tu D σ H2 else D.nx σ H2) : tIfS (tAnd t1 t2) tu tNext D σ H := h1 H (Ex.refl H) _ fun H1 e1 => by
  cases b with
  | true => exact ht rfl H1 e1
  | false => exact hf rfl H1 e1
theorem go_meth {σ : L2.St} {H : Hp} {ta : TE} {C r dx : Addr} {sp : Sp} {E : XK} {m : Str} {fs : List (Str × V)} {tr : L2.TA} {Q : VK} (h : Ev ta σ H (.ref r)) (hr : H r = some (.ins C dx fs)) (hn : fs.lookup m = none) (k : ∀ H1, Ex H H1 → tr σ H1 fun vs H2 => sp (.ref r :: (vs ++ [])) H2 Q E) : tMeth C m sp [] E ta tr σ H Q := h H (Ex.refl H) _ fun H1 e1 => ⟨r, dx, fs, rfl, e1 _ _ hr, hn, k H1 e1⟩
theorem s_not {σ : L2.St} {H : Hp} {te : TE} {tu : TS} {D : Ends} (h : te σ H fun x H1 => ∃ c, x = .bl c ∧ (if (!c) = true then tu D σ H1 else D.nx σ H1)) : tIfS (tNot (tB te)) tu tNext D σ H := h
theorem go_test {σ : L2.St} {H : Hp} {te : TE} {Q : Bool → Hp → Prop} (h : te σ H fun x H' => ∃ k, x = .bl k ∧ Q k H') : tTest te σ H Q := h
theorem go_dget {σ : L2.St} {H : Hp} {td ty : TE} {Q : VK} (h : td σ H fun x H1 => ty σ H1 fun y H2 => ∃ a v, x = .ref a ∧ DGet H2 a y (some v) ∧ Q v H2) : tDGet td ty σ H Q := h
theorem dr_ins {B H : Hp} {F : List MP} {C d : Addr} {l : List (Str × V)} {lim : V} (h : At B (DrM K C d l lim :: F) H) : ∃ dx e, H d = some (.ins C dx (fDr e lim)) := by
  obtain ⟨dx, e, h⟩ := dr_open h
  exact ⟨dx, e, at_get 0 rfl h⟩
def spLDs (K : PySem.W.Frag) (C : Addr) : Sp := fun vs H Q _ => ∃ (d en : Addr) (z : Str) (dr : Int) (l : List (Str × V)) (lim : V) (B : Hp) (F : List MP), vs = [.ref d, .ref en, .str z, .int dr] ∧ At B (DrM K C d l lim :: Pt en (.dK (kvT l)) :: F) H ∧ IntV l ∧ l.length < 1000 ∧ ∀ l' B1 H1, Ex B B1 → IntV l' → l'.length ≤ l.length + 1 → At B1 (DrM K C d l' lim :: Pt en (.dK (kvT l')) :: F) H1 → Q (.bl true) H1
theorem ok_ldstep {f f1 f2 f3 f4 C : Addr} {fd fd1 fd2 fd3 fd4 : FuncData} (F : Fun K "_law_directory_step" "_law_directory_step" s__law_directory_step f fd) (D__law_same : Df K mg "_law_same" s__law_same ["actual", "due"] f1 fd1) (G__law_same : FnOk P w K mg base CX0 4 f1 fd1 ["actual", "due"] (spSm K 3)) (D__law_take : Df K mg "_law_take" s__law_take ["directory", "name"] f2 fd2) (G__law_take : FnOk P w K mg base CX0 3 f2 fd2 ["directory", "name"] (spLTk K C))
    (D_Directory_put : Dm K C "put" "Directory.put" s_Directory_put ["self", "name", "number"] f3 fd3) (G_Directory_put : FnOk P w K mg base CX0 1 f3 fd3 ["self", "name", "number"] (spDrP K C)) (D_Directory_child : Dm K C "child" "Directory.child" s_Directory_child ["self", "name"] f4 fd4) (G_Directory_child : FnOk P w K mg base CX0 1 f4 fd4 ["self", "name"] (spDrC K C)) (L_Directory : Kl K mg "Directory" C) (T : Glo mg) : FnOk P w K mg base CX0 5 f fd ["directory", "entries", "name", "draw"] (spLDs K C) := by
  refine F.ok sc__law_directory_step (fun vs H Q E h => ?_) (fun cdv A outer s H vs Q E hr h => ?_)
  · obtain ⟨d, en, z, dr, l, lim, B, Fr, rfl, _⟩ := h
    rfl
  · obtain ⟨d, en, z, dr, l, lim, B, Fr, rfl, hA, hI, hl, q⟩ := h
    refine ⟨_, (pss_cons (ps_set (i := 4) sc__law_directory_step.nd rfl (.inl rfl) (pe_op op_mod (pe_callTy call_int1 (by rfl) T.int (by decide +kernel) (pa_cons (pe_op op_fdiv (pv 3) pe_int) pa_nil)) pe_int))
  (pss_cons (ps_set (i := 5) sc__law_directory_step.nd rfl (.inl rfl) (pe_op op_mod (pe_callTy call_int1 (by rfl) T.int (by decide +kernel) (pa_cons (pv 3) pa_nil)) pe_int))
  (pss_cons (ps_if (PW.pt (pw_and (pt_cmpR op_eq (pv 5) pe_int (nomark _)) (pw_and1 (pt_cmpR op_notN (pe_meth (pv 0) L_Directory.cl D_Directory_put.m G_Directory_put (hr.mono (by decide)) D_Directory_put.b .nil pass0 (pa_cons (pv 2) (pa_cons (pv 4) pa_nil))) pe_non (nomark _)))))
  (pss_one (ps_ret pe_bl))
  pss_nil)
  (pss_cons (ps_if (pt_cmpR op_eq (pv 5) pe_int (nomark _))
  (pss_cons (ps_if (pt_cmp (pc_dnotin (by exact hu_of hr) (pv 2) (pv 1)))
  (pss_one (ps_ret (pe_cmpR op_is_bl (pe_call G__law_take (hr.mono (by decide)) (by rfl) D__law_take.g D__law_take.F.kp D__law_take.b .nil pass0 (pa_cons (pv 0) (pa_cons (pv 2) pa_nil))) pe_bl (nomark _))))
  pss_nil)
  (pss_one (ps_if (pt_not (pt_val (pe_call G__law_same (hr.mono (by decide)) (by rfl) D__law_same.g D__law_same.F.kp D__law_same.b .nil pass0 (pa_cons (pe_call G__law_take (hr.mono (by decide)) (by rfl) D__law_take.g D__law_take.F.kp D__law_take.b .nil pass0 (pa_cons (pv 0) (pa_cons (pv 2) pa_nil))) (pa_cons (pe_tup (pa_cons (pe_dpop1 (pv 1) (pv 2) ⟨rfl, rfl, rfl, rfl⟩) pa_nil)) pa_nil)))))
  (pss_one (ps_ret pe_bl))
  pss_nil)))
  pss_nil)
  (pss_cons (ps_if (pt_cmpR op_eq (pv 5) pe_int (nomark _))
  (pss_one (ps_dput (hu_of hr) (pv 1) (pv 2) (pv 4) rfl))
  pss_nil)
  (pss_cons (ps_if (pt_cmp (pc_dnotin (by exact hu_of hr) (pv 2) (pv 1)))
  (pss_one (ps_ret (pe_cmpR op_isN (pe_meth (pv 0) L_Directory.cl D_Directory_child.m G_Directory_child (hr.mono (by decide)) D_Directory_child.b .nil pass0 (pa_cons (pv 2) pa_nil)) pe_non (nomark _))))
  pss_nil)
  (pss_one (ps_ret (pe_call G__law_same (hr.mono (by decide)) (by rfl) D__law_same.g D__law_same.F.kp D__law_same.b .nil pass0 (pa_cons (pe_meth (pv 0) L_Directory.cl D_Directory_child.m G_Directory_child (hr.mono (by decide)) D_Directory_child.b .nil pass0 (pa_cons (pv 2) pa_nil)) (pa_cons (pe_dget (hu_of hr) (pv 1) (pv 2) (fun _ _ => rfl)) pa_nil))))))))))), ?_⟩
    refine qe_asg (x := .int (dr / 3 % 1000)) hA (ev_op (ev_cb (ea_cons (ev_op (ev_var rfl) ev_c (rv_I ⟨by decide, by decide⟩)) ea_nil) rc_int) ev_c (rv_I (by decide))) fun H1 hA => ?_
    refine qe_asg (x := .int (dr % 3)) hA (ev_op (ev_cb (ea_cons (ev_var rfl) ea_nil) rc_int) ev_c (rv_I (by decide))) fun H2 hA => ?_
    generalize dr / 3 % 1000 = nm
    generalize dr % 3 = ch
    -- the end: what the directory tells
    have fin : ∀ {D : Ends} {l' : List (Str × V)} {B1 H3 : Hp}, D.rt = Q → Ex B B1 → IntV l' → l'.length ≤ l.length + 1 → At B1 (DrM K C d l' lim :: Pt en (.dK (kvT l')) :: Fr) H3 →
        tSeq (tIfS (tB (tDNotIn (tVar 2) (tVar 1))) (tRet (tOp (fun x y H Q => y = .non ∧ Q (.bl (decide (x = .non))) H) (tMeth C "child" (spDrC K C) [] E0 (tVar 0) (tCons (tVar 2) tNil)) (tC .non))) tNext) (tRet (tCall (spSm K 3) [] E0 (tCons (tMeth C "child" (spDrC K C) [] E0 (tVar 0) (tCons (tVar 2) tNil)) (tCons (tDGet (tVar 1) (tVar 2)) tNil)))) D [some (.ref d), some (.ref en), some (.str z), some (.int dr), some (.int nm), some (.int ch)] H3 := fun {D l' B1 H3} hD b1 hI hl hA => by
      refine q_when (b := !(valV l' z).isSome) (et_dnin (ev_var rfl) (ev_var rfl) (at_get (a := en) 1 rfl hA)) (fun hb H4 e4 => ?_) (fun hb H4 e4 => ?_)
      · have hn : valV l' z = none := by
          cases hv : valV l' z with
          | none => rfl
          | some x => rw [hv] at hb; cases hb
        have hA := at_ex hA e4
        obtain ⟨dx, e, hd⟩ := dr_ins hA
        refine r_do (go_op (go_meth (ev_var rfl) hd rfl fun H5 e5 => go_cons (ev_var rfl) fun H6 e6 => go_nil ⟨d, z, l', lim, B1, _, rfl, at_ex hA (e5.trans e6), fun H7 e7 => ev_c H7 (Ex.refl H7) _ fun H8 e8 => ⟨rfl, ?_⟩⟩))
        rw [hn]
        show D.rt (.bl true) H8
        rw [hD]
        exact q l' B1 H8 b1 hI hl (at_ex hA (((e5.trans e6).trans e7).trans e8))
      · obtain ⟨v, hv⟩ : ∃ v, valV l' z = some v := by
          cases hv : valV l' z with
          | none => rw [hv] at hb; cases hb
          | some x => exact ⟨x, rfl⟩
        obtain ⟨i, rfl⟩ := intV_val hI hv
        have hA := at_ex hA e4
        obtain ⟨dx, e, hd⟩ := dr_ins hA
        refine r_do (go_call (go_cons' (go_meth (ev_var rfl) hd rfl fun H5 e5 => go_cons (ev_var rfl) fun H6 e6 => go_nil ⟨d, z, l', lim, B1, _, rfl, at_ex hA (e5.trans e6), fun H7 e7 => go_cons' (go_dget (go_ev (ev_var rfl) fun H8 e8 => go_ev (ev_var rfl) fun H9 e9 => ⟨en, .int i, rfl, ?_, go_nil ⟨.int i, .int i, .int i, ?_, .int i, .int i, .int i, fun H10 e10 => ?_⟩⟩))⟩)))
        · rw [← hv, ← kvT_val]
          exact DGet.k (k := Sum.inr z) (at_get (a := en) 1 rfl (at_ex hA ((((e5.trans e6).trans e7).trans e8).trans e9)))
        · rw [hv]; rfl
        · show D.rt (.bl true) H10
          rw [hD]
          exact q l' B1 H10 b1 hI hl (at_ex hA (((((e5.trans e6).trans e7).trans e8).trans e9).trans e10))
    refine q_seqJ (fun σ' H' => ∃ (l1 : List (Str × V)), σ' = [some (.ref d), some (.ref en), some (.str z), some (.int dr), some (.int nm), some (.int ch)] ∧ (ch = 1 → l1 = putK l z (.int nm)) ∧ (ch ≠ 1 → l1 = l) ∧ At B (DrM K C d l1 lim :: Pt en (.dK (kvT l)) :: Fr) H') (fun nx hnx => ?_) (fun σ' H' h => ?_)
    · refine s_andX (b := decide (ch = 1)) (et_test (ev_op (ev_var rfl) ev_c rv_eqI)) (fun hb H3 e3 => hnx _ _ ⟨l, rfl, (fun h => absurd h (of_decide_eq_false hb)), fun _ => rfl, at_ex hA e3⟩) (fun hb H3 e3 => ?_)
      have hA := at_ex hA e3
      obtain ⟨dx, e, hd⟩ := dr_ins hA
      exact go_test (go_op (go_meth (ev_var rfl) hd rfl fun H5 e5 => go_cons (ev_var rfl) fun H6 e6 => go_cons (ev_var rfl) fun H7 e7 => go_nil ⟨d, z, .int nm, l, lim, B, _, rfl, at_ex hA ((e5.trans e6).trans e7), hl, fun H8 hA => ev_c H8 (Ex.refl H8) _ fun H9 e9 => ⟨rfl, false, rfl, hnx _ _ ⟨putK l z (.int nm), rfl, fun _ => rfl, (fun h => absurd (of_decide_eq_true hb) h), at_ex hA e9⟩⟩⟩))
    obtain ⟨l1, rfl, hl1, hl2, hA⟩ := h
    by_cases hc2 : ch = 2
    · have e1 := hl2 (by omega)
      subst e1
      refine q_seqJ (fun σ' H' => σ' = [some (.ref d), some (.ref en), some (.str z), some (.int dr), some (.int nm), some (.int ch)] ∧ ∃ B1, Ex B B1 ∧ At B1 (DrM K C d (dropK l1 z) lim :: Pt en (.dK (kvT (dropK l1 z))) :: Fr) H') (fun nx hnx => ?_) (fun σ' H' h => ?_)
      · refine se_when (b := true) hA (et_is (et_test (ev_op (ev_var rfl) ev_c rv_eqI)) (decide_eq_true hc2)) (fun _ H3 hA => ?_) (fun hb => nomatch hb)
        refine q_when (b := !(valV l1 z).isSome) (et_dnin (ev_var rfl) (ev_var rfl) (at_get (a := en) 1 rfl hA)) (fun hb H4 e4 => ?_) (fun hb H4 e4 => ?_)
        · have hn : valV l1 z = none := by
            cases hv : valV l1 z with
            | none => rfl
            | some x => rw [hv] at hb; cases hb
          have hA := at_ex hA e4
          exact r_do (go_op (go_call (go_cons (ev_var rfl) fun H5 e5 => go_cons (ev_var rfl) fun H6 e6 => go_nil ⟨d, z, l1, lim, B, _, rfl, at_ex hA (e5.trans e6), (fun v hv => by rw [hn] at hv; cases hv), fun _ H7 e7 => ev_c H7 (Ex.refl H7) _ fun H8 e8 => ⟨true, true, rfl, rfl, q l1 B H8 (Ex.refl B) hI (Nat.le_succ _) (at_ex hA (((e5.trans e6).trans e7).trans e8))⟩⟩)))
        · obtain ⟨v, hv⟩ : ∃ v, valV l1 z = some v := by
            cases hv : valV l1 z with
            | none => rw [hv] at hb; cases hb
            | some x => exact ⟨x, rfl⟩
          obtain ⟨i, rfl⟩ := intV_val hI hv
          have hA := at_ex hA e4
          refine s_not (go_call (go_cons' (go_call (go_cons (ev_var rfl) fun H5 e5 => go_cons (ev_var rfl) fun H6 e6 => go_nil ⟨d, z, l1, lim, B, _, rfl, at_ex hA (e5.trans e6), fun v' hv' t B1 H7 b1 ht hA => ?_, (fun hn => by rw [hn] at hv; cases hv)⟩))))
          rw [hv] at hv'
          cases hv'
          have hen := at_get (a := en) 1 rfl hA
          refine go_cons' (go_tup (go_cons' (go_dpop1 (go_ev (ev_var rfl) fun H8 e8 => ⟨en, rfl, .inl ⟨_, .inl (e8 _ _ hen)⟩, go_ev (ev_var rfl) fun H9 e9 => ⟨_, Sum.inr z, .int i, (e8.trans e9) _ _ hen, rfl, by rw [kvT_val]; exact hv, go_nil ⟨by show 1 ≤ sizeLine; decide, fun p hp => ?_⟩⟩⟩))))
          rw [kvT_drop] at hp ⊢
          have hA := at_upd (a := en) (u := .dK (kvT (dropK l1 z))) 1 rfl (at_ex hA (e8.trans e9))
          obtain ⟨b2, hA, hp1⟩ := Ap.at_tup (vs := [.int i]) hA hp
          have hB := at_base hA
          exact go_nil ⟨.ref t, .ref p, .tuple [.int i], rfl, .tup (ex_t (b2.trans hB) ht) (.cons (.int i) .nil), .tup (ex_t hB (st_of hp1)) (.cons (.int i) .nil), .tup (by show 1 ≤ 50000; decide) (fun x hx => by rw [List.mem_singleton.mp hx]; exact .int i), fun H10 e10 => ⟨true, rfl, hnx _ _ ⟨rfl, _, b1.trans b2, at_ex hA e10⟩⟩⟩
      · obtain ⟨rfl, B1, b1, hA⟩ := h
        refine qe_when (b := false) hA (et_is (et_test (ev_op (ev_var rfl) ev_c rv_eqI)) (decide_eq_false (by omega))) (fun hb => nomatch hb) (fun _ H4 hA => ?_)
        exact fin rfl b1 (intV_drop hI z).1 (intV_drop hI z).2 hA
    · refine qe_when (b := false) hA (et_is (et_test (ev_op (ev_var rfl) ev_c rv_eqI)) (decide_eq_false hc2)) (fun hb => nomatch hb) (fun _ H3 hA => ?_)
      by_cases hc1 : ch = 1
      · have e1 := hl1 hc1
        subst e1
        refine q_seqJ (fun σ' H' => σ' = [some (.ref d), some (.ref en), some (.str z), some (.int dr), some (.int nm), some (.int ch)] ∧ At B (DrM K C d (putK l z (.int nm)) lim :: Pt en (.dK (kvT (putK l z (.int nm)))) :: Fr) H') (fun nx hnx => ?_) (fun σ' H' h => ?_)
        · refine se_when (b := true) hA (et_is (et_test (ev_op (ev_var rfl) ev_c rv_eqI)) (decide_eq_true hc1)) (fun _ H4 hA => ?_) (fun hb => nomatch hb)
          refine s_dput (go_ev (ev_var rfl) fun H5 e5 => go_ev (ev_var rfl) fun H6 e6 => go_ev (ev_var rfl) fun H7 e7 => ?_)
          have hA := at_ex hA ((e5.trans e6).trans e7)
          refine ⟨en, _, rfl, DPut.k (k := Sum.inr z) (at_get (a := en) 1 rfl hA) (sz_lt (by unfold kvT; rw [List.length_map]; omega)), hnx _ _ ⟨rfl, ?_⟩⟩
          rw [kvT_put]
          exact at_upd (a := en) (u := .dK (kvT (putK l z (.int nm)))) 1 rfl hA
        · obtain ⟨rfl, hA⟩ := h
          exact fin rfl (Ex.refl B) (intV_put hI z nm).1 (intV_put hI z nm).2 hA
      · have e1 := hl2 hc1
        subst e1
        refine qe_when (b := false) hA (et_is (et_test (ev_op (ev_var rfl) ev_c rv_eqI)) (decide_eq_false hc1)) (fun hb => nomatch hb) (fun _ H4 hA => ?_)
        exact fin rfl (Ex.refl B) hI (Nat.le_succ _) hA
theorem str_of_cps {a b : Str} (h : a.cps.toList = b.cps.toList) : a = b := by
  cases a; cases b
  simp only at h
  congr 1
  exact Array.toList_inj.mp h
theorem at_dxL'' {B H : Hp} {l : List MP} {p : Addr} {ds : List PyData} (n : Nat) (hn : l[n]? = some (LstM K p ds)) (hA : At B l H) : Dx K H (.ref p) (.list ds) := by
  obtain ⟨xs, h1, h2⟩ := lst_at n hn hA
  exact .lst (sq_of h2) (dpa_dxa _ _ (dpa_mono (at_base hA) _ _ h1))
def leS (a b : Str) : Prop := ¬ (b.cps.toList < a.cps.toList)
theorem leS_trans {a b c : Str} (h1 : leS a b) (h2 : leS b c) : leS a c := by
  unfold leS at *
  rw [List.not_lt] at *
  exact List.le_trans h1 h2
theorem rising_pw : ∀ (l : List Str) (p : Str), risingS p l = true → (p :: l).Pairwise leS
  | [], p, _ => List.pairwise_singleton _ _
  | x :: r, p, h => by
    have h : (!ltCps x.cps.toList p.cps.toList && risingS x r) = true := h
    rw [Bool.and_eq_true, Bool.not_eq_true', ltCps_eq, decide_eq_false_iff_not] at h
    have ih := rising_pw r x h.2
    refine List.pairwise_cons.mpr ⟨fun y hy => ?_, ih⟩
    rcases List.mem_cons.mp hy with rfl | hy
    · exact h.1
    · exact leS_trans h.1 ((List.pairwise_cons.mp ih).1 y hy)
theorem sorted_pw : ∀ (l : List Str), sortedS l = true → l.Pairwise leS
  | [], _ => List.Pairwise.nil
  | x :: r, h => rising_pw r x h
theorem sorted_one {xs ys : List Str} (h : xs.Perm ys) (hx : sortedS xs = true) (hy : sortedS ys = true) : xs = ys := by
  refine List.Perm.eq_of_pairwise (le := leS) (fun a b _ _ h1 h2 => str_of_cps ?_) (sorted_pw xs hx) (sorted_pw ys hy) h
  unfold leS at h1 h2
  rw [List.not_lt] at h1 h2
  exact List.le_antisymm h1 h2
theorem dpa_strs {H : Hp} : ∀ (ns : List Str), DpAll K H (ns.map V.str) (ns.map PyData.str)
  | [] => .nil
  | z :: r => .cons (.str z) (dpa_strs r)
theorem go_lcKeysE {σ : L2.St} {H : Hp} {td te : TE} {t : TT} {dd : Addr} {kvs : List (Key × V)} {j : Nat} {vs : List Nat} {Q : VK} (hd : H dd = some (.dK kvs)) (hz : kvs.length ≤ 40000) (f : Nat → Bool) (v : Nat → V) (hw : ∀ x, wipe ((wipe σ vs).set j (some x)) vs = wipe σ vs) (hev : ∀ o H1, Ex (upd H dd (.frz o (.dK kvs))) H1 → Ev td σ H1 (.ref dd))
    (ht : ∀ (n : Nat) k x o H1, kvs[n]? = some (k, x) → Ex (upd H dd (.frz o (.dK kvs))) H1 → EvT t ((wipe σ vs).set j (some (kV k))) H1 (f n))
    (he : ∀ (n : Nat) k x o H1, kvs[n]? = some (k, x) → Ex (upd H dd (.frz o (.dK kvs))) H1 → f n = true → Ev te ((wipe σ vs).set j (some (kV k))) H1 (v n))
    (q : ∀ p H1, H p = none → Ex H H1 → H1 p = some (.lst (given kvs.length f v)) → Q (.ref p) H1) : tLockE (tLc (iKeys td) (gName j) t te vs) σ H Q := by
  refine ⟨dd, .dK kvs, hd, trivial, fun od => hev od _ (Ex.refl _) _ (Ex.refl _) _ fun H2 e2 => ⟨dd, od, rfl, .inl ⟨kvs, e2 _ _ upd_same, fun Dl hD => ?_⟩⟩⟩
  have nD : upd H dd (.frz od (.dK kvs)) Dl = none := fresh_back e2 hD
  have ne : Dl ≠ dd := fun e => by
    rw [e, upd_same] at nD
    cases nD
  refine lc_it walk_keys (fun m H' => Cw H2 f v Dl m H') ⟨hD, Ex.new hD, upd_same⟩ (fun m H' _ p => p.2.1 dd _ (e2 _ _ upd_same)) (fun m x H1 H' hm p y => ?_) (fun H' p => ?_)
  · obtain ⟨rfl, k, x', hk, rfl⟩ := y
    exact ⟨hw _, cw_turn p (by omega) (ht m k x' od H2 hk e2) (fun hf => he m k x' od H2 hk e2 hf)⟩
  · refine ⟨p.2.1 dd _ (e2 _ _ upd_same), ?_⟩
    refine q Dl _ ?_ (Ex.unlock hd (e2.trans p.2.1)) (by rw [upd_ne ne]; exact p.2.2)
    rw [upd_ne ne] at nD
    exact nD
theorem given_strs (l : List (Str × V)) : given (kvT l).length (fun _ => true) (fun n => kV (((kvT l).map (·.1)).getD n (Sum.inl 0))) = (l.map (·.1)).map V.str := by
  have hl : (kvT l).length = l.length := by unfold kvT; rw [List.length_map]
  unfold Evl.given
  rw [List.filter_eq_self.mpr (fun _ _ => rfl)]
  refine List.ext_getElem (by simp [hl]) (fun i h1 h2 => ?_)
  have h3 : i < l.length := by simpa using h2
  simp [kvT, h3]
  rfl
theorem et_din {σ : L2.St} {H : Hp} {ty td : TE} {a : Addr} {l : List (Str × V)} {z : Str} (hy : Ev ty σ H (.str z)) (hd : Ev td σ H (.ref a)) (h : H a = some (.dK (kvT l))) : EvT (tB (tDIn ty td)) σ H ((valV l z).isSome) := et_B (fun H1 e Q q => hy H1 e _ fun H2 e2 => hd H2 (e.trans e2) _ fun H3 e3 => ⟨a, valV l z, rfl, by
  rw [← kvT_val]
  exact DGet.k (k := Sum.inr z) (((e.trans e2).trans e3) _ _ h), q H3 (e2.trans e3)⟩)
theorem go_cbk {σ : L2.St} {H : Hp} {r : List V → Hp → VK → Prop} {ta : L2.TA} {Q : VK} (h : ta σ H fun vs H1 => r vs H1 Q) : tCB r ta σ H Q := h
theorem et_andF {tq tr : TT} {σ : L2.St} {H : Hp} (h1 : EvT tq σ H false) : EvT (tAnd tq tr) σ H false := fun H1 e Q q => h1 H1 e _ fun H2 e2 => q H2 e2
theorem rv_notN {x : V} {H : Hp} : RV (fun x y H Q => y = .non ∧ Q (.bl (!decide (x = .non))) H) x .non H (.bl (!decide (x = .non))) := fun H1 e Q q => ⟨rfl, q H1 (Ex.refl H1)⟩
theorem ev_child {σ : L2.St} {B H : Hp} {F : List MP} {C d : Addr} {l : List (Str × V)} {lim : V} {z : Str} {ta te : TE} {E : XK} (hA : At B (DrM K C d l lim :: F) H) (h : Ev ta σ H (.ref d)) (h2 : Ev te σ H (.str z)) : Ev (tMeth C "child" (spDrC K C) [] E ta (tCons te tNil)) σ H ((valV l z).getD .non) := fun H1 e Q q => by
  obtain ⟨dx, en, hd⟩ := dr_ins (at_ex hA e)
  exact go_meth (Ev.mono e h) hd rfl fun H2 e2 => go_cons (Ev.mono (e.trans e2) h2) fun H3 e3 => go_nil ⟨d, z, l, lim, B, F, rfl, at_ex hA ((e.trans e2).trans e3), fun H4 e4 => q H4 ((e2.trans e3).trans e4)⟩
def spLDi (K : PySem.W.Frag) (C : Addr) : Sp := fun vs H Q _ => ∃ (d en nm : Addr) (l : List (Str × V)) (lim : V) (xs : List Str) (B : Hp) (F : List MP), vs = [.ref d, .ref en, .ref nm] ∧ At B (DrM K C d l lim :: Pt en (.dK (kvT l)) :: F) H ∧ IntV l ∧ l.length < 60 ∧ B nm = some (.lst (xs.map V.str)) ∧ xs.length ≤ 1000 ∧ ∀ B1 H1, Ex B B1 → At B1 (DrM K C d l lim :: Pt en (.dK (kvT l)) :: F) H1 → Q (.bl true) H1
theorem ok_ldis {f f1 f2 f3 C : Addr} {fd fd1 fd2 fd3 : FuncData} (F : Fun K "_law_directory_is" "_law_directory_is" s__law_directory_is f fd) (D__law_same : Df K mg "_law_same" s__law_same ["actual", "due"] f1 fd1) (G__law_same : FnOk P w K mg base CX0 4 f1 fd1 ["actual", "due"] (spSm K 3))
    (D_Directory_names : Dm K C "names" "Directory.names" s_Directory_names ["self"] f2 fd2) (G_Directory_names : FnOk P w K mg base CX0 1 f2 fd2 ["self"] (spDrN K C)) (D_Directory_child : Dm K C "child" "Directory.child" s_Directory_child ["self", "name"] f3 fd3) (G_Directory_child : FnOk P w K mg base CX0 1 f3 fd3 ["self", "name"] (spDrC K C)) (L_Directory : Kl K mg "Directory" C) (T : Glo mg) : FnOk P w K mg base CX0 5 f fd ["directory", "entries", "names"] (spLDi K C) := by
  refine F.ok sc__law_directory_is (fun vs H Q E h => ?_) (fun cdv A outer s H vs Q E hr h => ?_)
  · obtain ⟨d, en, nm, l, lim, xs, B, Fr, rfl, _⟩ := h
    rfl
  · obtain ⟨d, en, nm, l, lim, xs, B, Fr, rfl, hA, hI, hl, hnm, hxs, q⟩ := h
    refine ⟨_, (pss_cons (ps_set (i := 3) sc__law_directory_is.nd rfl (.inl rfl) (pe_meth0 (pv 0) L_Directory.cl D_Directory_names.m G_Directory_names (hr.mono (by decide)) D_Directory_names.b .nil pass0))
  (pss_cons (ps_if (PW.pt (pw_or (pt_not (pt_val (pe_callB call_isi (by rfl) T.isinstance (by decide +kernel) (pa_cons (pv 3) (pa_cons (pe_bltn (v := .ty "list") (u := .type "list") (by rfl) T.list (by decide +kernel) rfl) pa_nil))))) (pw_or1 (pt_not (pt_val (pe_call G__law_same (hr.mono (by decide)) (by rfl) D__law_same.g D__law_same.F.kp D__law_same.b .nil pass0 (pa_cons (pe_tupleOf (by rfl) T.tuple (pv 3)) (pa_cons (pe_tupleOf (by rfl) T.tuple (pe_callB cr_sortedS (by rfl) T.sorted (by decide +kernel) (pa_cons (pe_lock (pe_lc (own := [("name", 4)]) (g := gName 4) rfl sc__law_directory_is.nd (pi_keys (pv 1)) (blkOk_by (N := N__law_directory_is) (sc := defScope s__law_directory_is) (by decide +kernel)) (fun _ _ _ _ _ => (pg_name (i := 4) sc__law_directory_is.nd rfl (.inl rfl))) (fun _ _ _ _ _ => pts_nil) (fun _ _ _ _ _ => (pv 4)))) pa_nil))) pa_nil))))))))
  (pss_one (ps_ret pe_bl))
  pss_nil)
  (pss_cons (ps_expr (pe_bm PySem.F.plainAttrs_list PySem.F.slot_list_append PySem.F.type_list_append mt_append (pv 3) (pa_cons pe_str pa_nil)))
  (pss_cons (ps_for PassesOwn.never rfl (pi_list (pv 2)) (pg_name (i := 4) sc__law_directory_is.nd rfl (.inl rfl))
  (pss_cons (ps_if (PW.pt (pw_and (pt_cmp (pc_din (hu_of hr) (pv 4) (pv 1))) (pw_and1 (pt_not (pt_val (pe_call G__law_same (hr.mono (by decide)) (by rfl) D__law_same.g D__law_same.F.kp D__law_same.b .nil pass0 (pa_cons (pe_meth (pv 0) L_Directory.cl D_Directory_child.m G_Directory_child (hr.mono (by decide)) D_Directory_child.b .nil pass0 (pa_cons (pv 4) pa_nil)) (pa_cons (pe_dget (hu_of hr) (pv 1) (pv 4) (fun _ _ => rfl)) pa_nil))))))))
  (pss_one (ps_ret pe_bl))
  pss_nil)
  (pss_one (ps_if (PW.pt (pw_and (pt_cmp (pc_dnotin (by exact hu_of hr) (pv 4) (pv 1))) (pw_and1 (pt_cmpR op_notN (pe_meth (pv 0) L_Directory.cl D_Directory_child.m G_Directory_child (hr.mono (by decide)) D_Directory_child.b .nil pass0 (pa_cons (pv 4) pa_nil)) pe_non (nomark _)))))
  (pss_one (ps_ret pe_bl))
  pss_nil))))
  (pss_one (ps_ret (pe_cmpR op_eq (pe_callB call_len_seq (by rfl) T.len PySem.boot_len (pa_cons (pe_meth0 (pv 0) L_Directory.cl D_Directory_names.m G_Directory_names (hr.mono (by decide)) D_Directory_names.b .nil pass0) pa_nil)) (pe_callB call_lenD (by rfl) T.len PySem.boot_len (pa_cons (pv 1) pa_nil)) (nomark _)))))))), ?_⟩
    obtain ⟨dx, e, hd⟩ := dr_ins hA
    refine q_do (go_meth (ev_var rfl) hd rfl fun H1 e1 => go_nil ⟨d, l, lim, B, _, rfl, at_ex hA e1, by omega, fun ys p H2 hp hs hA => ?_⟩)
    have hyl : ys.length = l.length := by rw [hp.length_eq, List.length_map]
    have hA := at_closeL (K := K) (ds := ys.map PyData.str) 0 rfl (dpa_strs ys) hA
    have hA : At B (LstM K p (ys.map PyData.str) :: DrM K C d l lim :: Pt en (.dK (kvT l)) :: Fr) H2 := hA
    refine q_or4 (ev_isiX (K := K) (ex_var rfl (at_dxL'' (K := K) 0 rfl hA)) (kit_lst _) H2 (Ex.refl H2) _ fun H3 e3 => ⟨true, rfl, ?_⟩)
    have hA := at_ex hA e3
    refine go_call (go_cons' (go_thenK (go_ev (ev_var rfl) fun H4 e4 => k_tup (K := K) 0 rfl (at_ex hA e4) fun v1 B1 H5 b1 hA hv1 => ?_)))
    have hen := at_get (a := en) 2 rfl hA
    refine go_cons' (go_thenK (go_cbk (go_cons' (go_lcKeysE (f := fun _ => true) (v := fun n => kV (((kvT l).map (·.1)).getD n (Sum.inl 0))) hen (by unfold kvT; rw [List.length_map]; omega) (fun x => rfl) (fun o H6 e6 => ev_var rfl) (fun n k x o H6 hk e6 => et_nil) (fun n k x o H6 hk e6 _ => ev_is (ev_var rfl) ?_) fun r H6 nr e6 hr => ?_))))
    · rw [List.getD_eq_getElem?_getD, List.getElem?_map, hk]
      rfl
    rw [given_strs] at hr
    refine go_nil ⟨r, l.map (·.1), rfl, sq_of hr, by rw [List.length_map]; omega, fun zs t hz hzs nt => ?_⟩
    have hA := at_new (at_ex hA e6) nt (Ex.new nt) (upd_same (o := .lst (zs.map V.str)))
    have hA := at_closeL (K := K) (ds := zs.map PyData.str) 0 rfl (dpa_strs zs) hA
    have ez : zs = ys := sorted_one (hz.trans hp.symm) hzs hs
    subst ez
    refine k_tup (K := K) 0 rfl hA fun v2 B2 H7 b2 hA hv2 => go_nil ⟨v1, v2, .tuple (zs.map PyData.str), rfl, dp_dx _ _ (dp_mono (b2.trans (at_base hA)) _ _ hv1), dp_dx _ _ (dp_mono (at_base hA) _ _ hv2), .tup (by rw [List.length_map]; omega) (fun x hx => ?_), fun H8 e8 => ⟨true, rfl, ?_⟩⟩
    · obtain ⟨z, _, rfl⟩ := List.mem_map.mp hx
      exact .str z
    have hA := at_drop (at_ex hA e8)
    refine qm_app (K := K) (d := .str "x") 0 rfl hA (fun H9 => ev_var rfl) wv_str (by rw [List.length_map]; omega) fun B3 H9 b3 hA => ?_
    have hA := at_drop hA
    have hB : Ex B B3 := (b1.trans b2).trans b3
    refine q_forLn (ev_var rfl) (sq_of (at_base hA _ _ (hB _ _ hnm))) (fun _ σ' H' => ∃ y, σ' = [some (.ref d), some (.ref en), some (.ref nm), some (.ref p), y] ∧ At B3 (DrM K C d l lim :: Pt en (.dK (kvT l)) :: Fr) H') (fun H10 e10 => ⟨none, rfl, at_ex hA e10⟩) (fun i σ' H' hi p => ?_) (fun i x σ' H' hx p => ?_) (fun σ' H' p => ?_)
    · obtain ⟨y, rfl, hA⟩ := p
      exact sq_of (at_base hA _ _ (hB _ _ hnm))
    · obtain ⟨y, rfl, hA⟩ := p
      obtain ⟨z, rfl⟩ : ∃ z, x = .str z := by
        obtain ⟨z, _, rfl⟩ := List.mem_map.mp (List.mem_of_getElem? hx)
        exact ⟨z, rfl⟩
      cases hv : valV l z with
      | none =>
        refine q_when (b := false) (et_is (et_andF (et_is (et_din (ev_var rfl) (ev_var rfl) (at_get (a := en) 1 rfl hA)) (by rw [hv]; rfl))) rfl) (fun hb => nomatch hb) (fun _ H4 e4 => ?_)
        have hA := at_ex hA e4
        obtain ⟨dx, e, hd⟩ := dr_ins hA
        refine s_when (b := false) (et_and (a := true) (b := false) (et_is (et_dnin (ev_var rfl) (ev_var rfl) (at_get (a := en) 1 rfl hA)) (by rw [hv]; rfl)) (fun _ => ?_)) (fun hb => nomatch hb) (fun _ H5 e5 => ⟨_, rfl, at_ex hA e5⟩)
        refine et_is (et_test (ev_op (x := .non) (y := .non) (ev_is (ev_child hA (ev_var rfl) (ev_var rfl)) (by rw [hv]; rfl)) ev_c rv_notN)) rfl
      | some v =>
        obtain ⟨i, rfl⟩ := intV_val hI hv
        refine q_when (b := false) (et_and (a := true) (b := false) (et_is (et_din (ev_var rfl) (ev_var rfl) (at_get (a := en) 1 rfl hA)) (by rw [hv]; rfl)) (fun _ => et_is (et_not (et_B (ev_call (ea_cons (ev_is (ev_child hA (ev_var rfl) (ev_var rfl)) (by rw [hv]; rfl)) (ea_cons (ev_dget (ev_var rfl) (k := Sum.inr z) (ev_var rfl) (.inl (at_get (a := en) 1 rfl hA)) (by rw [kvT_val]; exact hv)) ea_nil)) (show SpV (spSm K 3) [.int i, .int i] _ (.bl true) from fun H1 e Q q _ => ⟨.int i, .int i, .int i, rfl, .int _, .int _, .int _, fun H2 e2 => q H2 e2⟩)))) rfl)) (fun hb => nomatch hb) (fun _ H4 e4 => ?_)
        have hA := at_ex hA e4
        refine s_when (b := false) (et_is (et_andF (et_is (et_dnin (ev_var rfl) (ev_var rfl) (at_get (a := en) 1 rfl hA)) (by rw [hv]; rfl))) rfl) (fun hb => nomatch hb) (fun _ H5 e5 => ⟨_, rfl, at_ex hA e5⟩)
    · obtain ⟨y, rfl, hA⟩ := p
      obtain ⟨dx, e, hd⟩ := dr_ins hA
      refine r_do (go_op (go_cbk (go_cons' (go_meth (ev_var rfl) hd rfl fun H1 e1 => go_nil ⟨d, l, lim, B3, _, rfl, at_ex hA e1, by omega, fun ys' p' H2 hp' hs' hA => go_nil ⟨p', _, rfl, .inl (sq_of (at_get 0 rfl hA)), ?_⟩⟩))))
      have hA := at_drop hA
      refine ev_cb (ea_cons (ev_var rfl) ea_nil) (show RC _ [.ref en] H2 (.int (kvT l).length) from fun H3 e3 Q q => ⟨en, _, rfl, e3 _ _ (at_get (a := en) 1 rfl hA), q H3 (Ex.refl H3)⟩) H2 (Ex.refl H2) _ fun H3 e3 => ?_
      have el : ((ys'.map V.str).length : Int) = ((kvT l).length : Int) := by
        rw [List.length_map, hp'.length_eq]
        unfold kvT
        rw [List.length_map, List.length_map]
      refine rv_eqI H3 (Ex.refl H3) _ fun H4 e4 => ?_
      rw [el, decide_eq_true rfl]
      exact q B3 H4 hB (at_ex (at_ex hA e3) e4)
structure FR where
  f : Addr
  du : Addr
  dl : Addr
  ps : List PyData
  b : Bool
def FRm (K : PySem.W.Frag) (C : Addr) (r : FR) : MP := Stars [FlM K C r.f r.ps r.b, Pt r.du (.lst [.ref r.dl, .bl r.b]), LstM K r.dl r.ps]
def FRok (n : Nat) (r : FR) : Prop := (∀ d ∈ r.ps, pcOk d) ∧ r.ps.length ≤ n
theorem FRok.up {n : Nat} {r : FR} (h : FRok n r) : FRok (n + 1) r := ⟨h.1, by have := h.2; omega⟩
def fsL (rs : List FR) : List V := rs.map fun r => V.ref r.f
def dsL (rs : List FR) : List V := rs.map fun r => V.ref r.du
theorem row_open {B H : Hp} {F : List MP} {C : Addr} {rs : List FR} {i : Nat} {r : FR} (h : At B (Each rs (FRm K C) :: F) H) (e : rs[i]? = some r) : At B (FlM K C r.f r.ps r.b :: Pt r.du (.lst [.ref r.dl, .bl r.b]) :: LstM K r.dl r.ps :: Each (rs.eraseIdx i) (FRm K C) :: F) H := at_stars (k := [_, _, _]) (each_at h e)
theorem row_close {B H : Hp} {F : List MP} {C : Addr} {rs : List FR} {i : Nat} {r : FR} (hi : i < rs.length) (h : At B (FlM K C r.f r.ps r.b :: Pt r.du (.lst [.ref r.dl, .bl r.b]) :: LstM K r.dl r.ps :: Each (rs.eraseIdx i) (FRm K C) :: F) H) : At B (Each (rs.set i r) (FRm K C) :: F) H := each_set (x' := r) (f := FRm K C) hi (at_stars' [_, _, _] h)
theorem row_app {B H : Hp} {F : List MP} {C : Addr} {rs : List FR} {r : FR} (h : At B (FlM K C r.f r.ps r.b :: Pt r.du (.lst [.ref r.dl, .bl r.b]) :: LstM K r.dl r.ps :: Each rs (FRm K C) :: F) H) : At B (Each (rs ++ [r]) (FRm K C) :: F) H := each_app (x := r) (f := FRm K C) (at_stars' [_, _, _] h)
theorem map_same {α β : Type} {g : α → β} {rs : List α} {i : Nat} {r r' : α} (h : rs[i]? = some r) (e : g r' = g r) : (rs.set i r').map g = rs.map g := by
  rw [List.map_set, e]
  refine List.set_getElem?_self' ?_
  rw [List.getElem?_map, h]
  rfl
theorem mem_set' {α : Type} {rs : List α} {i : Nat} {r' x : α} (h : x ∈ rs.set i r') : x ∈ rs ∨ x = r' := List.mem_or_eq_of_mem_set h
def spLFs (K : PySem.W.Frag) (C : Addr) : Sp := fun vs H Q _ => ∃ (fs ds : Addr) (a c : Int) (rs : List FR) (n : Nat) (B : Hp) (F : List MP), vs = [.ref fs, .ref ds, .int a, .int c] ∧ At B (Each rs (FRm K C) :: Pt fs (.lst (fsL rs)) :: Pt ds (.lst (dsL rs)) :: F) H ∧ 1 ≤ rs.length ∧ rs.length ≤ 8 ∧ (∀ r ∈ rs, FRok n r) ∧ n < 900 ∧ ∀ rs' B1 H1, Ex B B1 → 1 ≤ rs'.length → rs'.length ≤ 8 → (∀ r ∈ rs', FRok (n + 1) r) → At B1 (Each rs' (FRm K C) :: Pt fs (.lst (fsL rs')) :: Pt ds (.lst (dsL rs')) :: F) H1 → Q (.bl true) H1
theorem q_appG {σ : L2.St} {H : Hp} {D : Ends} {tz : TS} {ta te : TE} {q : Addr} {xs : List V} (hl : H q = some (.lst xs)) (ha : Ev ta σ H (.ref q)) (h : ∀ H1, Ex H H1 → te σ H1 fun v H2 => rAppend (.ref q) [v] H2 fun _ H3 => tz D σ H3) : tSeq (tDrop (tBM K "list" rAppend ta (tCons te tNil))) tz D σ H := ha H (Ex.refl H) _ fun H1 e1 => ⟨Or.inl ⟨rfl, xs, sq_of (e1 q _ hl)⟩, h H1 e1⟩
theorem app_now {H : Hp} {q : Addr} {xs : List V} {v : V} {Q : VK} (h : H q = some (.lst xs)) (hz : xs.length < 100000) (k : Q .non (upd H q (.lst (xs ++ [v])))) : rAppend (.ref q) [v] H Q := ⟨q, xs, v, rfl, rfl, h, sz_lt hz, k⟩
theorem go_andV {σ : L2.St} {H : Hp} {ta tb : TE} {Q : VK} (h : ta σ H fun x H1 => ∃ c, x = .bl c ∧ if c = true then tb σ H1 Q else Q (.bl false) H1) : tAndV ta tb σ H Q := h
theorem ok_lfile_step {f f1 f2 f3 f4 f5 f6 C : Addr} {fd fd1 fd2 fd3 fd4 fd5 fd6 : FuncData} (F : Fun K "_law_file_step" "_law_file_step" s__law_file_step f fd) (D__law_piece : Df K mg "_law_piece" s__law_piece ["draw", "second"] f1 fd1) (G__law_piece : FnOk P w K mg base CX0 3 f1 fd1 ["draw", "second"] (spPc K))
    (D__law_same : Df K mg "_law_same" s__law_same ["actual", "due"] f2 fd2) (G__law_same : FnOk P w K mg base CX0 4 f2 fd2 ["actual", "due"] (spSm K 3)) (D__law_file_is : Df K mg "_law_file_is" s__law_file_is ["actual", "due"] f3 fd3) (G__law_file_is : FnOk P w K mg base CX0 5 f3 fd3 ["actual", "due"] (spFis K C))
    (D_File_add_piece : Dm K C "add_piece" "File.add_piece" s_File_add_piece ["self", "piece"] f4 fd4) (G_File_add_piece : FnOk P w K mg base CX0 1 f4 fd4 ["self", "piece"] (spFlA K C)) (D_File_seal : Dm K C "seal" "File.seal" s_File_seal ["self"] f5 fd5) (G_File_seal : FnOk P w K mg base CX0 1 f5 fd5 ["self"] (spFlSe K C))
    (D_File_sealed_copy : Dm K C "sealed_copy" "File.sealed_copy" s_File_sealed_copy ["self"] f6 fd6) (G_File_sealed_copy : FnOk P w K mg base CX0 3 f6 fd6 ["self"] (spFlC K C)) (L_File : Kl K mg "File" C) (T : Glo mg) : FnOk P w K mg base CX0 6 f fd ["files", "dues", "draw", "second"] (spLFs K C) := by
  refine F.ok sc__law_file_step (fun vs H Q E h => ?_) (fun cdv A outer s H vs Q E hr h => ?_)
  · obtain ⟨fs, ds, a, c, rs, n, B, Fr, rfl, _⟩ := h
    rfl
  · obtain ⟨fs, ds, a, c, rs, n, B, Fr, rfl, hA, h1, h8, hrs, hn, q⟩ := h
    refine ⟨_, (pss_cons (ps_set (i := 4) sc__law_file_step.nd rfl (.inl rfl) (pe_op op_mod (pe_callTy call_int1 (by rfl) T.int (by decide +kernel) (pa_cons (pv 2) pa_nil)) (pe_callB call_len_seq (by rfl) T.len PySem.boot_len (pa_cons (pv 0) pa_nil))))
  (pss_cons (ps_set (i := 5) sc__law_file_step.nd rfl (.inl rfl) (pe_op op_mod (pe_callTy call_int1 (by rfl) T.int (by decide +kernel) (pa_cons (pe_op op_fdiv (pv 2) pe_int) pa_nil)) pe_int))
  (pss_cons (ps_set (i := 6) sc__law_file_step.nd rfl (.inl rfl) (pe_ix ix_list (pv 0) (pv 4) (fun _ _ => rfl)))
  (pss_cons (ps_set (i := 7) sc__law_file_step.nd rfl (.inl rfl) (pe_ix ix_list (pv 1) (pv 4) (fun _ _ => rfl)))
  (pss_cons (ps_if (pt_cmpR op_lt (pv 5) pe_int (nomark _))
  (pss_cons (ps_set (i := 8) sc__law_file_step.nd rfl (.inl rfl) (pe_call G__law_piece (hr.mono (by decide)) (by rfl) D__law_piece.g D__law_piece.F.kp D__law_piece.b .nil pass0 (pa_cons (pe_op op_fdiv (pv 2) pe_int) (pa_cons (pv 3) pa_nil))))
  (pss_cons (ps_set (i := 9) sc__law_file_step.nd rfl (.inl rfl) (pe_callB (cr_sum rfl) (by rfl) T.sum (by decide +kernel) (pa_cons (pe_lc (own := [("row", 10)]) (g := gName 10) rfl sc__law_file_step.nd (pi_list (pe_ix ix_list (pv 7) pe_int (fun _ _ => rfl))) (blkOk_by (N := N__law_file_step) (sc := defScope s__law_file_step) (by decide +kernel)) (fun _ _ _ _ _ => (pg_name (i := 10) sc__law_file_step.nd rfl (.inl rfl))) (fun _ _ _ _ _ => pts_nil) (fun _ _ _ _ _ => (pe_callB call_len_str (by rfl) T.len PySem.boot_len (pa_cons (pe_ix (show IxR _ (rIxT K) from ix_tup) (pv 10) pe_int (fun _ _ => rfl)) pa_nil)))) pa_nil)))
  (pss_cons (ps_expr (pe_bm PySem.F.plainAttrs_list PySem.F.slot_list_append PySem.F.type_list_append mt_append (pe_ix ix_list (pv 7) pe_int (fun _ _ => rfl)) (pa_cons (pv 8) pa_nil)))
  (pss_one (ps_ret (pe_and (pe_call G__law_same (hr.mono (by decide)) (by rfl) D__law_same.g D__law_same.F.kp D__law_same.b .nil pass0 (pa_cons (pe_meth (pv 6) L_File.cl D_File_add_piece.m G_File_add_piece (hr.mono (by decide)) D_File_add_piece.b .nil pass0 (pa_cons (pv 8) pa_nil)) (pa_cons (pv 9) pa_nil))) (pe_one (pe_call G__law_file_is (hr.mono (by decide)) (by rfl) D__law_file_is.g D__law_file_is.F.kp D__law_file_is.b .nil pass0 (pa_cons (pv 6) (pa_cons (pv 7) pa_nil))))))))))
  pss_nil)
  (pss_cons (ps_if (pt_cmpR op_eq (pv 5) pe_int (nomark _))
  (pss_cons (ps_asg pe_bl (pg_sub (pv 7) pe_int set_list))
  (pss_one (ps_ret (pe_and (pe_cmpR op_isN (pe_meth0 (pv 6) L_File.cl D_File_seal.m G_File_seal (hr.mono (by decide)) D_File_seal.b .nil pass0) pe_non (nomark _)) (pe_one (pe_call G__law_file_is (hr.mono (by decide)) (by rfl) D__law_file_is.g D__law_file_is.F.kp D__law_file_is.b .nil pass0 (pa_cons (pv 6) (pa_cons (pv 7) pa_nil))))))))
  pss_nil)
  (pss_cons (ps_if (pt_cmpR op_lt (pe_callB call_len_seq (by rfl) T.len PySem.boot_len (pa_cons (pv 0) pa_nil)) pe_int (nomark _))
  (pss_cons (ps_expr (pe_bm PySem.F.plainAttrs_list PySem.F.slot_list_append PySem.F.type_list_append mt_append (pv 0) (pa_cons (pe_meth0 (pv 6) L_File.cl D_File_sealed_copy.m G_File_sealed_copy (hr.mono (by decide)) D_File_sealed_copy.b .nil pass0) pa_nil)))
  (pss_cons (ps_expr (pe_bm PySem.F.plainAttrs_list PySem.F.slot_list_append PySem.F.type_list_append mt_append (pv 1) (pa_cons (pe_lst (pa_cons (pe_callTy call_list_of (by rfl) T.list (by decide +kernel) (pa_cons (pe_ix ix_list (pv 7) pe_int (fun _ _ => rfl)) pa_nil)) (pa_cons pe_bl pa_nil))) pa_nil)))
  (pss_one (ps_ret (pe_and (pe_call G__law_file_is (hr.mono (by decide)) (by rfl) D__law_file_is.g D__law_file_is.F.kp D__law_file_is.b .nil pass0 (pa_cons (pe_ix ix_list (pv 0) (pe_un un_neg pe_int) (fun _ _ => rfl)) (pa_cons (pe_ix ix_list (pv 1) (pe_un un_neg pe_int) (fun _ _ => rfl)) pa_nil))) (pe_one (pe_call G__law_file_is (hr.mono (by decide)) (by rfl) D__law_file_is.g D__law_file_is.F.kp D__law_file_is.b .nil pass0 (pa_cons (pv 6) (pa_cons (pv 7) pa_nil)))))))))
  pss_nil)
  (pss_one (ps_ret (pe_call G__law_file_is (hr.mono (by decide)) (by rfl) D__law_file_is.g D__law_file_is.F.kp D__law_file_is.b .nil pass0 (pa_cons (pv 6) (pa_cons (pv 7) pa_nil)))))))))))), ?_⟩
    have hfl : (fsL rs).length = rs.length := List.length_map _
    have hdl : (dsL rs).length = rs.length := List.length_map _
    have ha0 : 0 ≤ a % (rs.length : Int) := Int.emod_nonneg _ (by omega)
    have ha1 : a % (rs.length : Int) < rs.length := Int.emod_lt_of_pos _ (by omega)
    obtain ⟨k, hk⟩ : ∃ k : Nat, a % (rs.length : Int) = k := ⟨(a % (rs.length : Int)).toNat, by omega⟩
    have hkl : k < rs.length := by omega
    obtain ⟨r, hr'⟩ : ∃ r, rs[k]? = some r := ⟨_, List.getElem?_eq_getElem hkl⟩
    have hrm : r ∈ rs := List.mem_of_getElem? hr'
    have hrok := hrs r hrm
    refine qe_asg (x := .int (k : Int)) hA (ev_is (ev_op (ev_cb (ea_cons (ev_var rfl) ea_nil) rc_int) (ev_is (ev_cb (ea_cons (ev_var rfl) ea_nil) (rc_len (sq_of (at_get (a := fs) 1 rfl hA)))) (by rw [hfl])) (rv_I (by show (0 : Int) < rs.length; omega))) (by rw [hk])) fun H1 hA => ?_
    refine qe_asg (x := .int (a / 8 % 6)) hA (ev_op (ev_cb (ea_cons (ev_op (ev_var rfl) ev_c (rv_I ⟨by decide, by decide⟩)) ea_nil) rc_int) ev_c (rv_I (by decide))) fun H2 hA => ?_
    refine qe_asg (x := .ref r.f) hA (ev_op (ev_var rfl) (ev_var rfl) (rv_ixL (sq_of (at_get (a := fs) 1 rfl hA)) (atI_nat (j := k) (by unfold fsL; rw [List.getElem?_map, hr']; rfl)))) fun H3 hA => ?_
    refine qe_asg (x := .ref r.du) hA (ev_op (ev_var rfl) (ev_var rfl) (rv_ixL (sq_of (at_get (a := ds) 2 rfl hA)) (atI_nat (j := k) (by unfold dsL; rw [List.getElem?_map, hr']; rfl)))) fun H4 hA => ?_
    have hA := row_open hA hr'
    have fin : ∀ (r' : FR) (B1 : Hp) (H1 : Hp), r'.f = r.f → r'.du = r.du → FRok (n + 1) r' → Ex B B1 → At B1 (FlM K C r'.f r'.ps r'.b :: Pt r'.du (.lst [.ref r'.dl, .bl r'.b]) :: LstM K r'.dl r'.ps :: Each (rs.eraseIdx k) (FRm K C) :: Pt fs (.lst (fsL rs)) :: Pt ds (.lst (dsL rs)) :: Fr) H1 → Q (.bl true) H1 := by
      intro r' B1 H1 e1 e2 ok b1 hA
      have hA := row_close hkl hA
      refine q (rs.set k r') B1 H1 b1 (by rw [List.length_set]; exact h1) (by rw [List.length_set]; exact h8) (fun x hx => ?_) ?_
      · rcases mem_set' hx with h | rfl
        · exact (hrs x h).up
        · exact ok
      · have e3 : fsL (rs.set k r') = fsL rs := map_same hr' (by rw [e1])
        have e4 : dsL (rs.set k r') = dsL rs := map_same hr' (by rw [e2])
        rw [e3, e4]
        exact hA
    have gofis : ∀ (σ : L2.St) (r' : FR) (ta tb : TE) (E : XK) (B1 H1 : Hp) (F : List MP) (Q' : VK), (∀ d ∈ r'.ps, pcOk d) → r'.ps.length ≤ 1000 → At B1 (FlM K C r'.f r'.ps r'.b :: Pt r'.du (.lst [.ref r'.dl, .bl r'.b]) :: LstM K r'.dl r'.ps :: F) H1 → Ev ta σ H1 (.ref r'.f) → (∀ H2, Ex H1 H2 → Ev tb σ H2 (.ref r'.du)) → (∀ B2 H2, Ex B1 B2 → At B2 (FlM K C r'.f r'.ps r'.b :: Pt r'.du (.lst [.ref r'.dl, .bl r'.b]) :: LstM K r'.dl r'.ps :: F) H2 → Q' (.bl true) H2) → tCall (spFis K C) [] E (tCons ta (tCons tb tNil)) σ H1 Q' := by
      intro σ r' ta tb E B1 H1 F Q' h1 h2 hA ha hb k
      exact go_call (go_cons ha fun H2 e2 => go_cons (hb H2 e2) fun H3 e3 => go_nil ⟨r'.f, r'.du, r'.dl, r'.ps, r'.b, B1, F, rfl, at_ex hA (e2.trans e3), h1, h2, k⟩)
    have hps := hrok.1
    have hpl := hrok.2
    obtain ⟨gx, gp, hg⟩ := fl_ins hA
    refine qe_when (b := decide (a / 8 % 6 < 4)) hA (et_test (ev_op (ev_var rfl) ev_c rv_I0)) (fun _ H5 hA => ?_) (fun _ H5 hA => ?_)
    · refine q_do (go_call (go_cons (ev_op (ev_var rfl) ev_c (rv_I ⟨by decide, by decide⟩)) fun H6 e6 => go_cons (ev_var rfl) fun H7 e7 => go_nil ⟨_, c, B, _, rfl, at_ex hA (e6.trans e7), fun v d B1 H8 b1 hA hv hd => ?_⟩))
      obtain ⟨xs, hx, hA'⟩ := at_openL (K := K) 2 rfl hA
      have hdl := at_get (a := r.dl) 2 rfl hA'
      have hxl := dpa_len hx
      have hgl : Evl.given xs.length (fun _ => true) (fun i => V.int (pcLen (r.ps.getD i .none))) = (r.ps.map pcLen).map V.int := by
        rw [hxl]
        unfold Evl.given
        rw [List.filter_eq_self.mpr (fun _ _ => rfl)]
        refine List.ext_getElem (by simp) (fun i h1 h2 => ?_)
        have h1 : i < r.ps.length := by simpa using h1
        simp [h1]
      have hdu := at_get (a := r.du) 1 rfl hA
      refine q_do (fun_in (go_ev (ev_op (ev_var rfl) ev_c (rv_ixL (sq_of hdu) rfl)) fun H9 e9 => ?_))
      have hdl9 : H9 r.dl = some (.lst xs) := e9 _ _ hdl
      refine go_cons' ((hgl ▸ el_lcL (K := K) (tl := fun _ H k => k (.ref r.dl) H) (fun _ => true) (fun i => V.int (pcLen (r.ps.getD i .none))) (fun H8 e8 Q q => q H8 (Ex.refl H8)) (sq_of hdl9) (by omega) (fun _ => rfl) (fun i x H3 e3 _ => et_nil) (fun i x H3 e3 hxi _ => ?_)) H9 (Ex.refl H9) _ fun p H10 np e10 hp => go_nil ⟨p, r.ps.map pcLen, rfl, sq_of hp, ?_⟩)
      · obtain ⟨m, hm⟩ : ∃ d, r.ps[i]? = some d := by
          have hi : i < xs.length := (List.getElem?_eq_some_iff.mp hxi).1
          exact ⟨_, List.getElem?_eq_getElem (by omega)⟩
        obtain ⟨x', hx', hd'⟩ := dpa_at hx hm
        rw [hxi] at hx'
        cases hx'
        obtain ⟨i1, c1, r1, z, rfl, _, hz⟩ := hps m (List.mem_of_getElem? hm)
        rw [List.getD_eq_getElem?_getD, hm]
        obtain ⟨ta, x1, x2, x3, rfl, hs⟩ : ∃ ta x1 x2 x3, x = .ref ta ∧ SqT K B1 ta [x1, x2, x3, .str z] := by
          cases hd' with
          | tup hs hd => cases hd with
            | cons g1 r => cases r with
              | cons g2 r => cases r with
                | cons g3 r => cases r with
                  | cons g4 r => cases r; cases g4; exact ⟨_, _, _, _, rfl, hs⟩
        exact ev_cb (ea_cons (ev_op (ev_var rfl) ev_c (rv_ixT (ex_t ((at_base (at_ex hA e9)).trans e3) hs) (atI_nat (j := 3) rfl))) ea_nil) (rc_lenS (by omega))
      · have hA := at_ex hA (e9.trans e10)
        refine qm_appF (K := K) (ds := r.ps) (d := d) 2 rfl hA (fun H11 hA => ev_op (ev_var rfl) ev_c (rv_ixL (sq_of (at_get (a := r.du) 1 rfl hA)) rfl)) (wv_var rfl hv) (by omega) fun B2 H11 b2 hA => ?_
        obtain ⟨i1, c1, r1, z, rfl, ha4, hz⟩ := hd
        have hA : At B2 (FlM K C r.f r.ps r.b :: Pt r.du (.lst [.ref r.dl, .bl r.b]) :: LstM K r.dl (r.ps ++ [.tuple [.int i1, .int c1, .int r1, .str z]]) :: Each (rs.eraseIdx k) (FRm K C) :: Pt fs (.lst (fsL rs)) :: Pt ds (.lst (dsL rs)) :: Fr) H11 := hA
        have hok : FRok (n + 1) ⟨r.f, r.du, r.dl, r.ps ++ [.tuple [.int i1, .int c1, .int r1, .str z]], r.b⟩ := ⟨fun d hd => (List.mem_append.mp hd).elim (hps d) fun h => by rw [List.mem_singleton.mp h]; exact ⟨_, _, _, z, rfl, ha4, hz⟩, by show (r.ps ++ [_]).length ≤ n + 1; rw [List.length_append]; exact Nat.succ_le_succ hpl⟩
        obtain ⟨gx, gp, hg⟩ := fl_ins hA
        refine r_do (go_andV (go_call (go_cons' (go_meth (ev_var rfl) hg rfl fun H12 e12 => go_cons (ev_var rfl) fun H13 e13 => go_nil ⟨r.f, v, r.ps, .int i1, .int c1, .int r1, z, r.b, B2, _, rfl, at_ex hA (e12.trans e13), dp_mono b2 _ _ hv, by omega, by omega, fun B3 H14 b3 hA => go_cons (ev_var rfl) fun H15 e15 => go_nil ⟨.int (flN r.ps), .int (flN r.ps), .int (flN r.ps), rfl, .int _, .int _, .int _, fun H16 e16 => ⟨true, rfl, ?_⟩⟩⟩))))
        exact gofis _ ⟨r.f, r.du, r.dl, r.ps ++ [.tuple [.int i1, .int c1, .int r1, .str z]], r.b⟩ _ _ _ B3 H16 _ _ hok.1 (by have := hok.2; omega) (at_ex hA (e15.trans e16)) (ev_var rfl) (fun _ _ => ev_var rfl) fun B4 H17 b4 hA => fin ⟨r.f, r.du, r.dl, r.ps ++ [.tuple [.int i1, .int c1, .int r1, .str z]], r.b⟩ B4 H17 rfl rfl hok (((b1.trans b2).trans b3).trans b4) hA
    · refine qe_when (b := decide (a / 8 % 6 = 4)) hA (et_test (ev_op (ev_var rfl) ev_c rv_eqI)) (fun _ H6 hA => ?_) (fun _ H6 hA => ?_)
      · refine qe_set (i := 1) (m := 1) 1 rfl hA ev_c (fun _ => ev_var rfl) (fun _ => ev_c) rfl fun H7 hA => ?_
        have hA : At B (FlM K C r.f r.ps r.b :: Pt r.du (.lst [.ref r.dl, .bl true]) :: LstM K r.dl r.ps :: Each (rs.eraseIdx k) (FRm K C) :: Pt fs (.lst (fsL rs)) :: Pt ds (.lst (dsL rs)) :: Fr) H7 := hA
        obtain ⟨gx, gp, hg⟩ := fl_ins hA
        refine r_do (go_andV (go_op (go_meth (ev_var rfl) hg rfl fun H8 e8 => go_nil ⟨r.f, r.ps, r.b, B, _, rfl, at_ex hA e8, fun H9 hA => go_ev ev_c fun H10 e10 => ⟨rfl, true, by rw [decide_eq_true rfl], ?_⟩⟩)))
        exact gofis _ ⟨r.f, r.du, r.dl, r.ps, true⟩ _ _ _ B H10 _ _ hps (by show r.ps.length ≤ 1000; omega) (at_ex hA e10) (ev_var rfl) (fun _ _ => ev_var rfl) fun B4 H17 b4 hA => fin ⟨r.f, r.du, r.dl, r.ps, true⟩ B4 H17 rfl rfl ⟨hps, by show r.ps.length ≤ n + 1; omega⟩ b4 hA
      · refine qe_when (b := decide ((rs.length : Int) < 8)) hA (et_test (ev_op (ev_is (ev_cb (ea_cons (ev_var rfl) ea_nil) (rc_len (sq_of (at_get (a := fs) 4 rfl hA)))) (by rw [hfl])) ev_c rv_I0)) (fun hb H7 hA => ?_) (fun _ H7 hA => ?_)
        · have h8' : rs.length < 8 := by have := of_decide_eq_true hb; omega
          obtain ⟨gx, gp, hg⟩ := fl_ins hA
          refine q_appG (at_get (a := fs) 4 rfl hA) (ev_var rfl) fun H8 e8 => go_meth (ev_var rfl) (e8 _ _ hg) rfl fun H9 e9 => go_nil ⟨r.f, r.ps, r.b, B, _, rfl, at_ex hA (e8.trans e9), fun g H10 hA => app_now (at_get (a := fs) 5 rfl hA) (by omega) ?_⟩
          have hA := at_upd (a := fs) (u := .lst (fsL rs ++ [.ref g])) 5 rfl hA
          obtain ⟨xs, hx, hA⟩ := at_openL (K := K) 3 rfl hA
          have hA : At B (FlM K C g r.ps true :: FlM K C r.f r.ps r.b :: Pt r.du (.lst [.ref r.dl, .bl r.b]) :: Pt r.dl (.lst xs) :: Each (rs.eraseIdx k) (FRm K C) :: Pt fs (.lst (fsL rs ++ [.ref g])) :: Pt ds (.lst (dsL rs)) :: Fr) _ := hA
          refine q_appG (at_get (a := ds) 6 rfl hA) (ev_var rfl) fun H11 e11 => go_lst (go_cons' (go_cbk (go_cons (ev_op (ev_var rfl) ev_c (rv_ixL (sq_of (at_get (a := r.du) 2 rfl (at_ex hA e11))) rfl)) fun H12 e12 => go_nil ⟨r.dl, xs, rfl, .inl (sq_of (at_get (a := r.dl) 3 rfl (at_ex hA (e11.trans e12)))), fun l nl => go_cons ev_c fun H13 e13 => go_nil ⟨by show 2 ≤ sizeLine; decide, fun p np => ?_⟩⟩)))
          have hA := at_new (at_ex hA (e11.trans e12)) nl (Ex.new nl) (upd_same (o := .lst xs))
          have hA := at_new (at_ex hA e13) np (Ex.new np) (upd_same (o := .lst [.ref l, .bl true]))
          refine app_now (at_get (a := ds) 8 rfl hA) (by omega) ?_
          have hA := at_upd (a := ds) (u := .lst (dsL rs ++ [.ref p])) 8 rfl hA
          have hA := at_closeL (K := K) 1 rfl hx hA
          have hA := at_closeL (K := K) 5 rfl hx hA
          have hA : At B (Pt p (.lst [.ref l, .bl true]) :: LstM K l r.ps :: FlM K C g r.ps true :: FlM K C r.f r.ps r.b :: Pt r.du (.lst [.ref r.dl, .bl r.b]) :: LstM K r.dl r.ps :: Each (rs.eraseIdx k) (FRm K C) :: Pt fs (.lst (fsL rs ++ [.ref g])) :: Pt ds (.lst (dsL rs ++ [.ref p])) :: Fr) _ := hA
          have hA := at_ix 3 [2, 0, 1] hA
          refine r_do (go_andV (gofis _ ⟨g, p, l, r.ps, true⟩ _ _ _ B _ _ _ hps (by show r.ps.length ≤ 1000; omega) hA (ev_op (ev_var rfl) (ev_un ev_c ru_neg) (rv_ixL (sq_of (at_get (a := fs) 7 rfl hA)) (atI_last _ _))) (fun H2 e2 => ev_op (ev_var rfl) (ev_un ev_c ru_neg) (rv_ixL (sq_of (at_get (a := ds) 8 rfl (at_ex hA e2))) (atI_last _ _))) fun B4 H17 b4 hA => ⟨true, rfl, ?_⟩))
          have hA := at_ix 6 [3, 4, 5, 0, 1, 2] hA
          refine gofis _ r _ _ _ B4 H17 _ _ hps (by omega) hA (ev_var rfl) (fun _ _ => ev_var rfl) fun B5 H18 b5 hA => ?_
          have hA := row_close hkl (at_ix 7 [0, 1, 2, 6, 3, 4, 5] hA)
          rw [List.set_getElem?_self' hr'] at hA
          have hA := row_app (r := ⟨g, p, l, r.ps, true⟩) (at_ix 4 [1, 2, 3, 0] hA)
          refine q (rs ++ [⟨g, p, l, r.ps, true⟩]) B5 H18 (b4.trans b5) (by rw [List.length_append]; omega) (by rw [List.length_append]; show rs.length + 1 ≤ 8; omega) (fun x hx => ?_) ?_
          · rcases List.mem_append.mp hx with h | h
            · exact (hrs x h).up
            · rw [List.mem_singleton.mp h]
              exact ⟨hps, by show r.ps.length ≤ n + 1; omega⟩
          · have e3 : fsL (rs ++ [⟨g, p, l, r.ps, true⟩]) = fsL rs ++ [.ref g] := List.map_append
            have e4 : dsL (rs ++ [⟨g, p, l, r.ps, true⟩]) = dsL rs ++ [.ref p] := List.map_append
            rw [e3, e4]
            exact hA
        · exact r_do (gofis _ r _ _ _ B H7 _ _ hps (by omega) hA (ev_var rfl) (fun _ _ => ev_var rfl) fun B5 H18 b5 hA => fin r B5 H18 rfl rfl hrok.up b5 hA)
theorem go_nt {σ : L2.St} {H : Hp} {t : TT} {Q : Bool → Hp → Prop} (h : t σ H fun b H1 => Q (!b) H1) : tNot t σ H Q := h
theorem go_tB {σ : L2.St} {H : Hp} {te : TE} {Q : Bool → Hp → Prop} (h : te σ H fun v H1 => ∃ b, v = .bl b ∧ Q b H1) : tB te σ H Q := h
theorem go_tst {σ : L2.St} {H : Hp} {te : TE} {Q : Bool → Hp → Prop} (h : te σ H fun v H1 => ∃ b, v = .bl b ∧ Q b H1) : tTest te σ H Q := h
theorem q_whenF {σ : L2.St} {H : Hp} {D : Ends} {tz tu : TS} {t : TT} {C : Hp → Prop} (h : ∀ Q : Bool → Hp → Prop, (∀ H1, C H1 → Q false H1) → t σ H Q) (k : ∀ H1, C H1 → tz D σ H1) : tSeq (tIfS t tu tNext) tz D σ H := h _ fun H1 hc => k H1 hc
theorem s_whenF {σ : L2.St} {H : Hp} {D : Ends} {tu : TS} {t : TT} {C : Hp → Prop} (h : ∀ Q : Bool → Hp → Prop, (∀ H1, C H1 → Q false H1) → t σ H Q) (k : ∀ H1, C H1 → D.nx σ H1) : tIfS t tu tNext D σ H := h _ fun H1 hc => k H1 hc
theorem q_forRB {σ : L2.St} {H : Hp} {D : Ends} {tz tu : TS} {ta : L2.TA} {j : Nat} {n : Int} (h : EvA ta σ H [.int n]) (hn : 0 ≤ n ∧ n ≤ 100000) (Pv : Nat → L2.St → Hp → Prop) (Pe : L2.St → Hp → Prop) (h0 : ∀ H1, Ex H H1 → Pv 0 σ H1)
    (hs : ∀ bk : L2.St → Hp → Prop, (∀ σ' H', Pe σ' H' → bk σ' H') → ∀ (i : Nat) σ' H', (i : Int) < n → Pv i σ' H' → tu { D with nx := Pv (i + 1), ct := Pv (i + 1), bk := bk } (σ'.set j (some (.int (i : Int)))) H') (hd : ∀ σ' H', Pv n.toNat σ' H' → Pe σ' H') (hz : ∀ σ' H', Pe σ' H' → tz D σ' H') : tSeq (tFor (iRng1 ta) (gName j) tu) tz D σ H :=
  q_forR1 h hn Pv h0 (hs (tz D) hz) (fun σ' H' p => hz σ' H' (hd σ' H' p))
theorem ev_ref2 {σ : L2.St} {B H : Hp} {l : List MP} {p a0 a1 : Addr} {i : Nat} {k : Nat} {tb : TE} {a : Addr} (n : Nat) (hk : l[n]? = some (Pt p (.lst [.ref a0, .ref a1]))) (hA : At B l H) (hs : σ[i]? = some (some (.ref p))) (hb : Ev tb σ H (.int (k : Int))) (h : [V.ref a0, .ref a1][k]? = some (.ref a)) : Ev (tOp (rIxL K) (tVar i) tb) σ H (.ref a) := ev_op (ev_var hs) hb (rv_ixL (sq_of (at_get n hk hA)) (atI_nat h))
theorem ev_dlimit {σ : L2.St} {B H : Hp} {l : List MP} {C g : Addr} {kv : List (Str × V)} {lim : V} {ta : TE} {E : XK} (hA : At B (DrM K C g kv lim :: l) H) (h : Ev ta σ H (.ref g)) : Ev (tProp C (spDrL K C) [] E ta) σ H lim := fun H1 e Q q => h H1 e _ fun H2 e2 => by
  have hA := at_ex hA (e.trans e2)
  obtain ⟨dx, p, hg⟩ := dr_ins hA
  exact ⟨g, dx, _, rfl, hg, g, kv, lim, B, l, rfl, hA, fun H3 e3 => q H3 (e2.trans e3)⟩
def Iv (K : PySem.W.Frag) (CF CD fs ds dd el d0 e0 d1 e1 : Addr) (rs : List FR) (l0 l1 : List (Str × V)) (m0 m1 : V) : List MP := [DrM K CD d0 l0 m0, Pt e0 (.dK (kvT l0)), DrM K CD d1 l1 m1, Pt e1 (.dK (kvT l1)), Each rs (FRm K CF), Pt fs (.lst (fsL rs)), Pt ds (.lst (dsL rs)), Pt dd (.lst [.ref d0, .ref d1]), Pt el (.lst [.ref e0, .ref e1])]
def IvOk (n : Nat) (rs : List FR) (l0 l1 : List (Str × V)) : Prop := 1 ≤ rs.length ∧ rs.length ≤ 8 ∧ (∀ r ∈ rs, FRok n r) ∧ IntV l0 ∧ IntV l1 ∧ l0.length ≤ n ∧ l1.length ≤ n
theorem IvOk.up {n m : Nat} {rs : List FR} {l0 l1 : List (Str × V)} (h : IvOk n rs l0 l1) (hm : n ≤ m) : IvOk m rs l0 l1 := ⟨h.1, h.2.1, fun r hr => ⟨(h.2.2.1 r hr).1, Nat.le_trans (h.2.2.1 r hr).2 hm⟩, h.2.2.2.1, h.2.2.2.2.1, Nat.le_trans h.2.2.2.2.2.1 hm, Nat.le_trans h.2.2.2.2.2.2 hm⟩
theorem ok_lawG {f f1 f2 f3 f4 f5 f6 f7 f8 m1 m2 m3 m4 CF CD : Addr} {fd fd1 fd2 fd3 fd4 fd5 fd6 fd7 fd8 md1 md2 md3 md4 : FuncData} (F : Fun K "law" "law" s_law f fd)
    (D__law_stream : Df K mg "_law_stream" s__law_stream ["script", "many"] f1 fd1) (G__law_stream : FnOk P w K mg base CX0 1 f1 fd1 ["script", "many"] (spStreamW K)) (D__law_draw : Df K mg "_law_draw" s__law_draw ["draws", "k"] f2 fd2) (G__law_draw : FnOk P w K mg base CX0 1 f2 fd2 ["draws", "k"] (spDraw K))
    (D__law_names : Df K mg "_law_names" s__law_names ["draws", "at"] f3 fd3) (G__law_names : FnOk P w K mg base CX0 3 f3 fd3 ["draws", "at"] (spNames K)) (D__law_same : Df K mg "_law_same" s__law_same ["actual", "due"] f4 fd4) (G__law_same : FnOk P w K mg base CX0 4 f4 fd4 ["actual", "due"] (spSm K 3))
    (D__law_file_step : Df K mg "_law_file_step" s__law_file_step ["files", "dues", "draw", "second"] f5 fd5) (G__law_file_step : FnOk P w K mg base CX0 6 f5 fd5 ["files", "dues", "draw", "second"] (spLFs K CF)) (D__law_directory_step : Df K mg "_law_directory_step" s__law_directory_step ["directory", "entries", "name", "draw"] f6 fd6) (G__law_directory_step : FnOk P w K mg base CX0 5 f6 fd6 ["directory", "entries", "name", "draw"] (spLDs K CD))
    (D__law_file_is : Df K mg "_law_file_is" s__law_file_is ["actual", "due"] f7 fd7) (G__law_file_is : FnOk P w K mg base CX0 5 f7 fd7 ["actual", "due"] (spFis K CF)) (D__law_directory_is : Df K mg "_law_directory_is" s__law_directory_is ["directory", "entries", "names"] f8 fd8) (G__law_directory_is : FnOk P w K mg base CX0 5 f8 fd8 ["directory", "entries", "names"] (spLDi K CD))
    (D_File___init__ : Dm K CF "__init__" "File.__init__" s_File___init__ ["self"] m1 md1) (G_File___init__ : FnOk P w K mg base CX0 1 m1 md1 ["self"] (spFlI K CF)) (D_Directory___init__ : Dm K CD "__init__" "Directory.__init__" s_Directory___init__ ["self"] m2 md2) (G_Directory___init__ : FnOk P w K mg base CX0 1 m2 md2 ["self"] (spDrI K CD))
    (D_Directory_limit : Pr K CD "limit" "Directory.limit" s_Directory_limit m3 md3) (G_Directory_limit : FnOk P w K mg base CX0 1 m3 md3 ["self"] (spDrL K CD)) (D_Directory_set_limit : Dm K CD "set_limit" "Directory.set_limit" s_Directory_set_limit ["self", "most"] m4 md4) (G_Directory_set_limit : FnOk P w K mg base CX0 1 m4 md4 ["self", "most"] (spDrS K CD))
    (L_File : Kl K mg "File" CF) (L_Directory : Kl K mg "Directory" CD) (T : Glo mg) : FnOk P w K mg base CX0 20 f fd ["script"] (spLaw K) := by
  refine F.ok sc_law (fun vs H Q E h => ?_) (fun cdv A outer s H vs Q E hr h => ?_)
  · obtain ⟨a, ns, rfl, _⟩ := h
    rfl
  · obtain ⟨a, ns, rfl, hS, hn, q⟩ := h
    refine ⟨_, (pss_cons (ps_set (i := 1) sc_law.nd rfl (.inl rfl) (pe_call G__law_stream (hr.mono (by decide)) (by rfl) D__law_stream.g D__law_stream.F.kp D__law_stream.b .nil pass0 (pa_cons (pv 0) (pa_cons pe_int pa_nil))))
  (pss_cons (ps_set (i := 2) sc_law.nd rfl (.inl rfl) (pe_call G__law_names (hr.mono (by decide)) (by rfl) D__law_names.g D__law_names.F.kp D__law_names.b .nil pass0 (pa_cons (pv 1) (pa_cons pe_int pa_nil))))
  (pss_cons (ps_set (i := 3) sc_law.nd rfl (.inl rfl) (pe_lst (pa_cons (pe_make0 (L_File.make D_File___init__) G_File___init__ (hr.mono (by decide)) (by rfl) L_File.g D_File___init__.b .nil pass0) (pa_cons (pe_make0 (L_File.make D_File___init__) G_File___init__ (hr.mono (by decide)) (by rfl) L_File.g D_File___init__.b .nil pass0) pa_nil))))
  (pss_cons (ps_set (i := 4) sc_law.nd rfl (.inl rfl) (pe_lst (pa_cons (pe_lst (pa_cons (pe_lst pa_nil) (pa_cons pe_bl pa_nil))) (pa_cons (pe_lst (pa_cons (pe_lst pa_nil) (pa_cons pe_bl pa_nil))) pa_nil))))
  (pss_cons (ps_set (i := 5) sc_law.nd rfl (.inl rfl) (pe_lst (pa_cons (pe_make0 (L_Directory.make D_Directory___init__) G_Directory___init__ (hr.mono (by decide)) (by rfl) L_Directory.g D_Directory___init__.b .nil pass0) (pa_cons (pe_make0 (L_Directory.make D_Directory___init__) G_Directory___init__ (hr.mono (by decide)) (by rfl) L_Directory.g D_Directory___init__.b .nil pass0) pa_nil))))
  (pss_cons (ps_set (i := 6) sc_law.nd rfl (.inl rfl) (pe_lst (pa_cons pe_dnewK (pa_cons pe_dnewK pa_nil))))
  (pss_cons (ps_if (PW.pt (pw_or (pt_cmpR op_notN (pe_pr (pe_ix ix_list (pv 5) pe_int (fun _ _ => rfl)) L_Directory.cl D_Directory_limit G_Directory_limit (hr.mono (by decide)) pass0 rfl) pe_non (nomark _)) (pw_or1 (pt_cmpR op_notN (pe_pr (pe_ix ix_list (pv 5) pe_int (fun _ _ => rfl)) L_Directory.cl D_Directory_limit G_Directory_limit (hr.mono (by decide)) pass0 rfl) pe_non (nomark _)))))
  (pss_one (ps_ret pe_bl))
  pss_nil)
  (pss_cons (ps_set (i := 7) sc_law.nd rfl (.inl rfl) (pe_op op_mod (pe_call G__law_draw (hr.mono (by decide)) (by rfl) D__law_draw.g D__law_draw.F.kp D__law_draw.b .nil pass0 (pa_cons (pv 1) (pa_cons pe_int pa_nil))) (pe_op op_add (pe_op op_pow pe_int pe_int) pe_int)))
  (pss_cons (ps_if (pt_cmpR op_notN (pe_meth (pe_ix ix_list (pv 5) pe_int (fun _ _ => rfl)) L_Directory.cl D_Directory_set_limit.m G_Directory_set_limit (hr.mono (by decide)) D_Directory_set_limit.b .nil pass0 (pa_cons (pv 7) pa_nil)) pe_non (nomark _))
  (pss_one (ps_ret pe_bl))
  pss_nil)
  (pss_cons (ps_for PassesOwn.never rfl (pi_range1 (by rfl) T.range (pa_cons pe_int pa_nil)) (pg_name (i := 8) sc_law.nd rfl (.inl rfl))
  (pss_cons (ps_if (pt_cmpR op_ge (pe_op op_add pe_int (pe_op op_mul pe_int (pv 8))) (pe_callB call_len_seq (by rfl) T.len PySem.boot_len (pa_cons (pv 1) pa_nil)) (nomark _))
  (pss_one ps_break)
  pss_nil)
  (pss_cons (ps_set (i := 9) sc_law.nd rfl (.inl rfl) (pe_call G__law_draw (hr.mono (by decide)) (by rfl) D__law_draw.g D__law_draw.F.kp D__law_draw.b .nil pass0 (pa_cons (pv 1) (pa_cons (pe_op op_add pe_int (pe_op op_mul pe_int (pv 8))) pa_nil))))
  (pss_cons (ps_set (i := 10) sc_law.nd rfl (.inl rfl) (pe_call G__law_draw (hr.mono (by decide)) (by rfl) D__law_draw.g D__law_draw.F.kp D__law_draw.b .nil pass0 (pa_cons (pv 1) (pa_cons (pe_op op_add pe_int (pe_op op_mul pe_int (pv 8))) pa_nil))))
  (pss_one (ps_if (pt_cmpR op_eq (pe_op op_mod (pe_callTy call_int1 (by rfl) T.int (by decide +kernel) (pa_cons (pv 9) pa_nil)) pe_int) pe_int (nomark _))
  (pss_one (ps_if (pt_not (pt_val (pe_call G__law_file_step (hr.mono (by decide)) (by rfl) D__law_file_step.g D__law_file_step.F.kp D__law_file_step.b .nil pass0 (pa_cons (pv 3) (pa_cons (pv 4) (pa_cons (pe_op op_fdiv (pv 9) pe_int) (pa_cons (pv 10) pa_nil)))))))
  (pss_one (ps_ret pe_bl))
  pss_nil))
  (pss_cons (ps_set (i := 11) sc_law.nd rfl (.inl rfl) (pe_op op_mod (pe_callTy call_int1 (by rfl) T.int (by decide +kernel) (pa_cons (pe_op op_fdiv (pv 10) pe_int) pa_nil)) pe_int))
  (pss_one (ps_if (pt_not (pt_val (pe_call G__law_directory_step (hr.mono (by decide)) (by rfl) D__law_directory_step.g D__law_directory_step.F.kp D__law_directory_step.b .nil pass0 (pa_cons (pe_ix ix_list (pv 5) (pv 11) (fun _ _ => rfl)) (pa_cons (pe_ix ix_list (pv 6) (pv 11) (fun _ _ => rfl)) (pa_cons (pe_ix ix_list (pv 2) (pe_op op_mod (pe_callTy call_int1 (by rfl) T.int (by decide +kernel) (pa_cons (pv 10) pa_nil)) pe_int) (fun _ _ => rfl)) (pa_cons (pe_op op_fdiv (pv 9) pe_int) pa_nil)))))))
  (pss_one (ps_ret pe_bl))
  pss_nil)))))))))
  (pss_cons (ps_for PassesOwn.never rfl (pi_range1 (by rfl) T.range (pa_cons (pe_callB call_len_seq (by rfl) T.len PySem.boot_len (pa_cons (pv 3) pa_nil)) pa_nil)) (pg_name (i := 8) sc_law.nd rfl (.inl rfl))
  (pss_one (ps_if (pt_not (pt_val (pe_call G__law_file_is (hr.mono (by decide)) (by rfl) D__law_file_is.g D__law_file_is.F.kp D__law_file_is.b .nil pass0 (pa_cons (pe_ix ix_list (pv 3) (pv 8) (fun _ _ => rfl)) (pa_cons (pe_ix ix_list (pv 4) (pv 8) (fun _ _ => rfl)) pa_nil)))))
  (pss_one (ps_ret pe_bl))
  pss_nil)))
  (pss_cons (ps_for PassesOwn.never rfl (pi_range1 (by rfl) T.range (pa_cons pe_int pa_nil)) (pg_name (i := 8) sc_law.nd rfl (.inl rfl))
  (pss_one (ps_if (pt_not (pt_val (pe_call G__law_directory_is (hr.mono (by decide)) (by rfl) D__law_directory_is.g D__law_directory_is.F.kp D__law_directory_is.b .nil pass0 (pa_cons (pe_ix ix_list (pv 5) (pv 8) (fun _ _ => rfl)) (pa_cons (pe_ix ix_list (pv 6) (pv 8) (fun _ _ => rfl)) (pa_cons (pv 2) pa_nil))))))
  (pss_one (ps_ret pe_bl))
  pss_nil)))
  (pss_one (ps_ret (pe_and (pe_call G__law_same (hr.mono (by decide)) (by rfl) D__law_same.g D__law_same.F.kp D__law_same.b .nil pass0 (pa_cons (pe_pr (pe_ix ix_list (pv 5) pe_int (fun _ _ => rfl)) L_Directory.cl D_Directory_limit G_Directory_limit (hr.mono (by decide)) pass0 rfl) (pa_cons (pv 7) pa_nil))) (pe_one (pe_cmpR op_isN (pe_pr (pe_ix ix_list (pv 5) pe_int (fun _ _ => rfl)) L_Directory.cl D_Directory_limit G_Directory_limit (hr.mono (by decide)) pass0 rfl) pe_non (nomark _)))))))))))))))))), ?_⟩
    refine q_call (ea_cons (ev_var rfl) (ea_cons ev_c ea_nil)) fun H1 e1 => ⟨a, ns, 88, rfl, ex_l e1 hS, hn, by decide, fun ds hD hl b H2 nb e2 hb => ?_⟩
    obtain ⟨n6, nn⟩ := namesS_ok ds 1
    refine q_call (ea_cons (ev_var rfl) (ea_cons ev_c ea_nil)) fun H3 e3 => ⟨b, ds, 1, rfl, sq_of (e3 _ _ hb), fun nl H4 nn4 e4 hnl => ?_⟩
    have hb4 := (e3.trans e4) _ _ hb
    generalize namesS ds 1 = nms at *
    have hA := at_start (H := H4)
    refine q_do (go_lst (go_cons' (make_at hA ea_nil fun f0 x0 H5 hA => ⟨f0, x0, _, _, rfl, hA, fun H6 hA => ⟨rfl, go_cons' (make_at hA ea_nil fun f1 x1 H7 hA => ⟨f1, x1, _, _, rfl, hA, fun H8 hA => ⟨rfl, go_nil ⟨by show 2 ≤ sizeLine; decide, fun pf hpf => ?_⟩⟩⟩)⟩⟩)))
    have hA := at_new (o := .lst [.ref f0, .ref f1]) hA hpf (Ex.new hpf) upd_same
    refine q_do (go_lst (go_cons' (go_lst (go_cons' (go_lst (go_nil ⟨by show 0 ≤ sizeLine; decide, fun q0 hq0 => go_cons ev_c fun H9 e9 => go_nil ⟨by show 2 ≤ sizeLine; decide, fun u0 hu0 => go_cons' (go_lst (go_cons' (go_lst (go_nil ⟨by show 0 ≤ sizeLine; decide, fun q1 hq1 => go_cons ev_c fun H10 e10 => go_nil ⟨by show 2 ≤ sizeLine; decide, fun u1 hu1 => go_nil ⟨by show 2 ≤ sizeLine; decide, fun pd hpd => ?_⟩⟩⟩))))⟩⟩))))))
    have hA := lst_new (K := K) (xs := []) (ds := []) hA hq0 (Ex.new hq0) upd_same .nil
    have hA := at_new (o := .lst [.ref q0, .bl false]) (at_ex hA e9) hu0 (Ex.new hu0) upd_same
    have hA := lst_new (K := K) (xs := []) (ds := []) hA hq1 (Ex.new hq1) upd_same .nil
    have hA := at_new (o := .lst [.ref q1, .bl false]) (at_ex hA e10) hu1 (Ex.new hu1) upd_same
    have hA := at_new (o := .lst [.ref u0, .ref u1]) hA hpd (Ex.new hpd) upd_same
    refine q_do (go_lst (go_cons' (make_at hA ea_nil fun d0 x0 H11 hA => ⟨d0, x0, _, _, rfl, hA, fun H12 hA => ⟨rfl, go_cons' (make_at hA ea_nil fun d1 x1 H13 hA => ⟨d1, x1, _, _, rfl, hA, fun H14 hA => ⟨rfl, go_nil ⟨by show 2 ≤ sizeLine; decide, fun pdd hpdd => ?_⟩⟩⟩)⟩⟩)))
    have hA := at_new (o := .lst [.ref d0, .ref d1]) hA hpdd (Ex.new hpdd) upd_same
    refine q_do (go_lst (go_cons' (fun e0 he0 => go_cons' (fun e1 he1 => go_nil ⟨by show 2 ≤ sizeLine; decide, fun pe hpe => ?_⟩))))
    have hA := at_new (o := .dK (kvT [])) hA he0 (Ex.new he0) upd_same
    have hA := at_new (o := .dK (kvT [])) hA he1 (Ex.new he1) upd_same
    have hA := at_new (o := .lst [.ref e0, .ref e1]) hA hpe (Ex.new hpe) upd_same
    have hA := each_nil (f := FRm K CF) (at_ix 14 [13, 9, 10, 12, 7, 8, 5, 2, 4, 1, 11, 6, 3, 0] hA)
    have hA := row_app (r := ⟨f0, u0, q0, [], false⟩) (at_ix 4 [1, 2, 3, 0] hA)
    have hA := row_app (r := ⟨f1, u1, q1, [], false⟩) (at_ix 4 [1, 2, 3, 0] hA)
    have hA : At H4 (Iv K CF CD pf pd pdd pe d0 e0 d1 e1 [⟨f0, u0, q0, [], false⟩, ⟨f1, u1, q1, [], false⟩] [] [] .non .non) _ := at_ix 5 [1, 2, 3, 4, 0] hA
    refine q_when (b := false) (et_is (et_or (a := false) (b := false) (et_is (et_test (ev_op (x := .non) (y := .non) (ev_dlimit (K := K) hA (ev_ref2 (K := K) (k := 0) 7 rfl hA rfl ev_c rfl)) ev_c rv_notN)) rfl) (fun _ => et_is (et_test (ev_op (x := .non) (y := .non) (ev_dlimit (K := K) (at_ix (hn := (by show 3 ≤ 9; decide)) 3 [2, 0, 1] hA) (ev_ref2 (K := K) (k := 1) 7 rfl hA rfl ev_c rfl)) ev_c rv_notN)) rfl)) rfl) (fun hb => nomatch hb) fun _ H15 e15 => ?_
    have hA := at_ex hA e15
    have hbB : ∀ {B' H' : Hp} {l : List MP}, Ex H4 B' → At B' l H' → H' b = some (.lst (ds.map V.int)) := fun b1 hA => at_base hA _ _ (b1 _ _ hb4)
    have p18 : ∀ {σ : L2.St} {H : Hp}, Ev (tOp (rI CPow fun i j => .int (i ^ j.toNat)) (tC (.int 10)) (tC (.int 18))) σ H (.int 1000000000000000000) := by
      intro σ H
      refine' ev_is ?c ?d
      case c => walk_at "ev"
      case d => rfl
    refine qe_asg (x := .int (drw ds 0 % 1000000000000000001)) hA (ev_op (ev_call (ea_cons (ev_var rfl) (ea_cons ev_c ea_nil)) (spDraw_v (sq_of (hbB (Ex.refl _) hA)) rfl)) (ev_is (ev_op p18 ev_c rv_I0) (show _ = V.int 1000000000000000001 from rfl)) (rv_I (by decide))) fun H16 hA => ?_
    generalize drw ds 0 % 1000000000000000001 = L at *
    refine q_whenF (C := fun H1 => At H4 (Iv K CF CD pf pd pdd pe d0 e0 d1 e1 [⟨f0, u0, q0, [], false⟩, ⟨f1, u1, q1, [], false⟩] [] [] (.int L) .non) H1) (fun Q' hQ => ?_) (fun H17 hA => ?_)
    · obtain ⟨dx, e, hd⟩ := dr_ins hA
      exact go_tst (go_op (go_meth (ev_ref2 (K := K) (k := 0) 7 rfl hA rfl ev_c rfl) hd rfl fun H1 e1 => go_cons (ev_var rfl) fun H2 e2 => go_nil ⟨d0, _, [], .non, H4, _, rfl, at_ex hA (e1.trans e2), fun H3 hA => go_ev ev_c fun H5 e5 => ⟨rfl, false, by rw [decide_eq_true rfl]; rfl, hQ _ (at_ex hA e5)⟩⟩))
    refine q_forRB (n := 40) (ea_cons ev_c ea_nil) (by omega) (fun i σ' H' => ∃ (rs : List FR) (l0 l1 : List (Str × V)) (B' : Hp) (y8 y9 y10 y11 : Option V), σ' = [some (.ref a), some (.ref b), some (.ref nl), some (.ref pf), some (.ref pd), some (.ref pdd), some (.ref pe), some (.int L), y8, y9, y10, y11] ∧ Ex H4 B' ∧ At B' (Iv K CF CD pf pd pdd pe d0 e0 d1 e1 rs l0 l1 (.int L) .non) H' ∧ IvOk i rs l0 l1)
      (fun σ' H' => ∃ (rs : List FR) (l0 l1 : List (Str × V)) (B' : Hp) (y8 y9 y10 y11 : Option V), σ' = [some (.ref a), some (.ref b), some (.ref nl), some (.ref pf), some (.ref pd), some (.ref pdd), some (.ref pe), some (.int L), y8, y9, y10, y11] ∧ Ex H4 B' ∧ At B' (Iv K CF CD pf pd pdd pe d0 e0 d1 e1 rs l0 l1 (.int L) .non) H' ∧ IvOk 40 rs l0 l1)
      (fun H18 e18 => ⟨_, [], [], H4, _, _, _, _, rfl, Ex.refl H4, at_ex hA e18, by show 1 ≤ 2; decide, by show 2 ≤ 8; decide, fun r hr => ?_, (fun _ h => nomatch h), (fun _ h => nomatch h), Nat.le_refl _, Nat.le_refl _⟩) (fun bk hbk i σ' H' hi pp => ?_) (fun σ' H' pp => pp) (fun σ' H' pp => ?_)
    · simp only [List.mem_cons, List.not_mem_nil, or_false] at hr
      rcases hr with rfl | rfl <;> exact ⟨(fun _ h => nomatch h), Nat.le_refl _⟩
    · obtain ⟨rs, l0, l1, B1, y8, y9, y10, y11, rfl, b1, hA, ok⟩ := pp
      have hb := hbB b1 hA
      refine qe_when (b := decide ((8 : Int) + 2 * (i : Int) ≥ (ds.length : Int))) hA (et_test (ev_op (ev_op ev_c (ev_op ev_c (ev_var rfl) (rv_I (show CMul 2 (i : Int) from .inl (by decide)))) rv_I0) (ev_is (ev_cb (ea_cons (ev_var rfl) ea_nil) (rc_len (sq_of hb))) (by rw [List.length_map])) rv_I0)) (fun _ H18 hA => hbk _ _ ⟨rs, l0, l1, B1, _, _, _, _, rfl, b1, hA, ok.up (by omega)⟩) (fun _ H18 hA => ?_)
      refine qe_asg (x := .int (drw ds (8 + 2 * i))) hA (ev_call (ea_cons (ev_var rfl) (ea_cons (ev_op ev_c (ev_op ev_c (ev_var rfl) (rv_I (show CMul 2 (i : Int) from .inl (by decide)))) rv_I0) ea_nil)) (spDraw_v (sq_of (hbB b1 hA)) (by show (8 : Int) + 2 * (i : Int) = ((8 + 2 * i : Nat) : Int); omega))) fun H19 hA => ?_
      refine qe_asg (x := .int (drw ds (9 + 2 * i))) hA (ev_call (ea_cons (ev_var rfl) (ea_cons (ev_op ev_c (ev_op ev_c (ev_var rfl) (rv_I (show CMul 2 (i : Int) from .inl (by decide)))) rv_I0) ea_nil)) (spDraw_v (sq_of (hbB b1 hA)) (by show (9 : Int) + 2 * (i : Int) = ((9 + 2 * i : Nat) : Int); omega))) fun H20 hA => ?_
      generalize drw ds (8 + 2 * i) = x
      generalize drw ds (9 + 2 * i) = y
      refine se_if (b := decide (x % 2 = 0)) hA (et_test (ev_op (ev_op (ev_cb (ea_cons (ev_var rfl) ea_nil) rc_int) ev_c (rv_I (by decide))) ev_c rv_eqI)) (fun _ H21 hA => ?_) (fun _ H21 hA => ?_)
      · refine s_whenF (C := fun H1 => ∃ (rs' : List FR) (B2 : Hp), Ex B1 B2 ∧ At B2 (Iv K CF CD pf pd pdd pe d0 e0 d1 e1 rs' l0 l1 (.int L) .non) H1 ∧ IvOk (i + 1) rs' l0 l1) (fun Q' hQ => ?_) (fun H22 ⟨rs', B2, b2, hA, ok'⟩ => ⟨rs', l0, l1, B2, _, _, _, _, rfl, b1.trans b2, hA, ok'⟩)
        refine go_nt (go_tB (go_call (go_cons (ev_var rfl) fun H22 e22 => go_cons (ev_var rfl) fun H23 e23 => go_cons (ev_op (ev_var rfl) ev_c (rv_I ⟨by decide, by decide⟩)) fun H24 e24 => go_cons (ev_var rfl) fun H25 e25 => go_nil ⟨pf, pd, _, y, rs, i, B1, _, rfl, at_ix (hn := (by show 7 ≤ 9; decide)) 7 [4, 5, 6, 0, 1, 2, 3] (at_ex hA (e22.trans (e23.trans (e24.trans e25)))), ok.1, ok.2.1, ok.2.2.1, by omega, fun rs' B2 H26 b2 g1 g8 grs hA => ⟨true, rfl, hQ _ ⟨rs', B2, b2, at_ix (hn := (by show 7 ≤ 9; decide)) 7 [3, 4, 5, 6, 0, 1, 2] hA, g1, g8, grs, (ok.up (Nat.le_succ i)).2.2.2⟩⟩⟩)))
      · obtain ⟨t, ht, ht2⟩ : ∃ t : Int, y / 6 % 2 = t ∧ (t = 0 ∨ t = 1) := ⟨_, rfl, by omega⟩
        obtain ⟨z, hz⟩ : ∃ z, atI (nms.map V.str) (y % 6) = some (.str z) := by
          have h0 : 0 ≤ y % 6 := Int.emod_nonneg _ (by decide)
          have h1 : y % 6 < 6 := Int.emod_lt_of_pos _ (by decide)
          obtain ⟨k, hk⟩ : ∃ k : Nat, y % 6 = k := ⟨(y % 6).toNat, by omega⟩
          rw [hk]
          exact ⟨_, atI_nat (by rw [List.getElem?_map, List.getElem?_eq_getElem (show k < nms.length by omega)]; rfl)⟩
        refine qe_asg (x := .int t) hA (ev_is (ev_op (ev_cb (ea_cons (ev_op (ev_var rfl) ev_c (rv_I ⟨by decide, by decide⟩)) ea_nil) rc_int) ev_c (rv_I (by decide))) (by rw [ht])) fun H22 hA => ?_
        refine s_whenF (C := fun H1 => ∃ (l0' l1' : List (Str × V)) (B2 : Hp), Ex B1 B2 ∧ At B2 (Iv K CF CD pf pd pdd pe d0 e0 d1 e1 rs l0' l1' (.int L) .non) H1 ∧ IvOk (i + 1) rs l0' l1') (fun Q' hQ => ?_) (fun H23 ⟨l0', l1', B2, b2, hA, ok'⟩ => ⟨rs, l0', l1', B2, _, _, _, _, rfl, b1.trans b2, hA, ok'⟩)
        have hnl' : ∀ {H'}, Ex H22 H' → SqL K H' nl (nms.map V.str) := fun e => sq_of (e _ _ (at_base hA _ _ (b1 _ _ hnl)))
        have ok1 := ok.up (Nat.le_succ i)
        rcases ht2 with rfl | rfl
        · refine go_nt (go_tB (go_call (go_cons (ev_ref2 (K := K) (k := 0) 7 rfl hA rfl (ev_var rfl) rfl) fun H23 e23 => go_cons (ev_ref2 (K := K) (k := 0) 8 rfl (at_ex hA e23) rfl (ev_var rfl) rfl) fun H24 e24 => go_cons (ev_op (ev_var rfl) (ev_op (ev_cb (ea_cons (ev_var rfl) ea_nil) rc_int) ev_c (rv_I (by decide))) (rv_ixL (hnl' (e23.trans e24)) hz)) fun H25 e25 => go_cons (ev_op (ev_var rfl) ev_c (rv_I ⟨by decide, by decide⟩)) fun H26 e26 => go_nil ⟨d0, e0, z, _, l0, .int L, B1, _, rfl, at_ex hA (e23.trans (e24.trans (e25.trans e26))), ok.2.2.2.1, by have := ok.2.2.2.2.2.1; omega, fun l' B2 H27 b2 hI hl' hA => ⟨true, rfl, hQ _ ⟨l', l1, B2, b2, hA, ok1.1, ok1.2.1, ok1.2.2.1, hI, ok1.2.2.2.2.1, Nat.le_trans hl' (Nat.succ_le_succ ok.2.2.2.2.2.1), ok1.2.2.2.2.2.2⟩⟩⟩)))
        · refine go_nt (go_tB (go_call (go_cons (ev_ref2 (K := K) (k := 1) 7 rfl hA rfl (ev_var rfl) rfl) fun H23 e23 => go_cons (ev_ref2 (K := K) (k := 1) 8 rfl (at_ex hA e23) rfl (ev_var rfl) rfl) fun H24 e24 => go_cons (ev_op (ev_var rfl) (ev_op (ev_cb (ea_cons (ev_var rfl) ea_nil) rc_int) ev_c (rv_I (by decide))) (rv_ixL (hnl' (e23.trans e24)) hz)) fun H25 e25 => go_cons (ev_op (ev_var rfl) ev_c (rv_I ⟨by decide, by decide⟩)) fun H26 e26 => go_nil ⟨d1, e1, z, _, l1, .non, B1, _, rfl, at_ix (hn := (by show 4 ≤ 9; decide)) 4 [2, 3, 0, 1] (at_ex hA (e23.trans (e24.trans (e25.trans e26)))), ok.2.2.2.2.1, by have := ok.2.2.2.2.2.2; omega, fun l' B2 H27 b2 hI hl' hA => ⟨true, rfl, hQ _ ⟨l0, l', B2, b2, at_ix (hn := (by show 4 ≤ 9; decide)) 4 [2, 3, 0, 1] hA, ok1.1, ok1.2.1, ok1.2.2.1, ok1.2.2.2.1, hI, ok1.2.2.2.2.2.1, Nat.le_trans hl' (Nat.succ_le_succ ok.2.2.2.2.2.2)⟩⟩⟩)))
    · obtain ⟨rs, l0, l1, B1, y8, y9, y10, y11, rfl, b1, hA, ok⟩ := pp
      have hfl : (fsL rs).length = rs.length := List.length_map _
      refine q_forR1 (n := (rs.length : Int)) (ea_cons (ev_is (ev_cb (ea_cons (ev_var rfl) ea_nil) (rc_len (sq_of (at_get (a := pf) 5 rfl hA)))) (by rw [hfl])) ea_nil) (by have := ok.2.1; omega) (fun i σ' H' => ∃ (B' : Hp) (y8 : Option V), σ' = [some (.ref a), some (.ref b), some (.ref nl), some (.ref pf), some (.ref pd), some (.ref pdd), some (.ref pe), some (.int L), y8, y9, y10, y11] ∧ Ex B1 B' ∧ At B' (Iv K CF CD pf pd pdd pe d0 e0 d1 e1 rs l0 l1 (.int L) .non) H') (fun H18 e18 => ⟨B1, _, rfl, Ex.refl _, at_ex hA e18⟩) (fun i σ' H' hi pp => ?_) (fun σ' H' pp => ?_)
      · obtain ⟨B2, y8, rfl, b2, hA⟩ := pp
        have hil : i < rs.length := by omega
        obtain ⟨r, hr'⟩ : ∃ r, rs[i]? = some r := ⟨_, List.getElem?_eq_getElem hil⟩
        have rok := ok.2.2.1 r (List.mem_of_getElem? hr')
        refine s_whenF (C := fun H1 => ∃ B3, Ex B2 B3 ∧ At B3 (Iv K CF CD pf pd pdd pe d0 e0 d1 e1 rs l0 l1 (.int L) .non) H1) (fun Q' hQ => ?_) (fun H22 ⟨B3, b3, hA⟩ => ⟨B3, _, rfl, b2.trans b3, hA⟩)
        refine go_nt (go_tB (go_call (go_cons (ev_op (ev_var rfl) (ev_var rfl) (rv_ixL (sq_of (at_get (a := pf) 5 rfl hA)) (atI_nat (j := i) (by unfold fsL; rw [List.getElem?_map, hr']; rfl)))) fun H20 e20 => go_cons (ev_op (ev_var rfl) (ev_var rfl) (rv_ixL (sq_of (at_get (a := pd) 6 rfl (at_ex hA e20))) (atI_nat (j := i) (by unfold dsL; rw [List.getElem?_map, hr']; rfl)))) fun H21 e21 => go_nil ⟨r.f, r.du, r.dl, r.ps, r.b, B2, _, rfl, row_open (at_ix (hn := (by show 5 ≤ 9; decide)) 5 [4, 0, 1, 2, 3] (at_ex hA (e20.trans e21))) hr', rok.1, by have := rok.2; omega, fun B3 H22 b3 hA => ⟨true, rfl, hQ _ ⟨B3, b3, ?_⟩⟩⟩)))
        have hA := row_close hil hA
        rw [List.set_getElem?_self' hr'] at hA
        exact at_ix (hn := (by show 5 ≤ 9; decide)) 5 [1, 2, 3, 4, 0] hA
      · obtain ⟨B2, y8, rfl, b2, hA⟩ := pp
        refine q_forR1 (n := 2) (ea_cons ev_c ea_nil) (by omega) (fun i σ' H' => ∃ (B' : Hp) (y8 : Option V), σ' = [some (.ref a), some (.ref b), some (.ref nl), some (.ref pf), some (.ref pd), some (.ref pdd), some (.ref pe), some (.int L), y8, y9, y10, y11] ∧ Ex B2 B' ∧ At B' (Iv K CF CD pf pd pdd pe d0 e0 d1 e1 rs l0 l1 (.int L) .non) H') (fun H18 e18 => ⟨B2, _, rfl, Ex.refl _, at_ex hA e18⟩) (fun i σ' H' hi pp => ?_) (fun σ' H' pp => ?_)
        · obtain ⟨B3, y8, rfl, b3, hA⟩ := pp
          have hnl3 : B3 nl = some (.lst (nms.map V.str)) := (b1.trans (b2.trans b3)) _ _ hnl
          refine s_whenF (C := fun H1 => ∃ B4, Ex B3 B4 ∧ At B4 (Iv K CF CD pf pd pdd pe d0 e0 d1 e1 rs l0 l1 (.int L) .non) H1) (fun Q' hQ => ?_) (fun H22 ⟨B4, b4, hA⟩ => ⟨B4, _, rfl, b3.trans b4, hA⟩)
          have h2 : i = 0 ∨ i = 1 := by omega
          rcases h2 with rfl | rfl
          · exact go_nt (go_tB (go_call (go_cons (ev_ref2 (K := K) (k := 0) 7 rfl hA rfl (ev_var rfl) rfl) fun H23 e23 => go_cons (ev_ref2 (K := K) (k := 0) 8 rfl (at_ex hA e23) rfl (ev_var rfl) rfl) fun H24 e24 => go_cons (ev_var rfl) fun H25 e25 => go_nil ⟨d0, e0, nl, l0, .int L, nms, B3, _, rfl, at_ex hA (e23.trans (e24.trans e25)), ok.2.2.2.1, by have := ok.2.2.2.2.2.1; omega, hnl3, by omega, fun B4 H26 b4 hA => ⟨true, rfl, hQ _ ⟨B4, b4, hA⟩⟩⟩)))
          · exact go_nt (go_tB (go_call (go_cons (ev_ref2 (K := K) (k := 1) 7 rfl hA rfl (ev_var rfl) rfl) fun H23 e23 => go_cons (ev_ref2 (K := K) (k := 1) 8 rfl (at_ex hA e23) rfl (ev_var rfl) rfl) fun H24 e24 => go_cons (ev_var rfl) fun H25 e25 => go_nil ⟨d1, e1, nl, l1, .non, nms, B3, _, rfl, at_ix (hn := (by show 4 ≤ 9; decide)) 4 [2, 3, 0, 1] (at_ex hA (e23.trans (e24.trans e25))), ok.2.2.2.2.1, by have := ok.2.2.2.2.2.2; omega, hnl3, by omega, fun B4 H26 b4 hA => ⟨true, rfl, hQ _ ⟨B4, b4, at_ix (hn := (by show 4 ≤ 9; decide)) 4 [2, 3, 0, 1] hA⟩⟩⟩)))
        · obtain ⟨B3, y8, rfl, b3, hA⟩ := pp
          exact s_ret (ev_andT (ev_call (ea_cons (ev_dlimit (K := K) hA (ev_ref2 (K := K) (k := 0) 7 rfl hA rfl ev_c rfl)) (ea_cons (ev_var rfl) ea_nil)) (show SpV (spSm K 3) [.int L, .int L] _ (.bl true) from fun H1 e Q q _ => ⟨.int L, .int L, .int L, rfl, .int _, .int _, .int _, fun H2 e2 => q H2 e2⟩)) (ev_is (ev_isN (ev_dlimit (K := K) (at_ix (hn := (by show 3 ≤ 9; decide)) 3 [2, 0, 1] hA) (ev_ref2 (K := K) (k := 1) 7 rfl hA rfl ev_c rfl))) (by rw [decide_eq_true rfl]))) (fun H19 e19 => q H19)
theorem kit_ownBX {K : PySem.W.Frag} {h : Heap} {t : Value} {B : Addr} {b : Bool} (X : K.In h) (hd : PySem.W.hasDictIn K B = true) (ht : PySem.W.typeIn K (.ref B) = some (.type "type")) (hs : PySem.W.subIn K t (.ref B) = some b) (hne : b = false → (t == Value.ref B) = false) : PySem.W.kitOne K t (.ref B) = some b := kit_ownB hd ht hs hne
theorem exm_ownX {K : PySem.W.Frag} {h : Heap} {cls : Value} {C : Addr} {b : Bool} (X : K.In h) (h1 : PySem.W.subIn K (.ref C) (.type "BaseException") = some true) (hd : PySem.W.hasDictIn K C = true) (ht : PySem.W.typeIn K (.ref C) = some (.type "type")) (h4 : PySem.W.subIn K cls (.ref C) = some b) : PySem.W.exmOne K cls (.ref C) = some b := PySem.W.exm_ref h1 hd ht h4
theorem ok_law {CF CD f f__law_stream f__law_draw f__law_good f__law_name f__law_near f__law_names f__law_text f__law_same f__law_piece f__law_file_is f__law_file_step f__law_take f__law_directory_step f__law_directory_is f_File___init__ f_File_pieces f_File_sealed f_File_length f_File_seal f_File_add_piece f_File_sealed_copy f_Directory___init__ f_Directory_limit f_Directory_set_limit f_Directory_child f_Directory_put f_Directory_names f_Directory_take C_BadPath B_BadPath C_Unknown B_Unknown : Addr} {fd fd_File___init__ fd_File_pieces fd_File_sealed fd_File_length fd_File_seal fd_File_add_piece fd_File_sealed_copy fd_Directory___init__ fd_Directory_limit fd_Directory_set_limit fd_Directory_child fd_Directory_put fd_Directory_names fd_Directory_take fd__law_stream fd__law_draw fd__law_good fd__law_name fd__law_near fd__law_names fd__law_text fd__law_same fd__law_piece fd__law_file_is fd__law_file_step fd__law_take fd__law_directory_step fd__law_directory_is : FuncData} (F : Fun K "law" "law" s_law f fd)
    (D__law_stream : Df K mg "_law_stream" s__law_stream ["script", "many"] f__law_stream fd__law_stream)
    (D__law_draw : Df K mg "_law_draw" s__law_draw ["draws", "k"] f__law_draw fd__law_draw)
    (D__law_good : Df K mg "_law_good" s__law_good ["name"] f__law_good fd__law_good)
    (D__law_name : Df K mg "_law_name" s__law_name ["draw"] f__law_name fd__law_name)
    (D__law_near : Df K mg "_law_near" s__law_near ["name", "draw"] f__law_near fd__law_near)
    (D__law_names : Df K mg "_law_names" s__law_names ["draws", "at"] f__law_names fd__law_names)
    (D__law_text : Df K mg "_law_text" s__law_text ["draw"] f__law_text fd__law_text)
    (D__law_same : Df K mg "_law_same" s__law_same ["actual", "due"] f__law_same fd__law_same)
    (D__law_piece : Df K mg "_law_piece" s__law_piece ["draw", "second"] f__law_piece fd__law_piece)
    (D__law_file_is : Df K mg "_law_file_is" s__law_file_is ["actual", "due"] f__law_file_is fd__law_file_is)
    (D__law_file_step : Df K mg "_law_file_step" s__law_file_step ["files", "dues", "draw", "second"] f__law_file_step fd__law_file_step)
    (D__law_take : Df K mg "_law_take" s__law_take ["directory", "name"] f__law_take fd__law_take)
    (D__law_directory_step : Df K mg "_law_directory_step" s__law_directory_step ["directory", "entries", "name", "draw"] f__law_directory_step fd__law_directory_step)
    (D__law_directory_is : Df K mg "_law_directory_is" s__law_directory_is ["directory", "entries", "names"] f__law_directory_is fd__law_directory_is)
    (D_File___init__ : Dm K CF "__init__" "File.__init__" s_File___init__ ["self"] f_File___init__ fd_File___init__)
    (D_File_pieces : Pr K CF "pieces" "File.pieces" s_File_pieces f_File_pieces fd_File_pieces)
    (D_File_sealed : Pr K CF "sealed" "File.sealed" s_File_sealed f_File_sealed fd_File_sealed)
    (D_File_length : Pr K CF "length" "File.length" s_File_length f_File_length fd_File_length)
    (D_File_seal : Dm K CF "seal" "File.seal" s_File_seal ["self"] f_File_seal fd_File_seal)
    (D_File_add_piece : Dm K CF "add_piece" "File.add_piece" s_File_add_piece ["self", "piece"] f_File_add_piece fd_File_add_piece)
    (D_File_sealed_copy : Dm K CF "sealed_copy" "File.sealed_copy" s_File_sealed_copy ["self"] f_File_sealed_copy fd_File_sealed_copy)
    (D_Directory___init__ : Dm K CD "__init__" "Directory.__init__" s_Directory___init__ ["self"] f_Directory___init__ fd_Directory___init__)
    (D_Directory_limit : Pr K CD "limit" "Directory.limit" s_Directory_limit f_Directory_limit fd_Directory_limit)
    (D_Directory_set_limit : Dm K CD "set_limit" "Directory.set_limit" s_Directory_set_limit ["self", "most"] f_Directory_set_limit fd_Directory_set_limit)
    (D_Directory_child : Dm K CD "child" "Directory.child" s_Directory_child ["self", "name"] f_Directory_child fd_Directory_child)
    (D_Directory_put : Dm K CD "put" "Directory.put" s_Directory_put ["self", "name", "number"] f_Directory_put fd_Directory_put)
    (D_Directory_names : Dm K CD "names" "Directory.names" s_Directory_names ["self"] f_Directory_names fd_Directory_names)
    (D_Directory_take : Dm K CD "take" "Directory.take" s_Directory_take ["self", "name"] f_Directory_take fd_Directory_take)
    
    (E_BadPath : Err K mg "BadPath" C_BadPath B_BadPath) (E_Unknown : Err K mg "Unknown" C_Unknown B_Unknown)
    (h_U : mg "HallError" = some (.ref B_Unknown)) (M_U : PySem.W.exmOne K (.ref C_Unknown) (.ref B_Unknown) = some true) (K_U : PySem.W.kitOne K (.ref C_Unknown) (.ref C_Unknown) = some true) (N_U : PySem.W.kitOne K (.ref C_Unknown) (.ref C_BadPath) = some false)
    (L_File : Kl K mg "File" CF) (LC_File : FlC K CF) (L_Directory : Kl K mg "Directory" CD) (LC_Directory : DrC K CD) (T : Glo mg) : FnOk P w K mg base CX0 20 f fd ["script"] (spLaw K) := by
  have G_File___init__ : FnOk P w K mg base CX0 1 f_File___init__ fd_File___init__ _ _ := ok_finit D_File___init__.F LC_File T
  have G_File_pieces : FnOk P w K mg base CX0 1 f_File_pieces fd_File_pieces _ _ := ok_fpieces D_File_pieces.F LC_File T
  have G_File_sealed : FnOk P w K mg base CX0 1 f_File_sealed fd_File_sealed _ _ := ok_fsealed D_File_sealed.F LC_File T
  have G_File_length : FnOk P w K mg base CX0 1 f_File_length fd_File_length _ _ := ok_flength D_File_length.F LC_File T
  have G_File_seal : FnOk P w K mg base CX0 1 f_File_seal fd_File_seal _ _ := ok_fseal D_File_seal.F LC_File T
  have G_File_add_piece : FnOk P w K mg base CX0 1 f_File_add_piece fd_File_add_piece _ _ := ok_fadd D_File_add_piece.F LC_File T
  have G_File_sealed_copy : FnOk P w K mg base CX0 3 f_File_sealed_copy fd_File_sealed_copy _ _ := ok_fcopy D_File_sealed_copy.F L_File LC_File D_File___init__ G_File___init__ T
  have G_Directory___init__ : FnOk P w K mg base CX0 1 f_Directory___init__ fd_Directory___init__ _ _ := ok_drinit D_Directory___init__.F LC_Directory T
  have G_Directory_limit : FnOk P w K mg base CX0 1 f_Directory_limit fd_Directory_limit _ _ := ok_drlimit D_Directory_limit.F LC_Directory T
  have G_Directory_set_limit : FnOk P w K mg base CX0 1 f_Directory_set_limit fd_Directory_set_limit _ _ := ok_drset D_Directory_set_limit.F LC_Directory T
  have G_Directory_child : FnOk P w K mg base CX0 1 f_Directory_child fd_Directory_child _ _ := ok_drchild D_Directory_child.F LC_Directory T
  have G_Directory_put : FnOk P w K mg base CX0 1 f_Directory_put fd_Directory_put _ _ := ok_drput D_Directory_put.F LC_Directory T
  have G_Directory_names : FnOk P w K mg base CX0 1 f_Directory_names fd_Directory_names _ _ := ok_drnames D_Directory_names.F LC_Directory T
  have G_Directory_take : FnOk P w K mg base (L2.CX P w) 1 f_Directory_take fd_Directory_take _ _ := ok_drtake D_Directory_take.F LC_Directory E_Unknown T
  have G__law_stream : FnOk P w K mg base CX0 1 f__law_stream fd__law_stream _ _ := ok_streamW (k := 0) D__law_stream.F T
  have G__law_draw : FnOk P w K mg base CX0 1 f__law_draw fd__law_draw _ _ := ok_draw (k := 0) D__law_draw.F T
  have G__law_good : FnOk P w K mg base CX0 1 f__law_good fd__law_good _ _ := ok_good (k := 0) D__law_good.F T
  have G__law_name : FnOk P w K mg base CX0 2 f__law_name fd__law_name _ _ := ok_name D__law_name.F D__law_good G__law_good T
  have G__law_near : FnOk P w K mg base CX0 2 f__law_near fd__law_near _ _ := ok_near D__law_near.F D__law_good G__law_good T
  have G__law_names : FnOk P w K mg base CX0 3 f__law_names fd__law_names _ _ := ok_names D__law_names.F D__law_name G__law_name D__law_near G__law_near D__law_draw G__law_draw T
  have G__law_text : FnOk P w K mg base CX0 2 f__law_text fd__law_text _ _ := ok_ltext D__law_text.F T
  have G__law_same : FnOk P w K mg base CX0 4 f__law_same fd__law_same _ _ := ok_same26 D__law_same T 3
  have G__law_piece : FnOk P w K mg base CX0 3 f__law_piece fd__law_piece _ _ := ok_lpiece D__law_piece.F D__law_text G__law_text T
  have G__law_file_is : FnOk P w K mg base CX0 5 f__law_file_is fd__law_file_is _ _ := ok_lfile_is D__law_file_is.F D__law_same G__law_same D_File_pieces G_File_pieces D_File_sealed G_File_sealed D_File_length G_File_length L_File T
  have G__law_file_step : FnOk P w K mg base CX0 6 f__law_file_step fd__law_file_step _ _ := ok_lfile_step D__law_file_step.F D__law_piece G__law_piece D__law_same G__law_same D__law_file_is G__law_file_is D_File_add_piece G_File_add_piece D_File_seal G_File_seal D_File_sealed_copy G_File_sealed_copy L_File T
  have G__law_take : FnOk P w K mg base CX0 3 f__law_take fd__law_take _ _ := ok_ltake D__law_take.F D_Directory_take G_Directory_take L_Directory E_Unknown h_U E_BadPath.g M_U K_U N_U T
  have G__law_directory_step : FnOk P w K mg base CX0 5 f__law_directory_step fd__law_directory_step _ _ := ok_ldstep D__law_directory_step.F D__law_same G__law_same D__law_take G__law_take D_Directory_put G_Directory_put D_Directory_child G_Directory_child L_Directory T
  have G__law_directory_is : FnOk P w K mg base CX0 5 f__law_directory_is fd__law_directory_is _ _ := ok_ldis D__law_directory_is.F D__law_same G__law_same D_Directory_names G_Directory_names D_Directory_child G_Directory_child L_Directory T
  exact ok_lawG F D__law_stream G__law_stream D__law_draw G__law_draw D__law_names G__law_names D__law_same G__law_same D__law_file_step G__law_file_step D__law_directory_step G__law_directory_step D__law_file_is G__law_file_is D__law_directory_is G__law_directory_is D_File___init__ G_File___init__ D_Directory___init__ G_Directory___init__ D_Directory_limit G_Directory_limit D_Directory_set_limit G_Directory_set_limit L_File L_Directory T
end
end Ap
open PySem PySem.W PyProof.Rows
local macro_rules | `(tactic| k_head) => `(tactic| k_headL)
set_option maxHeartbeats 0 in
open_top Ap.head for PySem.Challenge.rw_appendhall_k26_files_and_directories
set_option maxHeartbeats 0 in
theorem PySem.Challenge.cw_appendhall_k26_files_and_directories_holds : PySem.Challenge.rw_appendhall_k26_files_and_directories.Holds := by
  refine Ap.head ?_
  k_fill
  refine Ap.walk_ofX (l := PySem.Challenge.rw_appendhall_k26_files_and_directories) (n := 63) (k := 20) (x := "script") (CX := fun _ => L2.CX0) (sp := fun w => Ap.spLaw _) rfl (by decide) rfl ⟨rfl, by decide, by decide⟩ (fun w h Y => PySem.W.kIn_of Y) ?F (fun _ _ a ns hl _ hS => ⟨a, ns, rfl, hS, hl, fun _ => rfl⟩) (fun _ _ _ _ _ h => h)
  case F =>
    intro w mg fa h KX G XG hmg
    obtain ⟨C_File, L_File, n_File__pieces, n_File__sealed, n_File__length, ⟨f_File_pieces, fd_File_pieces, D_File_pieces⟩, ⟨f_File_sealed, fd_File_sealed, D_File_sealed⟩, ⟨f_File_length, fd_File_length, D_File_length⟩, ⟨f_File___init__, fd_File___init__, D_File___init__⟩, ⟨f_File_seal, fd_File_seal, D_File_seal⟩, ⟨f_File_add_piece, fd_File_add_piece, D_File_add_piece⟩, ⟨f_File_sealed_copy, fd_File_sealed_copy, D_File_sealed_copy⟩⟩ : ∃ C, Ap.Kl _ mg "File" C ∧ L2.NoAttr _ C "_pieces" ∧ L2.NoAttr _ C "_sealed" ∧ L2.NoAttr _ C "_length" ∧ (∃ f fd, Ap.Pr _ C "pieces" "File.pieces" Ap.s_File_pieces f fd) ∧ (∃ f fd, Ap.Pr _ C "sealed" "File.sealed" Ap.s_File_sealed f fd) ∧ (∃ f fd, Ap.Pr _ C "length" "File.length" Ap.s_File_length f fd) ∧ (∃ f fd, Ap.Dm _ C "__init__" "File.__init__" Ap.s_File___init__ ["self"] f fd) ∧ (∃ f fd, Ap.Dm _ C "seal" "File.seal" Ap.s_File_seal ["self"] f fd) ∧ (∃ f fd, Ap.Dm _ C "add_piece" "File.add_piece" Ap.s_File_add_piece ["self", "piece"] f fd) ∧ (∃ f fd, Ap.Dm _ C "sealed_copy" "File.sealed_copy" Ap.s_File_sealed_copy ["self"] f fd) := by
      refine' ⟨_, Ap.kl_mk KX G ?aC ?pg ?hd ?po ?sa ?mk ?kp, Ap.na_mk KX ?n__pieces, Ap.na_mk KX ?n__sealed, Ap.na_mk KX ?n__length, Ap.pr_mk KX ?a_pieces ?g_pieces ?t_pieces ?r_pieces ?l_pieces ?c_pieces ?k_pieces ?b_pieces, Ap.pr_mk KX ?a_sealed ?g_sealed ?t_sealed ?r_sealed ?l_sealed ?c_sealed ?k_sealed ?b_sealed, Ap.pr_mk KX ?a_length ?g_length ?t_length ?r_length ?l_length ?c_length ?k_length ?b_length, Ap.dm_mk KX ?a___init__ ?i___init__ ?l___init__ ?c___init__ ?k___init__ ?b___init__, Ap.dm_mk KX ?a_seal ?i_seal ?l_seal ?c_seal ?k_seal ?b_seal, Ap.dm_mk KX ?a_add_piece ?i_add_piece ?l_add_piece ?c_add_piece ?k_add_piece ?b_add_piece, Ap.dm_mk KX ?a_sealed_copy ?i_sealed_copy ?l_sealed_copy ?c_sealed_copy ?k_sealed_copy ?b_sealed_copy⟩
      (case aC => k_is); (case pg => k_is); (case hd => k_is); (case po => k_is); (case sa => k_is); (case mk => k_is); (case kp => k_is); (case n__pieces => k_is); (case n__sealed => k_is); (case n__length => k_is); (case a_pieces => k_is); (case g_pieces => k_is); (case t_pieces => k_is); (case r_pieces => k_is); (case l_pieces => k_is); (case c_pieces => k_is); (case k_pieces => k_is); (case a_sealed => k_is); (case g_sealed => k_is); (case t_sealed => k_is); (case r_sealed => k_is); (case l_sealed => k_is); (case c_sealed => k_is); (case k_sealed => k_is); (case a_length => k_is); (case g_length => k_is); (case t_length => k_is); (case r_length => k_is); (case l_length => k_is); (case c_length => k_is); (case k_length => k_is); (case a___init__ => k_is); (case i___init__ => k_is); (case l___init__ => k_is); (case c___init__ => k_is); (case k___init__ => k_is); (case a_seal => k_is); (case i_seal => k_is); (case l_seal => k_is); (case c_seal => k_is); (case k_seal => k_is); (case a_add_piece => k_is); (case i_add_piece => k_is); (case l_add_piece => k_is); (case c_add_piece => k_is); (case k_add_piece => k_is); (case a_sealed_copy => k_is); (case i_sealed_copy => k_is); (case l_sealed_copy => k_is); (case c_sealed_copy => k_is); (case k_sealed_copy => k_is)
      (case b_pieces => exact fun _ _ _ _ _ _ us hl => match us, hl with | [_], _ => rfl)
      (case b_sealed => exact fun _ _ _ _ _ _ us hl => match us, hl with | [_], _ => rfl)
      (case b_length => exact fun _ _ _ _ _ _ us hl => match us, hl with | [_], _ => rfl)
      (case b___init__ => exact fun _ _ _ _ _ _ us hl => match us, hl with | [_], _ => rfl)
      (case b_seal => exact fun _ _ _ _ _ _ us hl => match us, hl with | [_], _ => rfl)
      (case b_add_piece => exact fun _ _ _ _ _ _ us hl => match us, hl with | [_, _], _ => rfl)
      (case b_sealed_copy => exact fun _ _ _ _ _ _ us hl => match us, hl with | [_], _ => rfl)
    obtain ⟨C_Directory, L_Directory, n_Directory__entries, n_Directory__limit, ⟨f_Directory_limit, fd_Directory_limit, D_Directory_limit⟩, ⟨f_Directory___init__, fd_Directory___init__, D_Directory___init__⟩, ⟨f_Directory_set_limit, fd_Directory_set_limit, D_Directory_set_limit⟩, ⟨f_Directory_child, fd_Directory_child, D_Directory_child⟩, ⟨f_Directory_put, fd_Directory_put, D_Directory_put⟩, ⟨f_Directory_names, fd_Directory_names, D_Directory_names⟩, ⟨f_Directory_take, fd_Directory_take, D_Directory_take⟩⟩ : ∃ C, Ap.Kl _ mg "Directory" C ∧ L2.NoAttr _ C "_entries" ∧ L2.NoAttr _ C "_limit" ∧ (∃ f fd, Ap.Pr _ C "limit" "Directory.limit" Ap.s_Directory_limit f fd) ∧ (∃ f fd, Ap.Dm _ C "__init__" "Directory.__init__" Ap.s_Directory___init__ ["self"] f fd) ∧ (∃ f fd, Ap.Dm _ C "set_limit" "Directory.set_limit" Ap.s_Directory_set_limit ["self", "most"] f fd) ∧ (∃ f fd, Ap.Dm _ C "child" "Directory.child" Ap.s_Directory_child ["self", "name"] f fd) ∧ (∃ f fd, Ap.Dm _ C "put" "Directory.put" Ap.s_Directory_put ["self", "name", "number"] f fd) ∧ (∃ f fd, Ap.Dm _ C "names" "Directory.names" Ap.s_Directory_names ["self"] f fd) ∧ (∃ f fd, Ap.Dm _ C "take" "Directory.take" Ap.s_Directory_take ["self", "name"] f fd) := by
      refine' ⟨_, Ap.kl_mk KX G ?aC ?pg ?hd ?po ?sa ?mk ?kp, Ap.na_mk KX ?n__entries, Ap.na_mk KX ?n__limit, Ap.pr_mk KX ?a_limit ?g_limit ?t_limit ?r_limit ?l_limit ?c_limit ?k_limit ?b_limit, Ap.dm_mk KX ?a___init__ ?i___init__ ?l___init__ ?c___init__ ?k___init__ ?b___init__, Ap.dm_mk KX ?a_set_limit ?i_set_limit ?l_set_limit ?c_set_limit ?k_set_limit ?b_set_limit, Ap.dm_mk KX ?a_child ?i_child ?l_child ?c_child ?k_child ?b_child, Ap.dm_mk KX ?a_put ?i_put ?l_put ?c_put ?k_put ?b_put, Ap.dm_mk KX ?a_names ?i_names ?l_names ?c_names ?k_names ?b_names, Ap.dm_mk KX ?a_take ?i_take ?l_take ?c_take ?k_take ?b_take⟩
      (case aC => k_is); (case pg => k_is); (case hd => k_is); (case po => k_is); (case sa => k_is); (case mk => k_is); (case kp => k_is); (case n__entries => k_is); (case n__limit => k_is); (case a_limit => k_is); (case g_limit => k_is); (case t_limit => k_is); (case r_limit => k_is); (case l_limit => k_is); (case c_limit => k_is); (case k_limit => k_is); (case a___init__ => k_is); (case i___init__ => k_is); (case l___init__ => k_is); (case c___init__ => k_is); (case k___init__ => k_is); (case a_set_limit => k_is); (case i_set_limit => k_is); (case l_set_limit => k_is); (case c_set_limit => k_is); (case k_set_limit => k_is); (case a_child => k_is); (case i_child => k_is); (case l_child => k_is); (case c_child => k_is); (case k_child => k_is); (case a_put => k_is); (case i_put => k_is); (case l_put => k_is); (case c_put => k_is); (case k_put => k_is); (case a_names => k_is); (case i_names => k_is); (case l_names => k_is); (case c_names => k_is); (case k_names => k_is); (case a_take => k_is); (case i_take => k_is); (case l_take => k_is); (case c_take => k_is); (case k_take => k_is)
      (case b_limit => exact fun _ _ _ _ _ _ us hl => match us, hl with | [_], _ => rfl)
      (case b___init__ => exact fun _ _ _ _ _ _ us hl => match us, hl with | [_], _ => rfl)
      (case b_set_limit => exact fun _ _ _ _ _ _ us hl => match us, hl with | [_, _], _ => rfl)
      (case b_child => exact fun _ _ _ _ _ _ us hl => match us, hl with | [_, _], _ => rfl)
      (case b_put => exact fun _ _ _ _ _ _ us hl => match us, hl with | [_, _, _], _ => rfl)
      (case b_names => exact fun _ _ _ _ _ _ us hl => match us, hl with | [_], _ => rfl)
      (case b_take => exact fun _ _ _ _ _ _ us hl => match us, hl with | [_, _], _ => rfl)
    obtain ⟨C_BadPath, B_BadPath, C_Unknown, B_Unknown, E_BadPath, g_BadPath_HallError, E_Unknown, g_Unknown_HallError, N_Unknown_BadPath, K_Unknown, M_Unknown_HallError⟩ : ∃ C_BadPath B_BadPath C_Unknown B_Unknown, Ap.Err _ mg "BadPath" C_BadPath B_BadPath ∧ mg "HallError" = some (.ref B_BadPath) ∧ Ap.Err _ mg "Unknown" C_Unknown B_Unknown ∧ mg "HallError" = some (.ref B_Unknown) ∧ PySem.W.kitOne _ (.ref C_Unknown) (.ref C_BadPath) = some false ∧ PySem.W.kitOne _ (.ref C_Unknown) (.ref C_Unknown) = some true ∧ PySem.W.exmOne _ (.ref C_Unknown) (.ref B_Unknown) = some true := by
      refine' ⟨_, _, _, _, (Ap.err_mk (y := "HallError") KX G ?aC_BadPath ?aB_BadPath ?kp_BadPath ?ex_BadPath ?bs_BadPath ?ty_BadPath ?ss_BadPath ?hg_BadPath ?hk_BadPath ?hd_BadPath ?ha_BadPath ?hn_BadPath ?ht_BadPath ?hm_BadPath ?dB_BadPath ?tB_BadPath ?sb_BadPath ?sv_BadPath).1, (PySem.W.mg_of KX G ?aB2_BadPath), (Ap.err_mk (y := "HallError") KX G ?aC_Unknown ?aB_Unknown ?kp_Unknown ?ex_Unknown ?bs_Unknown ?ty_Unknown ?ss_Unknown ?hg_Unknown ?hk_Unknown ?hd_Unknown ?ha_Unknown ?hn_Unknown ?ht_Unknown ?hm_Unknown ?dB_Unknown ?tB_Unknown ?sb_Unknown ?sv_Unknown).1, (PySem.W.mg_of KX G ?aB2_Unknown), Ap.kit_ownBX KX ?nd_Unknown_BadPath ?nt_Unknown_BadPath ?ns_Unknown_BadPath (fun _ => ?nn_Unknown_BadPath), Ap.kit_ownBX KX ?nd_Unknown ?nt_Unknown ?ns_Unknown (fun h => nomatch h), Ap.exm_ownX KX ?ub_Unknown ?ud_Unknown ?ut_Unknown ?us_Unknown⟩
      (case aC_BadPath => k_is)
      (case aB_BadPath => k_is)
      (case kp_BadPath => k_is)
      (case ex_BadPath => k_exc)
      (case bs_BadPath => k_is)
      (case ty_BadPath => k_is)
      (case ss_BadPath => k_is)
      (case hg_BadPath => k_is)
      (case hk_BadPath => k_is)
      (case hd_BadPath => k_is)
      (case ha_BadPath => k_is)
      (case hn_BadPath => k_is)
      (case ht_BadPath => k_is)
      (case hm_BadPath => k_is)
      (case dB_BadPath => k_is)
      (case tB_BadPath => k_is)
      (case sb_BadPath => k_is)
      (case sv_BadPath => k_is)
      (case aB2_BadPath => k_is)
      (case aC_Unknown => k_is)
      (case aB_Unknown => k_is)
      (case kp_Unknown => k_is)
      (case ex_Unknown => k_exc)
      (case bs_Unknown => k_is)
      (case ty_Unknown => k_is)
      (case ss_Unknown => k_is)
      (case hg_Unknown => k_is)
      (case hk_Unknown => k_is)
      (case hd_Unknown => k_is)
      (case ha_Unknown => k_is)
      (case hn_Unknown => k_is)
      (case ht_Unknown => k_is)
      (case hm_Unknown => k_is)
      (case dB_Unknown => k_is)
      (case tB_Unknown => k_is)
      (case sb_Unknown => k_is)
      (case sv_Unknown => k_is)
      (case aB2_Unknown => k_is)
      (case nd_Unknown_BadPath => k_is)
      (case nt_Unknown_BadPath => k_is)
      (case ns_Unknown_BadPath => k_is)
      (case nn_Unknown_BadPath => rfl)
      (case nd_Unknown => k_is)
      (case nt_Unknown => k_is)
      (case ns_Unknown => k_is)
      (case ub_Unknown => k_is)
      (case ud_Unknown => k_is)
      (case ut_Unknown => k_is)
      (case us_Unknown => k_is)
    obtain ⟨f__law_stream, fd__law_stream, D__law_stream⟩ : ∃ f fd, Ap.Df _ mg "_law_stream" Ap.s__law_stream ["script", "many"] f fd := by
      refine' Ap.df_mk KX G ?a ?l ?c ?k ?b
      (case a => k_is); (case l => k_is); (case c => k_is); (case k => k_is); (case b => exact fun _ _ _ _ _ _ us hl => match us, hl with | [_, _], _ => rfl)
    obtain ⟨f__law_draw, fd__law_draw, D__law_draw⟩ : ∃ f fd, Ap.Df _ mg "_law_draw" Ap.s__law_draw ["draws", "k"] f fd := by
      refine' Ap.df_mk KX G ?a ?l ?c ?k ?b
      (case a => k_is); (case l => k_is); (case c => k_is); (case k => k_is); (case b => exact fun _ _ _ _ _ _ us hl => match us, hl with | [_, _], _ => rfl)
    obtain ⟨f__law_good, fd__law_good, D__law_good⟩ : ∃ f fd, Ap.Df _ mg "_law_good" Ap.s__law_good ["name"] f fd := by
      refine' Ap.df_mk KX G ?a ?l ?c ?k ?b
      (case a => k_is); (case l => k_is); (case c => k_is); (case k => k_is); (case b => exact fun _ _ _ _ _ _ us hl => match us, hl with | [_], _ => rfl)
    obtain ⟨f__law_name, fd__law_name, D__law_name⟩ : ∃ f fd, Ap.Df _ mg "_law_name" Ap.s__law_name ["draw"] f fd := by
      refine' Ap.df_mk KX G ?a ?l ?c ?k ?b
      (case a => k_is); (case l => k_is); (case c => k_is); (case k => k_is); (case b => exact fun _ _ _ _ _ _ us hl => match us, hl with | [_], _ => rfl)
    obtain ⟨f__law_near, fd__law_near, D__law_near⟩ : ∃ f fd, Ap.Df _ mg "_law_near" Ap.s__law_near ["name", "draw"] f fd := by
      refine' Ap.df_mk KX G ?a ?l ?c ?k ?b
      (case a => k_is); (case l => k_is); (case c => k_is); (case k => k_is); (case b => exact fun _ _ _ _ _ _ us hl => match us, hl with | [_, _], _ => rfl)
    obtain ⟨f__law_names, fd__law_names, D__law_names⟩ : ∃ f fd, Ap.Df _ mg "_law_names" Ap.s__law_names ["draws", "at"] f fd := by
      refine' Ap.df_mk KX G ?a ?l ?c ?k ?b
      (case a => k_is); (case l => k_is); (case c => k_is); (case k => k_is); (case b => exact fun _ _ _ _ _ _ us hl => match us, hl with | [_, _], _ => rfl)
    obtain ⟨f__law_text, fd__law_text, D__law_text⟩ : ∃ f fd, Ap.Df _ mg "_law_text" Ap.s__law_text ["draw"] f fd := by
      refine' Ap.df_mk KX G ?a ?l ?c ?k ?b
      (case a => k_is); (case l => k_is); (case c => k_is); (case k => k_is); (case b => exact fun _ _ _ _ _ _ us hl => match us, hl with | [_], _ => rfl)
    obtain ⟨f__law_same, fd__law_same, D__law_same⟩ : ∃ f fd, Ap.Df _ mg "_law_same" Ap.s__law_same ["actual", "due"] f fd := by
      refine' Ap.df_mk KX G ?a ?l ?c ?k ?b
      (case a => k_is); (case l => k_is); (case c => k_is); (case k => k_is); (case b => exact fun _ _ _ _ _ _ us hl => match us, hl with | [_, _], _ => rfl)
    obtain ⟨f__law_piece, fd__law_piece, D__law_piece⟩ : ∃ f fd, Ap.Df _ mg "_law_piece" Ap.s__law_piece ["draw", "second"] f fd := by
      refine' Ap.df_mk KX G ?a ?l ?c ?k ?b
      (case a => k_is); (case l => k_is); (case c => k_is); (case k => k_is); (case b => exact fun _ _ _ _ _ _ us hl => match us, hl with | [_, _], _ => rfl)
    obtain ⟨f__law_file_is, fd__law_file_is, D__law_file_is⟩ : ∃ f fd, Ap.Df _ mg "_law_file_is" Ap.s__law_file_is ["actual", "due"] f fd := by
      refine' Ap.df_mk KX G ?a ?l ?c ?k ?b
      (case a => k_is); (case l => k_is); (case c => k_is); (case k => k_is); (case b => exact fun _ _ _ _ _ _ us hl => match us, hl with | [_, _], _ => rfl)
    obtain ⟨f__law_file_step, fd__law_file_step, D__law_file_step⟩ : ∃ f fd, Ap.Df _ mg "_law_file_step" Ap.s__law_file_step ["files", "dues", "draw", "second"] f fd := by
      refine' Ap.df_mk KX G ?a ?l ?c ?k ?b
      (case a => k_is); (case l => k_is); (case c => k_is); (case k => k_is); (case b => exact fun _ _ _ _ _ _ us hl => match us, hl with | [_, _, _, _], _ => rfl)
    obtain ⟨f__law_take, fd__law_take, D__law_take⟩ : ∃ f fd, Ap.Df _ mg "_law_take" Ap.s__law_take ["directory", "name"] f fd := by
      refine' Ap.df_mk KX G ?a ?l ?c ?k ?b
      (case a => k_is); (case l => k_is); (case c => k_is); (case k => k_is); (case b => exact fun _ _ _ _ _ _ us hl => match us, hl with | [_, _], _ => rfl)
    obtain ⟨f__law_directory_step, fd__law_directory_step, D__law_directory_step⟩ : ∃ f fd, Ap.Df _ mg "_law_directory_step" Ap.s__law_directory_step ["directory", "entries", "name", "draw"] f fd := by
      refine' Ap.df_mk KX G ?a ?l ?c ?k ?b
      (case a => k_is); (case l => k_is); (case c => k_is); (case k => k_is); (case b => exact fun _ _ _ _ _ _ us hl => match us, hl with | [_, _, _, _], _ => rfl)
    obtain ⟨f__law_directory_is, fd__law_directory_is, D__law_directory_is⟩ : ∃ f fd, Ap.Df _ mg "_law_directory_is" Ap.s__law_directory_is ["directory", "entries", "names"] f fd := by
      refine' Ap.df_mk KX G ?a ?l ?c ?k ?b
      (case a => k_is); (case l => k_is); (case c => k_is); (case k => k_is); (case b => exact fun _ _ _ _ _ _ us hl => match us, hl with | [_, _, _], _ => rfl)
    obtain ⟨fd, hb, F⟩ : ∃ fd, (∀ (s : Shared) (v : Value), BindsTo s fd ⟨[v], []⟩ [("script", v)]) ∧ L2.Fun _ "law" "law" Ap.s_law fa fd := by
      refine' Ap.law_mk KX G hmg ?a ?l ?c ?k ?b
      (case a => k_is); (case l => k_is); (case c => k_is); (case k => k_is); (case b => exact fun _ _ _ _ _ _ _ _ => .of_eq rfl)
    refine ⟨fd, hb, fun base _ _ => Ap.ok_law F D__law_stream D__law_draw D__law_good D__law_name D__law_near D__law_names D__law_text D__law_same D__law_piece D__law_file_is D__law_file_step D__law_take D__law_directory_step D__law_directory_is D_File___init__ D_File_pieces D_File_sealed D_File_length D_File_seal D_File_add_piece D_File_sealed_copy D_Directory___init__ D_Directory_limit D_Directory_set_limit D_Directory_child D_Directory_put D_Directory_names D_Directory_take E_BadPath E_Unknown g_Unknown_HallError M_Unknown_HallError K_Unknown N_Unknown_BadPath L_File ⟨L_File.cl, n_File__pieces, n_File__sealed, n_File__length⟩ L_Directory ⟨L_Directory.cl, n_Directory__entries, n_Directory__limit⟩ ?T⟩
    refine' ⟨PySem.W.mg_none_of KX G ?z0, PySem.W.mg_none_of KX G ?z1, PySem.W.mg_none_of KX G ?z2, PySem.W.mg_none_of KX G ?z3, PySem.W.mg_none_of KX G ?z4, PySem.W.mg_none_of KX G ?z5, PySem.W.mg_none_of KX G ?z6, PySem.W.mg_none_of KX G ?z7, PySem.W.mg_none_of KX G ?z8, PySem.W.mg_none_of KX G ?z9, PySem.W.mg_none_of KX G ?z10, PySem.W.mg_none_of KX G ?z11⟩
    (case z0 => k_is); (case z1 => k_is); (case z2 => k_is); (case z3 => k_is); (case z4 => k_is); (case z5 => k_is); (case z6 => k_is); (case z7 => k_is); (case z8 => k_is); (case z9 => k_is); (case z10 => k_is); (case z11 => k_is)
#print axioms PySem.Challenge.cw_appendhall_k26_files_and_directories_holds
