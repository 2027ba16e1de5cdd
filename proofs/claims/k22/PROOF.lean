import PyProof.Rows.All
import Wide.All
import OpenK.AllK
import Wide.FinOn
import HandS.ForMost
import HandS.Evl
import HandS.Walk
import HandS.SortKw
import HandS.DictComp
import HandS.IsInst
import PySem.Challenge.RW_appendhall_k22_commit_point
set_option Elab.async false
set_option linter.all false
set_option maxRecDepth 100000
namespace Ap
open PySem PySem.Spec PyProof.Rows L2 Evl

/-! ### more of what evaluates to what -/
section
variable {K : PySem.W.Frag} {σ : L2.St} {H H' : Hp} {ta tb tc te : TE} {t u : TT} {x y z v w : V} {r r' : R2}
theorem ev_chain {k m : Bool} (ha : Ev ta σ H x) (hb : Ev tb σ H y) (hr : RV r x y H (.bl k)) (hc : Ev tc σ H z) (hr' : RV r' y z H (.bl m)) : Ev (tChain r r' ta tb tc) σ H (.bl (k && m)) := fun H1 e Q q =>
  ha H1 e _ fun H2 e2 => hb H2 (e.trans e2) _ fun H3 e3 => hr H3 ((e.trans e2).trans e3) _ fun H4 e4 => ⟨k, rfl, by
    cases k with
    | true =>
      show tc σ H4 _
      exact hc H4 (((e.trans e2).trans e3).trans e4) _ fun H5 e5 => hr' H5 ((((e.trans e2).trans e3).trans e4).trans e5) Q fun H6 e6 => q H6 ((((e2.trans e3).trans e4).trans e5).trans e6)
    | false =>
      show Q (.bl false) H4
      exact q H4 ((e2.trans e3).trans e4)⟩
theorem rc_int {i : Int} : RC (fun xs H Q => (∃ i, xs = [.int i] ∧ Q (.int i) H) ∨ ∃ k, xs = [.bl k] ∧ Q (.int (if k then 1 else 0)) H) [.int i] H (.int i) := fun H1 _ _ q => Or.inl ⟨i, rfl, q H1 (Ex.refl H1)⟩
theorem rc_len {p : Addr} {xs : List V} (h : SqL K H p xs) : RC (fun xs H Q => ∃ p ys, xs = [.ref p] ∧ (SqL K H p ys ∨ SqT K H p ys) ∧ Q (.int ys.length) H) [.ref p] H (.int (xs.length : Int)) := fun H1 e _ q => ⟨p, xs, rfl, Or.inl (ex_l e h), q H1 (Ex.refl H1)⟩
theorem rc_lenT {p : Addr} {xs : List V} (h : SqT K H p xs) : RC (fun xs H Q => ∃ p ys, xs = [.ref p] ∧ (SqL K H p ys ∨ SqT K H p ys) ∧ Q (.int ys.length) H) [.ref p] H (.int (xs.length : Int)) := fun H1 e _ q => ⟨p, xs, rfl, Or.inr (ex_t e h), q H1 (Ex.refl H1)⟩
end


section
variable {K : PySem.W.Frag} {σ : L2.St} {H H' : Hp} {ta tb tc te td ty tv : TE} {t u : TT} {x y z v w : V} {D : Ends} {tz : TS}
theorem ev_dget {a : Addr} {kvs : List (Key × V)} {k : Key} (ha : Ev td σ H (.ref a)) (hk : Ev ty σ H (kV k)) (hr : Rd H a (.dK kvs)) (hv : valV kvs k = some v) : Ev (tDGet td ty) σ H v := fun H1 e Q q =>
  ha H1 e _ fun H2 e2 => hk H2 (e.trans e2) _ fun H3 e3 => ⟨a, v, rfl, .inl ⟨kvs, k, ex_rd ((e.trans e2).trans e3) hr, rfl, hv.symm⟩, q H3 (e2.trans e3)⟩
/-- isinstance(x, T) of a plain value -/
theorem rc_isi {x : V} {T X : String} {b : Bool} (ht : ∀ H, TyX K H x (.type X)) (hb : kitB X T = some b) : RC (rIsi K) [x, .ty T] H (.bl b) := fun H1 _ _ q => ⟨x, .ty T, .type X, .type T, b, rfl, .ty T, ht H1, kit_ty hb, q H1 (Ex.refl H1)⟩
/-- d[k] = e -/
theorem s_put {a : Addr} {kvs : List (Key × V)} {k : Key} (h : Ev tv σ H v) (ha : Ev td σ H (.ref a)) (hk : Ev ty σ H (kV k)) (hd : H a = some (.dK kvs)) (hl : kvs.length < 100000) (q : ∀ H1, Ex H H1 → D.nx σ (upd H1 a (.dK (putK kvs k v)))) : sDPut td ty tv D σ H :=
  h H (Ex.refl H) _ fun H1 e1 => ha H1 e1 _ fun H2 e2 => hk H2 (e1.trans e2) _ fun H3 e3 => ⟨a, _, rfl, DPut.k (((e1.trans e2).trans e3) a _ hd) (sz_lt hl), q H3 ((e1.trans e2).trans e3)⟩
theorem q_put {a : Addr} {kvs : List (Key × V)} {k : Key} (h : Ev tv σ H v) (ha : Ev td σ H (.ref a)) (hk : Ev ty σ H (kV k)) (hd : H a = some (.dK kvs)) (hl : kvs.length < 100000) (q : ∀ H1, Ex H H1 → tz D σ (upd H1 a (.dK (putK kvs k v)))) : tSeq (sDPut td ty tv) tz D σ H :=
  s_put (D := { D with nx := tz D }) h ha hk hd hl q
/-- within a lock, and out of it -/
theorem Ex.unlock {H H' : Hp} {d : Addr} {o : Obj} {u : HO} (hd : H d = some u) (e : Ex (upd H d (.frz o u)) H') : Ex H (upd H' d u) := fun a o' h => by
  by_cases q : a = d
  · subst q
    rw [upd_same, ← hd, h]
  · rw [upd_ne q]
    exact e a o' (by rw [upd_ne q]; exact h)
theorem SqL.locked {a d : Addr} {xs : List V} {o : Obj} {u : HO} (h : SqL K H a xs) (hn : H d = some u) (hu : ∀ l, u ≠ .lst l ∧ ∀ o, u ≠ .frz o (.lst l)) : SqL K (upd H d (.frz o u)) a xs := by
  rcases h with (h | ⟨o', h⟩) | h
  · have q : a ≠ d := fun e => by
      rw [e, hn] at h
      exact (hu xs).1 (Option.some.inj h)
    exact .inl (.inl (by rw [upd_ne q]; exact h))
  · have q : a ≠ d := fun e => by
      rw [e, hn] at h
      exact (hu xs).2 o' (Option.some.inj h)
    exact .inl (.inr ⟨o', by rw [upd_ne q]; exact h⟩)
  · exact .inr h
/-- y = [e for k in d if t] -/
theorem q_lcKeys {d : Addr} {kvs : List (Key × V)} {jd i j : Nat} {vs : List Nat} (hj : σ[jd]? = some (some (.ref d))) (hd : H d = some (.dK kvs)) (hz : kvs.length ≤ 40000) (f : Nat → Bool) (v : Nat → V) (hw : ∀ x, wipe ((wipe σ vs).set j (some x)) vs = wipe σ vs)
    (ht : ∀ (n : Nat) k x o, kvs[n]? = some (k, x) → EvT t ((wipe σ vs).set j (some (kV k))) (upd H d (.frz o (.dK kvs))) (f n))
    (he : ∀ (n : Nat) k x o, kvs[n]? = some (k, x) → f n = true → Ev te ((wipe σ vs).set j (some (kV k))) (upd H d (.frz o (.dK kvs))) (v n))
    (q : ∀ p H1, H p = none → Ex H H1 → H1 p = some (.lst (given kvs.length f v)) → tz D (σ.set i (some (.ref p))) H1) : tSeq (tLock (tAsg (tLc (iKeys (tVar jd)) (gName j) t te vs) (gName i))) tz D σ H := by
  refine ⟨d, .dK kvs, hd, trivial, fun od => ⟨.ref d, hj, d, od, rfl, .inl ⟨kvs, upd_same, fun Dl hD => ?_⟩⟩⟩
  have ne : Dl ≠ d := fun e => by
    rw [e, upd_same] at hD
    cases hD
  refine lc_it walk_keys (fun m H' => Cw (upd H d (.frz od (.dK kvs))) f v Dl m H') ⟨hD, Ex.new hD, upd_same⟩ (fun m H' _ p => p.2.1 d _ upd_same) (fun m x H1 H' hm p y => ?_) (fun H' p => ?_)
  · obtain ⟨rfl, k, x', hk, rfl⟩ := y
    exact ⟨hw _, cw_turn p (by omega) (ht m k x' od hk) (fun hf => he m k x' od hk hf)⟩
  · refine ⟨p.2.1 d _ upd_same, ?_⟩
    refine q Dl _ ?_ (Ex.unlock hd p.2.1) (by rw [upd_ne ne]; exact p.2.2)
    rw [upd_ne ne] at hD
    exact hD
/-- for k in d: body, the dict locked -/
theorem q_forKeys {d : Addr} {kvs : List (Key × V)} {jd j : Nat} {tu : TS} (hj : σ[jd]? = some (some (.ref d))) (hd : H d = some (.dK kvs)) (Pv : Obj → Nat → L2.St → Hp → Prop)
    (h0 : ∀ o, Pv o 0 σ (upd H d (.frz o (.dK kvs)))) (hG : ∀ o i σ' H', i ≤ kvs.length → Pv o i σ' H' → H' d = some (.frz o (.dK kvs)))
    (hs : ∀ o i k x σ' H' rt bk, kvs[i]? = some (k, x) → Pv o i σ' H' → tu ⟨Pv o (i + 1), rt, bk, Pv o (i + 1)⟩ (σ'.set j (some (kV k))) H')
    (q : ∀ o σ' H', Pv o kvs.length σ' H' → tz D σ' (upd H' d (.dK kvs))) : tSeq (tLock (tFor (iKeys (tVar jd)) (gName j) tu)) tz D σ H := by
  refine ⟨d, .dK kvs, hd, trivial, fun od => ⟨.ref d, hj, d, od, rfl, .inl ⟨kvs, upd_same, ?_⟩⟩⟩
  refine for_it walk_keys (Pv od) (h0 od) (fun i σ' H' hi p => hG od i σ' H' hi p) (fun i x σ' H1 H' hi p y => ?_) (fun σ' H' p => ⟨hG od _ σ' H' (Nat.le_refl _) p, q od σ' H' p⟩)
  obtain ⟨rfl, k, x', hk, rfl⟩ := y
  exact hs od i k x' σ' H' _ _ hk p
theorem q_dnew {i : Nat} (k : ∀ p H1, H p = none → Ex H H1 → H1 p = some (.dK []) → tz D (σ.set i (some (.ref p))) H1) : tSeq (tAsg tDNewK (gName i)) tz D σ H := fun p hp => k p _ hp (Ex.new hp) upd_same
theorem el_rep {ta : TA} {vs : List V} {n : Int} (h : EvA ta σ H vs) (hb : Ev tb σ H (.int n)) (hl : vs.length * n.toNat ≤ 100000) (hv : vs.length ≤ 100000) (hn : -100000 ≤ n ∧ n ≤ 100000) : EvL (tOp rRep (tLst ta) tb) σ H (List.replicate n.toNat vs).flatten := fun H1 e Q q =>
  h H1 e _ fun H2 e2 => ⟨sz_of hv, fun p hp => hb _ ((e.trans e2).trans (Ex.new hp)) _ fun H3 e3 => ⟨p, n, vs, rfl, rfl, e3 _ _ upd_same, by omega, by omega, sz_of hl, fun l hl2 => q l _ (fresh_back ((e2.trans (Ex.new hp)).trans e3) hl2) (((e2.trans (Ex.new hp)).trans e3).trans (Ex.new hl2)) upd_same⟩⟩
theorem q_call {sp : Sp} {dvs vs : List V} {E : XK} {ta : TA} {i : Nat} (h : EvA ta σ H vs) (k : ∀ H1, Ex H H1 → sp (vs ++ dvs) H1 (fun v H2 => tz D (σ.set i (some v)) H2) E) : tSeq (tAsg (tCall sp dvs E ta) (gName i)) tz D σ H := h H (Ex.refl H) _ fun H1 e => k H1 e
theorem s_retCall {sp : Sp} {dvs vs : List V} {E : XK} {ta : TA} (h : EvA ta σ H vs) (k : ∀ H1, Ex H H1 → sp (vs ++ dvs) H1 D.rt E) : tRet (tCall sp dvs E ta) D σ H := h H (Ex.refl H) _ fun H1 e => k H1 e
/-- for k in range(lo, hi), any small bounds -/
theorem q_forRng {ta : TA} {j : Nat} {lo n : Int} {tu : TS} (h : EvA ta σ H [.int lo, .int n]) (hn : -100000 ≤ lo ∧ lo ≤ 100000 ∧ -100000 ≤ n ∧ n ≤ 100000) (Pv : Nat → L2.St → Hp → Prop) (h0 : ∀ H1, Ex H H1 → Pv 0 σ H1)
    (hs : ∀ (i : Nat) σ' H', lo + (i : Int) < n → Pv i σ' H' → tu { D with nx := Pv (i + 1), ct := Pv (i + 1), bk := tz D } (σ'.set j (some (.int (lo + (i : Int))))) H') (hd : ∀ σ' H', Pv (n - lo).toNat σ' H' → tz D σ' H') : tSeq (tFor (iRng2 ta) (gName j) tu) tz D σ H :=
  h H (Ex.refl H) _ fun H1 e => ⟨lo, n, rfl, ⟨by omega, by omega, by omega, by omega⟩, for_range (lo := lo) (n := (n - lo).toNat) Pv (h0 H1 e) (fun i σ' H' hi p => hs i σ' H' (by omega) p) hd⟩
theorem given_eq {α : Type} (xs : List α) (d : α) (p : α → Bool) (g : α → V) : given xs.length (fun i => p (xs.getD i d)) (fun i => g (xs.getD i d)) = (xs.filter p).map g := by
  have e : (List.range xs.length).map (fun i => xs.getD i d) = xs := by
    refine List.ext_getElem (by simp) (fun i h1 h2 => ?_)
    rw [List.getElem_map, List.getElem_range, List.getD_eq_getElem?_getD, List.getElem?_eq_getElem h2]
    rfl
  unfold given
  conv => rhs; rw [← e]
  rw [List.filter_map, List.map_map]
  rfl
end
/-! ### draws: whole numbers below 5040 -/
def Dr (ds : List Int) : Prop := ∀ d ∈ ds, 0 ≤ d ∧ d < 5040
theorem Dr.nil : Dr [] := fun _ h => nomatch h
theorem Dr.app {ds : List Int} {d : Int} (h : Dr ds) (h0 : 0 ≤ d) (h1 : d < 5040) : Dr (ds ++ [d]) := fun e he => by
  rcases List.mem_append.mp he with he | he
  · exact h e he
  · rw [List.mem_singleton.mp he]
    exact ⟨h0, h1⟩
/-- a draw: the k-th one, 0 behind the last -/
def drw (ds : List Int) (k : Nat) : Int := ds.getD k 0
theorem drw_ok {ds : List Int} (h : Dr ds) (k : Nat) : 0 ≤ drw ds k ∧ drw ds k < 5040 := by
  unfold drw
  rw [List.getD_eq_getElem?_getD]
  cases e : ds[k]? with
  | none => exact ⟨Int.le_refl _, by show (0 : Int) < 5040; decide⟩
  | some d => exact h d (List.mem_of_getElem? e)
def spStream (K : PySem.W.Frag) : Sp := fun vs H Q _ => ∃ (a : Addr) (ns : List Int) (m : Nat), vs = [.ref a, .int (m : Int)] ∧ SqL K H a (ns.map V.int) ∧ ns.length ≤ 63 ∧ m ≤ 1000 ∧
  ∀ ds : List Int, Dr ds → ds.length ≤ m + 60 → RetL (ds.map V.int) H Q
def spDraw (K : PySem.W.Frag) : Sp := fun vs H Q _ => ∃ (a : Addr) (ds : List Int) (k : Nat), vs = [.ref a, .int (k : Int)] ∧ SqL K H a (ds.map V.int) ∧ RetV (.int (drw ds k)) H Q
theorem spDraw_v {K : PySem.W.Frag} {H : Hp} {a : Addr} {ds : List Int} {j : Int} {k : Nat} (h : SqL K H a (ds.map V.int)) (e : j = (k : Int)) : SpV (spDraw K) [.ref a, .int j] H (.int (drw ds k)) := fun H1 e1 Q q E =>
  ⟨a, ds, k, by rw [e], ex_l e1 h, fun H2 e2 => q H2 e2⟩
def drI (ds : List Int) (j : Int) : Int := drw ds j.toNat
theorem drI_ok {ds : List Int} (h : Dr ds) (j : Int) : 0 ≤ drI ds j ∧ drI ds j < 5040 := drw_ok h _
theorem spDrawI {K : PySem.W.Frag} {H : Hp} {a : Addr} {ds : List Int} {j : Int} (h : SqL K H a (ds.map V.int)) (e : 0 ≤ j) : SpV (spDraw K) [.ref a, .int j] H (.int (drI ds j)) := spDraw_v h (by omega)
theorem q_stream {K : PySem.W.Frag} {σ : L2.St} {H : Hp} {D : Ends} {tz : TS} {E : XK} {i : Nat} {a : Addr} {ns : List Int} {m : Int} (h0 : σ[0]? = some (some (.ref a))) (hS : SqL K H a (ns.map V.int)) (hn : ns.length ≤ 63) (hm : 0 ≤ m ∧ m ≤ 1000)
    (k : ∀ (ds : List Int) (l : Addr) (H1 : Hp), Dr ds → (ds.length : Int) ≤ m + 60 → H l = none → Ex H H1 → H1 l = some (.lst (ds.map V.int)) → tz D (σ.set i (some (.ref l))) H1) :
    tSeq (tAsg (tCall (spStream K) [] E (tCons (tVar 0) (tCons (tC (.int m)) tNil))) (gName i)) tz D σ H :=
  ⟨.ref a, h0, a, ns, m.toNat, by rw [show ((m.toNat : Nat) : Int) = m by omega]; rfl, hS, hn, by omega, fun ds hD hl l H1 n e h => k ds l H1 hD (by omega) n e h⟩

/-! ### a def of the text, its place and how it is called; the law's own end -/
structure Df (K : PySem.W.Frag) (mg : Str → Option Value) (x : Str) (st : Stmt) (ps : List Str) (f : Addr) (fd : FuncData) : Prop where
  F : Fun K x x st f fd
  b : Binds K fd ps []
  g : mg x = some (.ref f)
theorem df_mk {K : PySem.W.Frag} {mg : Str → Option Value} {h : Heap} (X : K.In h) (G : h.Ns mainGlobals mg) {x : Str} {st : Stmt} {ps : List Str} {f : Addr} {oc : Value} {od an : Option Addr} {sl : Array (Option Value)} {kV dc pm cd ct : Value}
    (a : PySem.W.nsIn K mainGlobals x = some (some (.ref f))) (l : K.lookup f = some ⟨oc, od, .func (PySem.W.fnOf x x (defArgs st) (defBody st) (defScope st) .none kV dc pm an cd ct), sl⟩) (c : PySem.W.codeIn K cd x = true) (k : PySem.W.keepIn K (.ref f) = true)
    (hb : ∀ (kV doc pm : Value) (an : Option Addr) (cdv ct : Value) (us : List Value), us.length = ps.length → bindArgs (PySem.W.fnOf x x (defArgs st) (defBody st) (defScope st) .none kV doc pm an cdv ct) ⟨us, []⟩ = pure (ps.zip us)) :
    ∃ f fd, Df K mg x st ps f fd := ⟨_, _, fun_mk l c k, (fun_mk l c k).binds hb, PySem.W.mg_of X G a⟩
theorem law_mk {K : PySem.W.Frag} {mg : Str → Option Value} {h : Heap} (X : K.In h) (G : h.Ns mainGlobals mg) {st : Stmt} {fa f : Addr} {oc : Value} {od an : Option Addr} {sl : Array (Option Value)} {kV dc pm cd ct : Value} (hfa : mg "law" = some (.ref fa))
    (a : PySem.W.nsIn K mainGlobals "law" = some (some (.ref f))) (l : K.lookup f = some ⟨oc, od, .func (PySem.W.fnOf "law" "law" (defArgs st) (defBody st) (defScope st) .none kV dc pm an cd ct), sl⟩) (c : PySem.W.codeIn K cd "law" = true) (k : PySem.W.keepIn K (.ref f) = true)
    (hb : ∀ (kV doc pm : Value) (an : Option Addr) (cdv ct : Value) (s : Shared) (v : Value), BindsTo s (PySem.W.fnOf "law" "law" (defArgs st) (defBody st) (defScope st) .none kV doc pm an cdv ct) ⟨[v], []⟩ [("script", v)]) :
    ∃ fd, (∀ (s : Shared) (v : Value), BindsTo s fd ⟨[v], []⟩ [("script", v)]) ∧ Fun K "law" "law" st fa fd := by
  have e := hfa.symm.trans (PySem.W.mg_of X G a)
  cases e
  exact ⟨_, fun s v => hb kV dc pm an cd ct s v, fun_mk l c k⟩
def spLaw (K : PySem.W.Frag) : Sp := fun vs H Q _ => ∃ (a : Addr) (ns : List Int), vs = [.ref a] ∧ SqL K H a (ns.map V.int) ∧ ns.length ≤ 63 ∧ ∀ H', Q (.bl true) H'
end Ap

set_option Elab.async false
set_option linter.all false
set_option maxRecDepth 100000
set_option maxHeartbeats 4000000
namespace Ap
open PySem PySem.Spec PyProof.Rows L2 Evl
local macro_rules | `(tactic| walk_at "ev") => `(tactic| (repeat' (first
  | (with_reducible first
    | exact ev_c
    | refine' ev_var ?_
    | exact ea_nil
    | refine' ea_cons ?_ ?_
    | refine' ev_op ?_ ?_ ?_
    | refine' ev_chain ?_ ?_ ?_ ?_ ?_
    | refine' ev_un ?_ ?_
    | exact rv_I0
    | refine' rv_I ?_
    | refine' ev_cb ?_ ?_
    | refine' ev_call ?_ ?_
    | exact rc_int
    | exact ru_neg
    | refine' et_test ?_
    | refine' et_B ?_)
  | ((with_reducible show _ = _); rfl)
  | ((with_reducible show SqL _ _ _ _); assumption)
  | ((with_reducible show SqT _ _ _ _); assumption)
  | ((with_reducible show CPow _ _); exact ⟨by decide, by decide, by decide⟩)
  | ((with_reducible show CDiv _ _); exact ⟨by decide, by decide⟩)
  | ((with_reducible show CMul _ _); first | exact .inr (by decide) | exact .inl (by decide))
  | ((with_reducible show SpV (spDraw _) _ _ _); refine' spDrawI ?_ ?_)
  | ((with_reducible show RC _ _ _ _); refine' rc_len ?_)
  | ((with_reducible show RV _ _ _ _ _); first | exact rv_eq rfl | exact rv_ne rfl)
  | ((with_reducible show _ ≤ _); first | decide | omega)
  | ((with_reducible show _ < _); first | decide | omega)
  | decide)))

def topS (i : Nat) : Stmt := PySem.Challenge.pw_appendhall_k22_commit_point.main.body.getD i (.Pass ⟨0, 0, 0, 0⟩)
abbrev s_majority : Stmt := topS 1
abbrev N_majority : List Str := ["count"]
theorem sc_majority : FnScope N_majority ["count"] (defScope s_majority) := ⟨rfl, rfl, rfl, by decide +kernel, rfl, by decide +kernel, by decide +kernel⟩
abbrev s_commit_point : Stmt := topS 2
abbrev N_commit_point : List Str := ["matched", "count", "lengths", "journal", "needed"]
theorem sc_commit_point : FnScope N_commit_point ["matched", "count"] (defScope s_commit_point) := ⟨rfl, rfl, rfl, by decide +kernel, rfl, by decide +kernel, by decide +kernel⟩
abbrev s__law_stream : Stmt := topS 4
abbrev N__law_stream : List Str := ["script", "many", "draws", "cell", "rest", "k", "mixed"]
theorem sc__law_stream : FnScope N__law_stream ["script", "many"] (defScope s__law_stream) := ⟨rfl, rfl, rfl, by decide +kernel, rfl, by decide +kernel, by decide +kernel⟩
abbrev s__law_draw : Stmt := topS 5
abbrev N__law_draw : List Str := ["draws", "k"]
theorem sc__law_draw : FnScope N__law_draw ["draws", "k"] (defScope s__law_draw) := ⟨rfl, rfl, rfl, by decide +kernel, rfl, by decide +kernel, by decide +kernel⟩
abbrev s__law_reached : Stmt := topS 6
abbrev N__law_reached : List Str := ["lengths", "number", "length"]
theorem sc__law_reached : FnScope N__law_reached ["lengths", "number"] (defScope s__law_reached) := ⟨rfl, rfl, rfl, by decide +kernel, rfl, by decide +kernel, by decide +kernel⟩
abbrev s_law : Stmt := topS 7
abbrev N_law : List Str := ["script", "draws", "count", "matched", "lengths", "k", "draw", "length", "handed", "point"]
theorem sc_law : FnScope N_law ["script"] (defScope s_law) := ⟨rfl, rfl, rfl, by decide +kernel, rfl, by decide +kernel, by decide +kernel⟩
/-! ### the mathematics of the commit point -/
def ge (t : Int) (l : List Int) : Nat := (l.filter fun x => decide (t ≤ x)).length
theorem ge_nil (t : Int) : ge t [] = 0 := rfl
theorem ge_cons (t x : Int) (r : List Int) : ge t (x :: r) = ge t r + (if t ≤ x then 1 else 0) := by
  unfold ge
  rw [List.filter_cons]
  by_cases h : t ≤ x
  · rw [if_pos h, if_pos (by exact decide_eq_true h)]
    rfl
  · rw [if_neg h, if_neg (by rw [decide_eq_false h]; decide)]
    rfl
theorem ge_app (t : Int) : ∀ a b : List Int, ge t (a ++ b) = ge t a + ge t b
  | [], b => by rw [List.nil_append, ge_nil, Nat.zero_add]
  | x :: r, b => by rw [List.cons_append, ge_cons, ge_cons, ge_app t r b]; omega
theorem ge_le (t : Int) (l : List Int) : ge t l ≤ l.length := List.length_filter_le _ _
theorem ge_all (t : Int) : ∀ l : List Int, (∀ x ∈ l, t ≤ x) → ge t l = l.length
  | [], _ => rfl
  | x :: r, h => by rw [ge_cons, if_pos (h x List.mem_cons_self), ge_all t r (fun y hy => h y (List.mem_cons_of_mem _ hy)), List.length_cons]
theorem ge_none (t : Int) : ∀ l : List Int, (∀ x ∈ l, x < t) → ge t l = 0
  | [], _ => rfl
  | x :: r, h => by rw [ge_cons, if_neg (by have := h x List.mem_cons_self; omega), ge_none t r (fun y hy => h y (List.mem_cons_of_mem _ hy))]
theorem ge_perm (t : Int) {a b : List Int} (h : a.Perm b) : ge t a = ge t b := (h.filter _).length_eq
theorem ge_set (t : Int) (h1 : 1 ≤ t) (v : Int) : ∀ (l : List Int) (j : Nat), l[j]? = some 0 → ge t (l.set j v) = ge t l + (if t ≤ v then 1 else 0)
  | [], j, h => by simp at h
  | x :: r, 0, h => by
    have e : x = 0 := by simpa using h
    rw [List.set_cons_zero, ge_cons, ge_cons, e, if_neg (show ¬ t ≤ 0 by omega)]
    omega
  | x :: r, j + 1, h => by
    rw [List.set_cons_succ, ge_cons, ge_cons, ge_set t h1 v r j (by simpa using h)]
    omega
/-- in a falling list the item at j: at least j + 1 reach it, at most j go beyond it -/
theorem ge_desc : ∀ (l : List Int) (j : Nat) (c : Int), l.Pairwise (· ≥ ·) → l[j]? = some c → j + 1 ≤ ge c l ∧ ge (c + 1) l ≤ j
  | [], j, c, _, h => by simp at h
  | x :: r, 0, c, hp, h => by
    have e : x = c := by simpa using h
    subst e
    have hr := (List.pairwise_cons.mp hp).1
    rw [ge_cons, ge_cons, if_pos (Int.le_refl _), if_neg (by omega), ge_none (x + 1) r (fun y hy => by have := hr y hy; omega)]
    omega
  | x :: r, j + 1, c, hp, h => by
    have hr := List.pairwise_cons.mp hp
    have ih := ge_desc r j c hr.2 (by simpa using h)
    have hm : c ∈ r := List.mem_of_getElem? (by simpa using h)
    have hx := hr.1 c hm
    rw [ge_cons, ge_cons, if_pos (by omega)]
    by_cases q : c + 1 ≤ x
    · rw [if_pos q]; omega
    · rw [if_neg q]; omega
abbrev PI2 := List (Int × Int)
def kvI (ps : PI2) : List (Key × V) := ps.map fun p => ((Sum.inl p.1 : Key), V.int p.2)
def inR (n : Int) (ps : PI2) : List Int := (ps.filter fun p => decide (0 ≤ p.1) && decide (p.1 < n)).map (·.2)
theorem kvI_len (ps : PI2) : (kvI ps).length = ps.length := List.length_map _
theorem kvI_app (a b : PI2) : kvI (a ++ b) = kvI a ++ kvI b := List.map_append
theorem kvI_at {ps : PI2} {i : Nat} {k : Key} {x : V} (h : (kvI ps)[i]? = some (k, x)) : ∃ p, ps[i]? = some p ∧ k = Sum.inl p.1 ∧ x = V.int p.2 := by
  unfold kvI at h
  rw [List.getElem?_map] at h
  cases e : ps[i]? with
  | none => rw [e] at h; cases h
  | some p =>
    rw [e] at h
    have q := Option.some.inj h
    exact ⟨p, rfl, (congrArg Prod.fst q).symm, (congrArg Prod.snd q).symm⟩
theorem kvI_none (k : Int) : ∀ ps : PI2, (∀ p ∈ ps, p.1 ≠ k) → valV (kvI ps) (Sum.inl k) = none
  | [], _ => rfl
  | p :: r, h => by
    show valV ((Sum.inl p.1, V.int p.2) :: kvI r) (Sum.inl k : Key) = none
    rw [valV_neg (fun e => h p List.mem_cons_self (Sum.inl.inj e))]
    exact kvI_none k r fun q hq => h q (List.mem_cons_of_mem _ hq)
theorem kvI_some : ∀ (ps : PI2) (i : Nat) (p : Int × Int), (ps.map (·.1)).Nodup → ps[i]? = some p → valV (kvI ps) (Sum.inl p.1) = some (V.int p.2)
  | [], i, p, _, h => by simp at h
  | q :: r, 0, p, _, h => by
    have e : q = p := by simpa using h
    subst e
    exact valV_pos (p := ((Sum.inl q.1 : Key), V.int q.2)) rfl
  | q :: r, i + 1, p, hn, h => by
    have h' : r[i]? = some p := by simpa using h
    have hn' := List.nodup_cons.mp hn
    have hne : ¬ (Sum.inl q.1 : Key) = Sum.inl p.1 := fun e => hn'.1 (by
      show q.1 ∈ _
      rw [Sum.inl.inj e]
      exact List.mem_map.mpr ⟨p, List.mem_of_getElem? h', rfl⟩)
    show valV ((Sum.inl q.1, V.int q.2) :: kvI r) (Sum.inl p.1 : Key) = _
    rw [valV_neg hne]
    exact kvI_some r i p hn'.2 h'
theorem inR_app (n : Int) (a b : PI2) : inR n (a ++ b) = inR n a ++ inR n b := by
  unfold inR
  rw [List.filter_append, List.map_append]
theorem inR_in {n k v : Int} (h0 : 0 ≤ k) (h1 : k < n) : inR n [(k, v)] = [v] := by
  unfold inR
  simp [h0, h1]
theorem inR_out {n k v : Int} (h : ¬ (0 ≤ k ∧ k < n)) : inR n [(k, v)] = [] := by
  unfold inR
  by_cases h0 : 0 ≤ k
  · have : ¬ k < n := fun z => h ⟨h0, z⟩
    simp [h0, this]
  · simp [h0]
/-- the commit point, told by what it is -/
def CP (ps : PI2) (n c : Int) : Prop :=
  (((inR n ps).length : Int) < n / 2 + 1 ∧ c = 0) ∨ (n / 2 + 1 ≤ ((inR n ps).length : Int) ∧ ∃ ns' : List Int, ns'.Perm (inR n ps) ∧ ns'.Pairwise (· ≥ ·) ∧ ns'[(n / 2).toNat]? = some c)
/-- what the loop over the journals keeps -/
structure Inv22 (ps : PI2) (L : List Int) (i : Nat) (n : Int) : Prop where
  sz : ps.length ≤ i
  ks : ∀ p ∈ ps, p.1 < (i : Int) - 1 ∧ 0 ≤ p.2
  nd : (ps.map (·.1)).Nodup
  ln : (L.length : Int) = n
  zs : ∀ j : Nat, (j : Int) < n → (i : Int) - 1 ≤ j → L[j]? = some 0
  nn : ∀ x ∈ L, 0 ≤ x
  ct : ∀ t : Int, 1 ≤ t → ge t L = ge t (inR n ps)
  ir : ∀ x ∈ inR n ps, 0 ≤ x
theorem Inv22.start {n : Int} (h : 0 ≤ n) : Inv22 [] (List.replicate n.toNat 0) 0 n where
  sz := Nat.le_refl _
  ks := fun p hp => nomatch hp
  nd := List.nodup_nil
  ln := by rw [List.length_replicate]; omega
  zs := fun j hj _ => by rw [List.getElem?_replicate, if_pos (by omega)]
  nn := fun x hx => by rw [(List.mem_replicate.mp hx).2]; exact Int.le_refl _
  ct := fun t ht => ge_none t _ fun x hx => by rw [(List.mem_replicate.mp hx).2]; omega
  ir := fun x hx => nomatch hx
theorem Inv22.skip {ps : PI2} {L : List Int} {i : Nat} {n : Int} (h : Inv22 ps L i n) : Inv22 ps L (i + 1) n :=
  ⟨Nat.le_succ_of_le h.sz, fun p hp => ⟨by have := (h.ks p hp).1; omega, (h.ks p hp).2⟩, h.nd, h.ln, fun j h1 h2 => h.zs j h1 (by omega), h.nn, h.ct, h.ir⟩
theorem Inv22.nd' {ps : PI2} {L : List Int} {i : Nat} {n : Int} (h : Inv22 ps L i n) (v : Int) : ((ps ++ [((i : Int) - 1, v)]).map (·.1)).Nodup := by
  rw [List.map_append, List.nodup_append]
  refine ⟨h.nd, by simp, fun a ha b hb => ?_⟩
  obtain ⟨p, hp, rfl⟩ := List.mem_map.mp ha
  have e : b = (i : Int) - 1 := by simpa using hb
  have := (h.ks p hp).1
  omega
theorem Inv22.out {ps : PI2} {L : List Int} {i : Nat} {n v : Int} (h : Inv22 ps L i n) (hv : 0 ≤ v) (hk : ¬ (0 ≤ (i : Int) - 1 ∧ (i : Int) - 1 < n)) : Inv22 (ps ++ [((i : Int) - 1, v)]) L (i + 1) n := by
  have e : inR n (ps ++ [((i : Int) - 1, v)]) = inR n ps := by rw [inR_app, inR_out hk, List.append_nil]
  refine ⟨by rw [List.length_append, List.length_singleton]; have := h.sz; omega, fun p hp => ?_, h.nd' v, h.ln, fun j h1 h2 => h.zs j h1 (by omega), h.nn, fun t ht => by rw [e]; exact h.ct t ht, by rw [e]; exact h.ir⟩
  rcases List.mem_append.mp hp with q | q
  · exact ⟨by have := (h.ks p q).1; omega, (h.ks p q).2⟩
  · rw [List.mem_singleton.mp q]; exact ⟨by show (i : Int) - 1 < _; omega, hv⟩
theorem Inv22.into {ps : PI2} {L : List Int} {i : Nat} {n v : Int} (h : Inv22 ps L i n) (hv : 0 ≤ v) (h0 : 0 ≤ (i : Int) - 1) (h1 : (i : Int) - 1 < n) : Inv22 (ps ++ [((i : Int) - 1, v)]) (L.set (i - 1) v) (i + 1) n := by
  have e : inR n (ps ++ [((i : Int) - 1, v)]) = inR n ps ++ [v] := by rw [inR_app, inR_in h0 h1]
  have hz := h.zs (i - 1) (by omega) (by omega)
  refine ⟨by rw [List.length_append, List.length_singleton]; have := h.sz; omega, fun p hp => ?_, h.nd' v, by rw [List.length_set]; exact h.ln, fun j h2 h3 => ?_, fun x hx => ?_, fun t ht => ?_, fun x hx => ?_⟩
  · rcases List.mem_append.mp hp with q | q
    · exact ⟨by have := (h.ks p q).1; omega, (h.ks p q).2⟩
    · rw [List.mem_singleton.mp q]; exact ⟨by show (i : Int) - 1 < _; omega, hv⟩
  · rw [List.getElem?_set_ne (by omega)]
    exact h.zs j h2 (by omega)
  · rcases List.mem_or_eq_of_mem_set hx with q | q
    · exact h.nn x q
    · rw [q]; exact hv
  · rw [e, ge_app, ge_set t ht v L (i - 1) hz, h.ct t ht, ge_cons, ge_nil, Nat.zero_add]
  · rw [e] at hx
    rcases List.mem_append.mp hx with q | q
    · exact h.ir x q
    · rw [List.mem_singleton.mp q]; exact hv
theorem cp_nn {ps : PI2} {L : List Int} {i : Nat} {n c : Int} (h : Inv22 ps L i n) (hc : CP ps n c) : 0 ≤ c := by
  rcases hc with ⟨_, e⟩ | ⟨_, ns', hp, _, he⟩
  · omega
  · exact h.ir c (hp.mem_iff.mp (List.mem_of_getElem? he))
theorem cp_yes {ps : PI2} {L : List Int} {i : Nat} {n c : Int} (h : Inv22 ps L i n) (hn : 1 ≤ n) (hc : CP ps n c) : ¬ 2 * (ge c L : Int) ≤ n := by
  have hl := h.ln
  rcases hc with ⟨_, e⟩ | ⟨h1, ns', hp, hd, he⟩
  · rw [e, ge_all 0 L h.nn]; omega
  · by_cases h0 : 1 ≤ c
    · have q := (ge_desc ns' _ c hd he).1
      rw [ge_perm c hp, ← h.ct c h0] at q
      omega
    · rw [ge_all c L (fun x hx => by have := h.nn x hx; omega)]; omega
theorem cp_no {ps : PI2} {L : List Int} {i : Nat} {n c : Int} (h : Inv22 ps L i n) (hn : 1 ≤ n) (hc : CP ps n c) : 2 * (ge (c + 1) L : Int) ≤ n := by
  have h0 := cp_nn h hc
  rcases hc with ⟨h1, e⟩ | ⟨h1, ns', hp, hd, he⟩
  · rw [h.ct (c + 1) (by omega)]
    have := ge_le (c + 1) (inR n ps)
    omega
  · have q := (ge_desc ns' _ c hd he).2
    rw [ge_perm (c + 1) hp, ← h.ct (c + 1) (by omega)] at q
    omega
theorem repl_flat (n : Nat) : (List.replicate n [V.int 0]).flatten = (List.replicate n (0 : Int)).map V.int := by
  induction n with
  | zero => rfl
  | succ k ih => rw [List.replicate_succ, List.flatten_cons, ih, List.replicate_succ, List.map_cons]; rfl

section
variable {P : Program} {w : World} {K : PySem.W.Frag} {mg : Str → Option Value} {base : Heap}
structure Glo (mg : Str → Option Value) : Prop where
  len : mg "len" = none
  int : mg "int" = none
  range : mg "range" = none
  sorted : mg "sorted" = none
  isinstance : mg "isinstance" = none
  bool : mg "bool" = none
theorem ok_draw {f : Addr} {fd : FuncData} {k : Nat} (F : Fun K "_law_draw" "_law_draw" s__law_draw f fd) (T : Glo mg) : FnOk P w K mg base CX0 (k + 1) f fd ["draws", "k"] (spDraw K) := by
  refine F.ok sc__law_draw (fun vs H Q E h => ?_) (fun cdv A outer s H vs Q E hr h => ?_)
  · obtain ⟨a, ds, k, rfl, _⟩ := h
    rfl
  · obtain ⟨a, ds, k, rfl, hS, q⟩ := h
    refine ⟨_, (pss_cons (ps_if (pt_cmpR op_lt (pv 1) (pe_callB call_len_seq (by rfl) T.len PySem.boot_len (pa_cons (pv 0) pa_nil)) (nomark _))
  (pss_one (ps_ret (pe_ix ix_list (pv 0) (pv 1) (fun _ _ => rfl))))
  pss_nil)
  (pss_one (ps_ret pe_int))), ?_⟩
    refine' q_when ?c (fun hb H1 e1 => ?_) (fun hb H1 e1 => ?_)
    case c => walk_at "ev"
    · have hb := of_decide_eq_true hb
      rw [List.length_map] at hb
      have hk : k < ds.length := by omega
      refine s_ret (v := .int (drw ds k)) (ev_op (ev_var rfl) (ev_var rfl) (rv_ixL (ex_l e1 hS) ?_)) fun H2 e2 => q _ (e1.trans e2)
      have e0 : (ds.map V.int)[k]? = some (.int (drw ds k)) := by
        rw [List.getElem?_map, List.getElem?_eq_getElem hk]
        unfold drw
        rw [List.getD_eq_getElem?_getD, List.getElem?_eq_getElem hk]
        rfl
      exact atI_nat e0
    · have hb := of_decide_eq_false hb
      rw [List.length_map] at hb
      refine s_ret ev_c fun H2 e2 => ?_
      have e0 : drw ds k = 0 := by
        unfold drw
        rw [List.getD_eq_getElem?_getD, List.getElem?_eq_none (by omega)]
        rfl
      rw [← e0]
      exact q _ (e1.trans e2)


/-! the draws' list: what stands between two turns -/
def DW (H0 : Hp) (l : Addr) (m : Nat) (H' : Hp) : Prop := H0 l = none ∧ Ex H0 H' ∧ ∃ ds : List Int, H' l = some (.lst (ds.map V.int)) ∧ Dr ds ∧ ds.length ≤ m
theorem pow18 : (10 : Int) ^ (18 : Int).toNat = 1000000000000000000 := by decide
theorem DW.app {H0 H1 H2 : Hp} {l : Addr} {m : Nat} {ds : List Int} {d : Int} (n : H0 l = none) (e : Ex H0 H1) (D : Dr ds) (hl : ds.length ≤ m) (h0 : 0 ≤ d) (h1 : d < 5040) (e2 : Ex H1 H2) : DW H0 l (m + 1) (upd H2 l (.lst (ds.map V.int ++ [V.int d]))) :=
  ⟨n, Ex.mut (e.trans e2) n, ds ++ [d], by rw [upd_same, List.map_append]; rfl, D.app h0 h1, by rw [List.length_append, List.length_singleton]; omega⟩
theorem ok_stream {f : Addr} {fd : FuncData} {k : Nat} (F : Fun K "_law_stream" "_law_stream" s__law_stream f fd) (T : Glo mg) : FnOk P w K mg base CX0 (k + 1) f fd ["script", "many"] (spStream K) := by
  refine F.ok sc__law_stream (fun vs H Q E h => ?_) (fun cdv A outer s H vs Q E hr h => ?_)
  · obtain ⟨a, ns, m, rfl, _⟩ := h
    rfl
  · obtain ⟨a, ns, m, rfl, hS, hn, hm, q⟩ := h
    refine ⟨_, (pss_cons (ps_set (i := 2) sc__law_stream.nd rfl (.inl rfl) (pe_lst pa_nil))
  (pss_cons (ps_for PassesOwn.never rfl (pi_list (pv 0)) (pg_name (i := 3) sc__law_stream.nd rfl (.inl rfl))
  (pss_cons (ps_if (pt_cmpR op_ge (pe_callB call_len_seq (by rfl) T.len PySem.boot_len (pa_cons (pv 2) pa_nil)) (pv 1) (nomark _))
  (pss_one ps_break)
  pss_nil)
  (pss_one (ps_if (pt_cmpR op_ge (pv 3) (pe_op op_pow pe_int pe_int) (nomark _))
  (pss_cons (ps_set (i := 4) sc__law_stream.nd rfl (.inl rfl) (pv 3))
  (pss_one (ps_for PassesOwn.never rfl (pi_range1 (by rfl) T.range (pa_cons pe_int pa_nil)) (pg_name (i := 5) sc__law_stream.nd rfl (.inl rfl))
  (pss_one (ps_if (pt_cmpR op_gt (pv 4) pe_int (nomark _))
  (pss_cons (ps_expr (pe_bm PySem.F.plainAttrs_list PySem.F.slot_list_append PySem.F.type_list_append mt_append (pv 2) (pa_cons (pe_op op_mod (pe_callTy call_int1 (by rfl) T.int (by decide +kernel) (pa_cons (pv 4) pa_nil)) pe_int) pa_nil)))
  (pss_one (ps_set (i := 4) sc__law_stream.nd rfl (.inl rfl) (pe_op op_fdiv (pv 4) pe_int))))
  pss_nil)))))
  (pss_cons (ps_set (i := 6) sc__law_stream.nd rfl (.inl rfl) (pe_op op_mod (pe_callTy call_int1 (by rfl) T.int (by decide +kernel) (pa_cons (pe_op op_add (pe_op op_add (pe_op op_mul (pv 3) pe_int) (pe_op op_mul (pe_callB call_len_seq (by rfl) T.len PySem.boot_len (pa_cons (pv 2) pa_nil)) pe_int)) pe_int) pa_nil)) pe_int))
  (pss_one (ps_for PassesOwn.never rfl (pi_range1 (by rfl) T.range (pa_cons pe_int pa_nil)) (pg_name (i := 5) sc__law_stream.nd rfl (.inl rfl))
  (pss_cons (ps_set (i := 6) sc__law_stream.nd rfl (.inl rfl) (pe_op op_mod (pe_callTy call_int1 (by rfl) T.int (by decide +kernel) (pa_cons (pe_op op_add (pe_op op_add (pe_op op_mul (pv 6) pe_int) (pe_op op_mul pe_int (pv 5))) pe_int) pa_nil)) pe_int))
  (pss_one (ps_expr (pe_bm PySem.F.plainAttrs_list PySem.F.slot_list_append PySem.F.type_list_append mt_append (pv 2) (pa_cons (pe_op op_mod (pe_callTy call_int1 (by rfl) T.int (by decide +kernel) (pa_cons (pe_op op_fdiv (pv 6) pe_int) pa_nil)) pe_int) pa_nil))))))))))))
  (pss_one (ps_ret (pv 2))))), ?_⟩
    refine' q_asgL (xs := []) (el_lst ea_nil (by decide)) (fun l H1 nl e1 h1 => ?_)
    have hS1 : SqL K H1 a (ns.map V.int) := ex_l e1 hS
    refine' q_forLn (a := a) (xs := ns.map V.int) (ev_var rfl) hS1 (fun i σ' H' => ∃ y3 y4 y5 y6, σ' = [some (.ref a), some (.int (m : Int)), some (.ref l), y3, y4, y5, y6] ∧ DW H l (m + 60) H') (fun H2 e2 => ?_) (fun i σ' H' _ p => ?_) (fun i x σ' H' hx p => ?_) (fun σ' H' p => ?_)
    · exact ⟨none, none, none, none, rfl, nl, e1.trans e2, [], e2 l _ h1, Dr.nil, Nat.zero_le _⟩
    · obtain ⟨_, _, _, _, _, _, e, _⟩ := p
      exact ex_l e hS
    · obtain ⟨y3, y4, y5, y6, rfl, n, e, ds, hd, D, hl⟩ := p
      obtain ⟨c, rfl⟩ : ∃ c, x = V.int c := by
        rw [List.getElem?_map] at hx
        cases h : ns[i]? with
        | none => rw [h] at hx; cases hx
        | some c => rw [h] at hx; exact ⟨c, (Option.some.inj hx).symm⟩
      have hL : SqL K H' l (ds.map V.int) := sq_of hd
      refine' q_when ?c (fun hb H2 e2 => ?_) (fun hb H2 e2 => ?_)
      case c => walk_at "ev"
      · -- break
        refine s_ret (ev_var rfl) fun H3 e3 => ?_
        exact q ds D hl l H3 n ((e.trans e2).trans e3) (e3 l _ (e2 l _ hd))
      · have hb := of_decide_eq_false hb
        rw [List.length_map] at hb
        have hlt : ds.length < m := by omega
        have hd2 := e2 l _ hd
        have E2 := e.trans e2
        refine' s_if ?c (fun hc H3 e3 => ?_) (fun hc H3 e3 => ?_)
        case c => walk_at "ev"
        · -- a great one
          refine' q_asg (ev_var rfl) (fun H4 e4 => ?_)
          refine' s_forR1 (n := 60) (ea_cons ev_c ea_nil) (by decide) (fun i σ' H' => ∃ (r : Int) (y5 : Option V), σ' = [some (.ref a), some (.int (m : Int)), some (.ref l), some (.int c), some (.int r), y5, y6] ∧ DW H l (m + i) H') (fun H5 e5 => ⟨c, _, rfl, n, ((E2.trans e3).trans e4).trans e5, ds, e5 l _ (e4 l _ (e3 l _ hd2)), D, by omega⟩) (fun i σ' H' hi p => ?_) (fun σ' H' p => ?_)
          · obtain ⟨r, z5, rfl, n', e', ds', hd', D', hl'⟩ := p
            have hL' : SqL K H' l (ds'.map V.int) := sq_of hd'
            refine' s_when ?c (fun hb H6 e6 => ?_) (fun hb H6 e6 => ?_)
            case c => walk_at "ev"
            · refine' q_app (l := l) (xs := ds'.map V.int) (v := .int (r % 5040)) (e6 l _ hd') (ev_var rfl) ?c (by rw [List.length_map]; omega) (fun H7 e7 => ?_)
              case c => walk_at "ev"
              refine' s_asg (v := .int (r / 5040)) ?c (fun H8 e8 => ?_)
              case c => exact ev_op (ev_var rfl) ev_c (rv_I ⟨by decide, by decide⟩)
              obtain ⟨_, k2, k3⟩ := DW.app n' (e'.trans e6) D' hl' (Int.emod_nonneg r (by decide)) (Int.emod_lt_of_pos r (by decide)) e7
              obtain ⟨ds8, k4, k5, k6⟩ := k3
              exact ⟨r / 5040, _, rfl, n', k2.trans e8, ds8, e8 l _ k4, k5, k6⟩
            · exact ⟨r, _, rfl, n', e'.trans e6, ds', e6 l _ hd', D', by omega⟩
          · obtain ⟨r, z5, rfl, w⟩ := p
            exact ⟨_, _, _, _, rfl, w⟩
        · -- a plain one
          refine' q_asg ?c (fun H4 e4 => ?_)
          case c =>
            have hL3 : SqL K H3 l (ds.map V.int) := sq_of (e3 l _ hd2)
            refine' ev_op (ev_cb (ea_cons (ev_op (ev_op (ev_op (ev_var rfl) ev_c (rv_I (.inr (by decide)))) (ev_op (ev_cb (ea_cons (ev_var rfl) ea_nil) (rc_len hL3)) ev_c (rv_I (.inr (by decide)))) rv_I0) ev_c rv_I0) ea_nil) rc_int) ev_c (rv_I (by decide))
          refine' s_forR1 (n := 4) (ea_cons ev_c ea_nil) (by decide) (fun i σ' H' => ∃ (r : Int) (y5 : Option V), σ' = [some (.ref a), some (.int (m : Int)), some (.ref l), some (.int c), y4, y5, some (.int r)] ∧ DW H l (m + i) H') (fun H5 e5 => ⟨_, _, rfl, n, ((E2.trans e3).trans e4).trans e5, ds, e5 l _ (e4 l _ (e3 l _ hd2)), D, by omega⟩) (fun i σ' H' hi p => ?_) (fun σ' H' p => ?_)
          · obtain ⟨r, z5, rfl, n', e', ds', hd', D', hl'⟩ := p
            refine' q_asg ?c (fun H6 e6 => ?_)
            case c =>
              refine' ev_op (ev_cb (ea_cons (ev_op (ev_op (ev_op (ev_var rfl) ev_c (rv_I (.inr (by decide)))) (ev_op ev_c (ev_var rfl) (rv_I (.inl (by decide)))) rv_I0) ev_c rv_I0) ea_nil) rc_int) ev_c (rv_I (by decide))
            refine' s_app (l := l) (xs := ds'.map V.int) (e6 l _ hd') (ev_var rfl) ?c (by rw [List.length_map]; omega) (fun H7 e7 => ?_)
            case c =>
              refine' ev_op (ev_cb (ea_cons (ev_op (ev_var rfl) ev_c (rv_I ⟨by decide, by decide⟩)) ea_nil) rc_int) ev_c (rv_I (by decide))
            exact ⟨_, _, rfl, DW.app n' (e'.trans e6) D' hl' (Int.emod_nonneg _ (by decide)) (Int.emod_lt_of_pos _ (by decide)) e7⟩
          · obtain ⟨r, z5, rfl, n', e', ds', hd', D', hl'⟩ := p
            exact ⟨_, _, _, _, rfl, n', e', ds', hd', D', by have : (4 : Int).toNat = 4 := rfl; omega⟩
    · obtain ⟨y3, y4, y5, y6, rfl, n, e, ds, hd, D, hl⟩ := p
      refine s_ret (ev_var rfl) fun H3 e3 => ?_
      exact q ds D hl l H3 n (e.trans e3) (e3 l _ hd)

def spMaj : Sp := fun vs H Q _ => ∃ n : Int, vs = [.int n] ∧ RetV (.int (n / 2 + 1)) H Q
theorem ok_majority {f : Addr} {fd : FuncData} (F : Fun K "majority" "majority" s_majority f fd) : FnOk P w K mg base CX0 1 f fd ["count"] spMaj := by
  refine F.ok sc_majority (fun vs H Q E h => ?_) (fun cdv A outer s H vs Q E hr h => ?_)
  · obtain ⟨n, rfl, _⟩ := h
    rfl
  · obtain ⟨n, rfl, q⟩ := h
    refine ⟨_, (pss_one (ps_ret (pe_op op_add (pe_op op_fdiv (pv 0) pe_int) pe_int))), ?_⟩
    refine' s_ret ?c (fun H1 e1 => q H1 e1)
    case c => walk_at "ev"
theorem spMaj_v {H : Hp} {n : Int} : SpV spMaj [.int n] H (.int (n / 2 + 1)) := fun H1 _ Q q _ => ⟨n, rfl, fun H2 e2 => q H2 e2⟩
def spReached (K : PySem.W.Frag) : Sp := fun vs H Q _ => ∃ (a : Addr) (L : List Int) (t : Int), vs = [.ref a, .int t] ∧ SqL K H a (L.map V.int) ∧ L.length ≤ 1000 ∧ RetV (.int (ge t L : Nat)) H Q
theorem ok_reached {f : Addr} {fd : FuncData} (F : Fun K "_law_reached" "_law_reached" s__law_reached f fd) (T : Glo mg) : FnOk P w K mg base CX0 1 f fd ["lengths", "number"] (spReached K) := by
  refine F.ok sc__law_reached (fun vs H Q E h => ?_) (fun cdv A outer s H vs Q E hr h => ?_)
  · obtain ⟨a, L, t, rfl, _⟩ := h
    rfl
  · obtain ⟨a, L, t, rfl, hS, hl, q⟩ := h
    refine ⟨_, (pss_one (ps_ret (pe_callB call_len_seq (by rfl) T.len PySem.boot_len (pa_cons (pe_lc (own := [("length", 2)]) (g := gName 2) rfl sc__law_reached.nd (pi_list (pv 0)) (blkOk_by (N := N__law_reached) (sc := defScope s__law_reached) (by decide +kernel)) (fun _ _ _ _ _ => (pg_name (i := 2) sc__law_reached.nd rfl (.inl rfl))) (fun _ _ _ _ _ => (pts_one (pt_cmpR op_ge (pv 2) (pv 1) (nomark _)))) (fun _ _ _ _ _ => (pv 2))) pa_nil)))), ?_⟩
    have hg : (L.map V.int).length = L.length := List.length_map _
    have e0 := given_eq L 0 (fun x => decide (t ≤ x)) V.int
    refine' s_ret (v := .int (ge t L : Nat)) ?c (fun H1 e1 => q H1 e1)
    case c =>
      refine ev_is (ev_lenN (K := K) (el_lcL (K := K) (a := a) (xs := L.map V.int) (fun i => decide (t ≤ L.getD i 0)) (fun i => V.int (L.getD i 0)) (ev_var rfl) hS (by omega) (fun _ => rfl) (fun i x H1 e1 hx => ?_) (fun i x H1 e1 hx _ => ?_))) ?_
      · obtain ⟨c, hc, rfl⟩ : ∃ c, L[i]? = some c ∧ x = V.int c := by
          rw [List.getElem?_map] at hx
          cases h : L[i]? with
          | none => rw [h] at hx; cases hx
          | some c => rw [h] at hx; exact ⟨c, rfl, (Option.some.inj hx).symm⟩
        refine' et_is ?c ?d
        case c => walk_at "ev"
        case d =>
          rw [List.getD_eq_getElem?_getD, hc]
          rfl
      · obtain ⟨c, hc, rfl⟩ : ∃ c, L[i]? = some c ∧ x = V.int c := by
          rw [List.getElem?_map] at hx
          cases h : L[i]? with
          | none => rw [h] at hx; cases hx
          | some c => rw [h] at hx; exact ⟨c, rfl, (Option.some.inj hx).symm⟩
        rw [List.getD_eq_getElem?_getD, hc]
        exact ev_var rfl
      · rw [hg, e0, List.length_map]
        rfl
theorem spReached_v {H : Hp} {a : Addr} {L : List Int} {t : Int} (h : SqL K H a (L.map V.int)) (hl : L.length ≤ 1000) : SpV (spReached K) [.ref a, .int t] H (.int (ge t L : Nat)) := fun H1 e1 Q q _ => ⟨a, L, t, rfl, ex_l e1 h, hl, fun H2 e2 => q H2 e2⟩
def spCP : Sp := fun vs H Q _ => ∃ (d : Addr) (ps : PI2) (n : Int), vs = [.ref d, .int n] ∧ H d = some (.dK (kvI ps)) ∧ (ps.map (·.1)).Nodup ∧ ps.length ≤ 1000 ∧ 1 ≤ n ∧ n ≤ 1000 ∧ ∀ c, CP ps n c → RetV (.int c) H Q
theorem ok_commit_point {f f_majority : Addr} {fd fd_majority : FuncData} (F : Fun K "commit_point" "commit_point" s_commit_point f fd) (D_majority : Df K mg "majority" s_majority ["count"] f_majority fd_majority) (T : Glo mg) : FnOk P w K mg base CX0 2 f fd ["matched", "count"] spCP := by
  have G_majority : FnOk P w K mg base CX0 1 f_majority fd_majority ["count"] spMaj := ok_majority D_majority.F
  refine F.ok sc_commit_point (fun vs H Q E h => ?_) (fun cdv A outer s H vs Q E hr h => ?_)
  · obtain ⟨d, ps, n, rfl, _⟩ := h
    rfl
  · obtain ⟨d, ps, n, rfl, hd, nd, hl, h1, h2, q⟩ := h
    refine ⟨_, (pss_cons (ps_lock (ps_setLc (i := 2) (own := [("journal", 3)]) (g := gName 3) rfl sc_commit_point.nd rfl rfl (sw_true rfl rfl rfl (by decide +kernel)) (pi_keys (pv 0)) (blkOk_by (N := N_commit_point) (sc := defScope s_commit_point) (by decide +kernel)) (fun _ _ _ _ _ => (pg_name (i := 3) sc_commit_point.nd rfl (.inl rfl))) (fun _ _ _ _ _ => (pts_one (pt_chain op_le op_lt pe_int (pv 3) (pv 1)))) (fun _ _ _ _ _ => (pe_dget (hu_of hr) (pv 0) (pv 3) (fun _ _ => rfl)))))
  (pss_cons (ps_set (i := 4) sc_commit_point.nd rfl (.inl rfl) (pe_call G_majority (hr.mono (by decide)) (by rfl) D_majority.g D_majority.F.kp D_majority.b .nil pass0 (pa_cons (pv 1) pa_nil)))
  (pss_cons (ps_if (pt_cmpR op_lt (pe_callB call_len_seq (by rfl) T.len PySem.boot_len (pa_cons (pv 2) pa_nil)) (pv 4) (nomark _))
  (pss_one (ps_ret pe_int))
  pss_nil)
  (pss_one (ps_ret (pe_ix ix_list (pe_callBK (cr_sortedRev (b := true)) (by rfl) T.sorted (by decide +kernel) (pa_cons (pv 2) pa_nil) (pk_cons pe_bl pk_nil)) (pe_op op_sub (pv 4) pe_int) (fun _ _ => rfl))))))), ?_⟩
    have hz : (kvI ps).length = ps.length := kvI_len ps
    refine' q_lcKeys (kvs := kvI ps) rfl hd (by omega) (fun i => decide (0 ≤ (ps.getD i (0, 0)).1) && decide ((ps.getD i (0, 0)).1 < n)) (fun i => V.int (ps.getD i (0, 0)).2) (fun _ => rfl) (fun i k x o hk => ?_) (fun i k x o hk _ => ?_) (fun l H1 nl e1 hl1 => ?_)
    · obtain ⟨p, hp, rfl, rfl⟩ := kvI_at hk
      show EvT _ [some (.ref d), some (.int n), none, some (.int p.1), none] _ _
      refine' et_is ?c ?d
      case c => walk_at "ev"
      case d =>
        rw [List.getD_eq_getElem?_getD, hp]
        rfl
    · obtain ⟨p, hp, rfl, rfl⟩ := kvI_at hk
      rw [List.getD_eq_getElem?_getD, hp]
      exact ev_dget (kvs := kvI ps) (k := Sum.inl p.1) (ev_var rfl) (ev_var rfl) (.inr ⟨o, upd_same⟩) (kvI_some ps i p nd hp)
    · rw [hz, given_eq ps (0, 0) (fun p => decide (0 ≤ p.1) && decide (p.1 < n)) (fun p => V.int p.2)] at hl1
      have e0 : (ps.filter fun p => decide (0 ≤ p.1) && decide (p.1 < n)).map (fun p => V.int p.2) = (inR n ps).map V.int := by
        unfold inR
        rw [List.map_map]
        rfl
      rw [e0] at hl1
      refine' q_asg (v := .int (n / 2 + 1)) ?c (fun H2 e2 => ?_)
      case c => exact ev_call (vs := [.int n]) (ea_cons (ev_var rfl) ea_nil) spMaj_v
      have hL : SqL K H2 l ((inR n ps).map V.int) := sq_of (e2 l _ hl1)
      refine' q_when ?c (fun hb H3 e3 => ?_) (fun hb H3 e3 => ?_)
      case c => walk_at "ev"
      · have hb := of_decide_eq_true hb
        rw [List.length_map] at hb
        refine s_ret ev_c fun H4 e4 => ?_
        exact q 0 (.inl ⟨hb, rfl⟩) H4 (((e1.trans e2).trans e3).trans e4)
      · have hb := of_decide_eq_false hb
        rw [List.length_map] at hb
        -- sorted(lengths, reverse=True)[needed - 1]
        refine ⟨.ref l, rfl, l, inR n ps, rfl, rfl, ex_l e3 hL, fun ns' p hp ho np => ?_⟩
        have hlen := hp.length_eq
        have hi : (n / 2).toNat < ns'.length := by omega
        have hat : (ns'.map V.int)[(n / 2).toNat]? = some (.int ns'[(n / 2).toNat]) := by
          rw [List.getElem?_map, List.getElem?_eq_getElem hi]
          rfl
        refine ⟨.int (n / 2 + 1), rfl, n / 2 + 1, 1, rfl, rfl, p, ns'.map V.int, n / 2 + 1 - 1, .int ns'[(n / 2).toNat], rfl, rfl, sq_of upd_same, ?_, ?_⟩
        · rw [show n / 2 + 1 - 1 = (((n / 2).toNat : Nat) : Int) by omega]
          exact atI_nat hat
        · exact q _ (.inr ⟨by omega, ns', hp, ho, List.getElem?_eq_getElem hi⟩) _ (((e1.trans e2).trans e3).trans (Ex.new np))
theorem ok_law {f f1 f2 f3 f4 f5 : Addr} {fd fd1 fd2 fd3 fd4 fd5 : FuncData} (F : Fun K "law" "law" s_law f fd) (D_majority : Df K mg "majority" s_majority ["count"] f1 fd1) (D_commit_point : Df K mg "commit_point" s_commit_point ["matched", "count"] f2 fd2)
    (D__law_stream : Df K mg "_law_stream" s__law_stream ["script", "many"] f3 fd3) (D__law_draw : Df K mg "_law_draw" s__law_draw ["draws", "k"] f4 fd4) (D__law_reached : Df K mg "_law_reached" s__law_reached ["lengths", "number"] f5 fd5) (T : Glo mg) : FnOk P w K mg base CX0 3 f fd ["script"] (spLaw K) := by
  have G_commit_point : FnOk P w K mg base CX0 2 f2 fd2 _ _ := ok_commit_point D_commit_point.F D_majority T
  have G__law_stream : FnOk P w K mg base CX0 1 f3 fd3 _ _ := ok_stream D__law_stream.F T
  have G__law_draw : FnOk P w K mg base CX0 1 f4 fd4 _ _ := ok_draw D__law_draw.F T
  have G__law_reached : FnOk P w K mg base CX0 1 f5 fd5 _ _ := ok_reached D__law_reached.F T
  refine F.ok sc_law (fun vs H Q E h => ?_) (fun cdv A outer s H vs Q E hr h => ?_)
  · obtain ⟨a, ns, rfl, _⟩ := h
    rfl
  · obtain ⟨a, ns, rfl, hS, hn, q⟩ := h
    refine ⟨_, (pss_cons (ps_set (i := 1) sc_law.nd rfl (.inl rfl) (pe_call G__law_stream (hr.mono (by decide)) (by rfl) D__law_stream.g D__law_stream.F.kp D__law_stream.b .nil pass0 (pa_cons (pv 0) (pa_cons pe_int pa_nil))))
  (pss_cons (ps_set (i := 2) sc_law.nd rfl (.inl rfl) (pe_op op_add pe_int (pe_op op_mod (pe_call G__law_draw (hr.mono (by decide)) (by rfl) D__law_draw.g D__law_draw.F.kp D__law_draw.b .nil pass0 (pa_cons (pv 1) (pa_cons pe_int pa_nil))) pe_int)))
  (pss_cons (ps_set (i := 3) sc_law.nd rfl (.inl rfl) pe_dnewK)
  (pss_cons (ps_set (i := 4) sc_law.nd rfl (.inl rfl) (pe_op op_rep (pe_lst (pa_cons pe_int pa_nil)) (pv 2)))
  (pss_cons (ps_for PassesOwn.never rfl (pi_range2 (by rfl) T.range (pa_cons (pe_un un_neg pe_int) (pa_cons (pe_op op_add (pv 2) pe_int) pa_nil))) (pg_name (i := 5) sc_law.nd rfl (.inl rfl))
  (pss_cons (ps_set (i := 6) sc_law.nd rfl (.inl rfl) (pe_call G__law_draw (hr.mono (by decide)) (by rfl) D__law_draw.g D__law_draw.F.kp D__law_draw.b .nil pass0 (pa_cons (pv 1) (pa_cons (pe_op op_add pe_int (pv 5)) pa_nil))))
  (pss_one (ps_if (pt_cmpR op_ne (pe_op op_mod (pv 6) pe_int) pe_int (nomark _))
  (pss_cons (ps_set (i := 7) sc_law.nd rfl (.inl rfl) (pe_op op_mod (pe_op op_fdiv (pv 6) pe_int) pe_int))
  (pss_cut (ps_if (pt_cmpR op_eq (pe_op op_mod (pe_op op_fdiv (pe_call G__law_draw (hr.mono (by decide)) (by rfl) D__law_draw.g D__law_draw.F.kp D__law_draw.b .nil pass0 (pa_cons (pv 1) (pa_cons pe_int pa_nil))) pe_int) pe_int) pe_int (nomark _))
  (pss_one (ps_set (i := 7) sc_law.nd rfl (.inl rfl) (pe_op op_mod (pe_callTy call_int1 (by rfl) T.int (by decide +kernel) (pa_cons (pe_op op_add (pe_op op_mul (pv 6) pe_int) (pe_op op_mul pe_int (pv 5))) pa_nil)) (pe_op op_add (pe_op op_pow pe_int pe_int) pe_int))))
  pss_nil)
  (pss_cons (ps_dput (hu_of hr) (pv 3) (pv 5) (pv 7) rfl)
  (pss_one (ps_if (pt_chain op_le op_lt pe_int (pv 5) (pv 2))
  (pss_one (ps_asg (pv 7) (pg_sub (pv 4) (pv 5) set_list)))
  pss_nil)))))
  pss_nil))))
  (pss_cons (ps_set (i := 8) sc_law.nd rfl (.inl rfl) pe_dnewK)
  (pss_cons (ps_lock (ps_for PassesOwn.never rfl (pi_keys (pv 3)) (pg_name (i := 5) sc_law.nd rfl (.inl rfl))
  (pss_one (ps_dput (hu_of hr) (pv 8) (pv 5) (pe_dget (hu_of hr) (pv 3) (pv 5) (fun _ _ => rfl)) rfl))))
  (pss_cons (ps_set (i := 9) sc_law.nd rfl (.inl rfl) (pe_call G_commit_point (hr.mono (by decide)) (by rfl) D_commit_point.g D_commit_point.F.kp D_commit_point.b .nil pass0 (pa_cons (pv 8) (pa_cons (pv 2) pa_nil))))
  (pss_cons (ps_if (PW.pt (pw_or (pt_cmpR (op_ne_dictA hr.units0) (pv 8) (pv 3) (nomark _)) (pw_or (pt_not (pt_val (pe_callB call_isi (by rfl) T.isinstance (by decide +kernel) (pa_cons (pv 9) (pa_cons (pe_bltn (v := .ty "int") (u := .type "int") (by rfl) T.int (by decide +kernel) rfl) pa_nil))))) (pw_or (pt_val (pe_callB call_isi (by rfl) T.isinstance (by decide +kernel) (pa_cons (pv 9) (pa_cons (pe_bltn (v := .ty "bool") (u := .type "bool") (by rfl) T.bool (by decide +kernel) rfl) pa_nil)))) (pw_or1 (pt_cmpR op_lt (pv 9) pe_int (nomark _)))))))
  (pss_one (ps_ret pe_bl))
  pss_nil)
  (pss_cons (ps_if (pt_cmpR op_le (pe_op op_mul pe_int (pe_call G__law_reached (hr.mono (by decide)) (by rfl) D__law_reached.g D__law_reached.F.kp D__law_reached.b .nil pass0 (pa_cons (pv 4) (pa_cons (pv 9) pa_nil)))) (pv 2) (nomark _))
  (pss_one (ps_ret pe_bl))
  pss_nil)
  (pss_one (ps_ret (pe_cmpR op_le (pe_op op_mul pe_int (pe_call G__law_reached (hr.mono (by decide)) (by rfl) D__law_reached.g D__law_reached.F.kp D__law_reached.b .nil pass0 (pa_cons (pv 4) (pa_cons (pe_op op_add (pv 9) pe_int) pa_nil)))) (pv 2) (nomark _)))))))))))))), ?_⟩
    refine q_stream rfl hS hn (by decide) fun ds l H1 hD hdl nl e1 hl => ?_
    have hL1 : SqL K H1 l (ds.map V.int) := sq_of hl
    refine' q_asg (v := .int (1 + drI ds 0 % 9)) ?c (fun H2 e2 => ?_)
    case c => walk_at "ev"
    have hm := Int.emod_nonneg (drI ds 0) (show (9 : Int) ≠ 0 by decide)
    have hm2 := Int.emod_lt_of_pos (drI ds 0) (show (0 : Int) < 9 by decide)
    generalize hN : 1 + drI ds 0 % 9 = n at *
    have hn1 : 1 ≤ n := by omega
    have hn9 : n ≤ 9 := by omega
    -- matched = {}
    refine' q_dnew (fun dm H3 ndm e3 hdm3 => ?_)
    -- lengths = [0] * count
    refine' q_asgL (el_rep (ea_cons ev_c ea_nil) (ev_var rfl) (by show 1 * n.toNat ≤ 100000; omega) (by decide) (by omega)) (fun ll HB nll e4 hLL => ?_)
    rw [repl_flat] at hLL
    have ndm1 : H1 dm = none := fresh_back e2 ndm
    have nll1 : H1 ll = none := fresh_back (e2.trans e3) nll
    have hZ : HB dm = some (.dK []) := e4 _ _ hdm3
    have eB : Ex H1 HB := (e2.trans e3).trans e4
    refine' q_forRng (lo := -1) (n := n + 1) ?c (by omega) (fun i σ' H' => ∃ (ps : PI2) (L : List Int) (y5 y6 y7 : Option V), σ' = [some (.ref a), some (.ref l), some (.int n), some (.ref dm), some (.ref ll), y5, y6, y7, none, none] ∧ Inv22 ps L i n ∧ H' dm = some (.dK (kvI ps)) ∧ H' ll = some (.lst (L.map V.int)) ∧ Ex H1 H') (fun H3 e3 => ⟨[], _, none, none, none, rfl, Inv22.start (by omega), e3 _ _ hZ, e3 _ _ hLL, eB.trans e3⟩) (fun i σ' H' hi p => ?_) (fun σ' H' p => ?_)
    case c => walk_at "ev"
    · obtain ⟨ps, L, y5, y6, y7, rfl, I, hdm, hll, e3⟩ := p
      have hin : (i : Int) ≤ n + 1 := by omega
      rw [show (-1 : Int) + (i : Int) = (i : Int) - 1 by omega]
      have hL3 : SqL K H' l (ds.map V.int) := ex_l e3 hL1
      refine' q_asg ?c (fun H4 e4 => ?_)
      case c => walk_at "ev"
      have hd0 := (drI_ok hD (2 + ((i : Int) - 1))).1
      generalize drI ds (2 + ((i : Int) - 1)) = dd at *
      have hL4 : SqL K H4 l (ds.map V.int) := ex_l e4 hL3
      refine' s_when ?c (fun _ H5 e5 => ?_) (fun _ H5 e5 => ?_)
      case c => walk_at "ev"
      · have hL5 : SqL K H5 l (ds.map V.int) := ex_l e5 hL4
        refine' q_asg ?c (fun H6 e6 => ?_)
        case c => walk_at "ev"
        have hL6 : SqL K H6 l (ds.map V.int) := ex_l e6 hL5
        refine' q_cut (M := fun σ' H' => ∃ v : Int, σ' = [some (.ref a), some (.ref l), some (.int n), some (.ref dm), some (.ref ll), some (.int ((i : Int) - 1)), some (.int dd), some (.int v), none, none] ∧ 0 ≤ v ∧ Ex H6 H') ?cut (fun σ' H7 p => ?_)
        case cut =>
          refine' s_when ?w1 (fun _ H7 e7 => ?_) (fun _ H7 e7 => ?_)
          case w1 => walk_at "ev"
          · refine' s_asg ?w2 (fun H8 e8 => ?_)
            case w2 => walk_at "ev"
            exact ⟨_, rfl, Int.emod_nonneg _ (by decide), e7.trans e8⟩
          · exact ⟨dd / 4 % 6, rfl, Int.emod_nonneg _ (by decide), e7⟩
        obtain ⟨v, rfl, hv, e7⟩ := p
        have e37 := ((e4.trans e5).trans e6).trans e7
        have hnk : valV (kvI ps) (Sum.inl ((i : Int) - 1)) = none := kvI_none _ ps fun p hp => by have := (I.ks p hp).1; omega
        refine' q_put (a := dm) (kvs := kvI ps) (k := Sum.inl ((i : Int) - 1)) (v := .int v) (ev_var rfl) (ev_var rfl) (ev_var rfl) (e37 _ _ hdm) (by have := I.sz; rw [kvI_len]; omega) (fun H8 e8 => ?_)
        have ekv : putK (kvI ps) (Sum.inl ((i : Int) - 1)) (V.int v) = kvI (ps ++ [((i : Int) - 1, v)]) := (putK_new _ hnk).trans (kvI_app ps [((i : Int) - 1, v)]).symm
        rw [ekv]
        have e38 := e37.trans e8
        have nlm : ll ≠ dm := fun e => by
          rw [e, hZ] at hLL
          cases hLL
        have hll8 : upd H8 dm (.dK (kvI (ps ++ [((i : Int) - 1, v)]))) ll = some (.lst (L.map V.int)) := by
          rw [upd_ne nlm]
          exact e38 _ _ hll
        have eB8 : Ex H1 (upd H8 dm (.dK (kvI (ps ++ [((i : Int) - 1, v)])))) := Ex.mut (e3.trans e38) ndm1
        refine' s_when ?c (fun hb H9 e9 => ?_) (fun hb H9 e9 => ?_)
        case c => walk_at "ev"
        · obtain ⟨h0, h1⟩ := Bool.and_eq_true_iff.mp hb
          have h0 := of_decide_eq_true h0
          have h1 := of_decide_eq_true h1
          refine' s_setL (l := ll) (xs := L.map V.int) (j := i - 1) (v := .int v) (e9 _ _ hll8) (ev_var rfl) (ev_var rfl) (ev_is (ev_var rfl) (by rw [show ((i - 1 : Nat) : Int) = (i : Int) - 1 by omega])) (by rw [List.length_map]; have := I.ln; omega) (fun H10 e10 => ?_)
          refine ⟨_, _, _, _, _, rfl, I.into hv h0 h1, ?_, ?_, Ex.mut ((eB8.trans e9).trans e10) nll1⟩
          · rw [upd_ne nlm.symm]
            exact e10 _ _ (e9 _ _ upd_same)
          · rw [upd_same, List.map_set]
        · refine ⟨_, _, _, _, _, rfl, I.out hv (fun h => ?_), e9 _ _ upd_same, e9 _ _ hll8, eB8.trans e9⟩
          rw [decide_eq_true h.1, decide_eq_true h.2] at hb
          cases hb
      · have e35 := e4.trans e5
        exact ⟨ps, L, _, _, _, rfl, I.skip, e35 _ _ hdm, e35 _ _ hll, e3.trans e35⟩
    · obtain ⟨ps, L, y5, y6, y7, rfl, I, hdm, hll, e3⟩ := p
      have hI := I.sz
      -- handed = {}
      refine' q_dnew (fun dh H4 ndh e4 hdh4 => ?_)
      have ndd : dm ≠ dh := ne_of_none hdm ndh
      have hdm4 : H4 dm = some (.dK (kvI ps)) := e4 _ _ hdm
      have hkl := kvI_len ps
      refine' q_forKeys (d := dm) (kvs := kvI ps) rfl hdm4 (fun o i σ' H5 => ∃ y5 : Option V, σ' = [some (.ref a), some (.ref l), some (.int n), some (.ref dm), some (.ref ll), y5, y6, y7, some (.ref dh), none] ∧ H5 dm = some (.frz o (.dK (kvI ps))) ∧ H5 dh = some (.dK (kvI (ps.take i))) ∧ ∀ b u, b ≠ dm → H' b = some u → H5 b = some u) (fun o => ⟨_, rfl, upd_same, ?_, fun b u hb hu => ?_⟩) (fun o i σ' H5 _ p => ?_) (fun o i k x σ' H5 rt bk hk p => ?_) (fun o σ' H5 p => ?_)
      · rw [upd_ne ndd.symm]
        exact hdh4
      · rw [upd_ne hb]
        exact e4 _ _ hu
      · obtain ⟨_, _, h, _⟩ := p
        exact h
      · obtain ⟨y5, rfl, h5, h6, h7⟩ := p
        obtain ⟨p, hp, rfl, rfl⟩ := kvI_at hk
        have hi : i < ps.length := (List.getElem?_eq_some_iff.mp hp).1
        refine' s_put (a := dh) (kvs := kvI (ps.take i)) (k := Sum.inl p.1) (v := .int p.2) ?c (ev_var rfl) (ev_var rfl) h6 (by rw [kvI_len, List.length_take]; omega) (fun H6 e6 => ?_)
        case c => exact ev_dget (kvs := kvI ps) (k := Sum.inl p.1) (ev_var rfl) (ev_var rfl) (.inr ⟨o, h5⟩) (kvI_some ps i p I.nd hp)
        have ep : ps.take (i + 1) = ps.take i ++ [p] := by rw [List.take_add_one, hp]; rfl
        have hnk : valV (kvI (ps.take i)) (Sum.inl p.1) = none := kvI_none _ _ fun q hq => by
          have nd := I.nd
          have : (ps.take (i + 1)).map (·.1) = (ps.take i).map (·.1) ++ [p.1] := by rw [ep, List.map_append]; rfl
          have nd2 : ((ps.take (i + 1)).map (·.1)).Nodup := by rw [List.map_take]; exact nd.sublist (List.take_sublist _ _)
          rw [this, List.nodup_append] at nd2
          exact nd2.2.2 _ (List.mem_map.mpr ⟨q, hq, rfl⟩) _ (List.mem_singleton.mpr rfl)
        rw [putK_new _ hnk]
        refine ⟨_, rfl, ?_, ?_, fun b u hb hu => ?_⟩
        · rw [upd_ne ndd]
          exact e6 _ _ h5
        · rw [upd_same, ep, kvI_app]
          rfl
        · have nb : b ≠ dh := fun e => by
            rw [e, ndh] at hu
            cases hu
          rw [upd_ne nb]
          exact e6 _ _ (h7 b u hb hu)
      · obtain ⟨y5, rfl, h5, h6, h7⟩ := p
        rw [hkl, List.take_length] at h6
        have hdm6 : upd H5 dm (.dK (kvI ps)) dm = some (.dK (kvI ps)) := upd_same
        have hdh6 : upd H5 dm (.dK (kvI ps)) dh = some (.dK (kvI ps)) := by
          rw [upd_ne ndd.symm]
          exact h6
        have nlm : ll ≠ dm := fun e => by
          rw [e, hZ] at hLL
          cases hLL
        have hll6 : upd H5 dm (.dK (kvI ps)) ll = some (.lst (L.map V.int)) := by
          rw [upd_ne nlm]
          exact h7 _ _ nlm hll
        generalize upd H5 dm (.dK (kvI ps)) = H6 at *
        -- point = commit_point(handed, count)
        refine' q_call (vs := [.ref dh, .int n]) (ea_cons (ev_var rfl) (ea_cons (ev_var rfl) ea_nil)) (fun H6' e6' => ⟨dh, ps, n, rfl, e6' _ _ hdh6, I.nd, by omega, hn1, by omega, fun c hc H7 e67 => ?_⟩)
        have e7 := e6'.trans e67
        have c0 := cp_nn I hc
        have c1 := cp_yes I hn1 hc
        have c2 := cp_no I hn1 hc
        have hdm7 := e7 _ _ hdm6
        have hdh7 := e7 _ _ hdh6
        have hLn := I.ln
        refine' q_when (b := false) ?c (fun hb => nomatch hb) (fun _ H8 e8 => ?_)
        case c =>
          refine' et_is (et_or (et_test (ev_op (ev_var rfl) (ev_var rfl) ?r)) (fun _ => et_or (et_not (et_B (ev_cb (ea_cons (ev_var rfl) (ea_cons ev_c ea_nil)) (rc_isi (X := "int") (b := true) (fun _ => .base (.int _)) (by decide +kernel))))) (fun _ => et_or (et_B (ev_cb (ea_cons (ev_var rfl) (ea_cons ev_c ea_nil)) (rc_isi (X := "int") (b := false) (fun _ => .base (.int _)) (by decide +kernel)))) (fun _ => et_test (ev_op (ev_var rfl) ev_c rv_I0))))) ?d
          case r => exact (fun H8 e8 _ q => ⟨dh, dm, kvI ps, kvI ps, rfl, rfl, e8 _ _ hdh7, e8 _ _ hdm7, rfl, fun p hp => by
            obtain ⟨i, hi⟩ := List.mem_iff_getElem?.mp hp
            obtain ⟨p', hp', e1, e2⟩ := kvI_at (k := p.1) (x := p.2) hi
            rw [e1, e2]
            exact ⟨kvI_some ps i p' I.nd hp', rfl⟩, q H8 (Ex.refl H8)⟩)
          case d =>
            rw [decide_eq_false (by omega)]
            rfl
        have hll8 : SqL K H8 ll (L.map V.int) := sq_of (e8 _ _ (e7 _ _ hll6))
        refine' q_when ?c (fun hb => ?_) (fun hb H9 e9 => ?_)
        case c => exact et_test (ev_op (ev_op ev_c (ev_call (vs := [.ref ll, .int c]) (ea_cons (ev_var rfl) (ea_cons (ev_var rfl) ea_nil)) (spReached_v hll8 (by omega))) (rv_I (.inl (by decide)))) (ev_var rfl) rv_I0)
        · exact absurd (of_decide_eq_true hb) c1
        · refine' s_ret (v := .bl true) ?c (fun H10 e10 => q H10)
          case c => exact ev_is (ev_op (ev_op ev_c (ev_call (vs := [.ref ll, .int (c + 1)]) (ea_cons (ev_var rfl) (ea_cons (ev_op (ev_var rfl) ev_c rv_I0) ea_nil)) (spReached_v (ex_l e9 hll8) (by omega))) (rv_I (.inl (by decide)))) (ev_var rfl) rv_I0) (by rw [decide_eq_true c2])
end
end Ap
open PySem PySem.W PyProof.Rows
set_option maxHeartbeats 0 in
theorem PySem.Challenge.cw_appendhall_k22_commit_point_holds : PySem.Challenge.rw_appendhall_k22_commit_point.Holds := by
  w_on; o_law; k_head; (case hw => w_witness2)
  k_fill
  refine L2.walk_of (l := PySem.Challenge.rw_appendhall_k22_commit_point) (n := 63) (k := 3) (x := "script") (CX := fun _ => L2.CX0) (sp := fun w => Ap.spLaw _) rfl (by decide) rfl ⟨rfl, by decide, by decide⟩ (fun w h Y => PySem.W.kIn_of Y) ?F (fun _ _ a ns hl _ hS => ⟨a, ns, rfl, hS, hl, fun _ => rfl⟩) (fun _ _ _ _ _ h => h)
  case F =>
    intro w mg fa h KX G hmg
    obtain ⟨f_majority, fd_majority, D_majority⟩ : ∃ f fd, Ap.Df _ mg "majority" Ap.s_majority ["count"] f fd := by
      refine' Ap.df_mk KX G ?a ?l ?c ?k ?b
      (case a => k_is); (case l => k_is); (case c => k_is); (case k => k_is); (case b => exact fun _ _ _ _ _ _ us hl => match us, hl with | [_], _ => rfl)
    obtain ⟨f_commit_point, fd_commit_point, D_commit_point⟩ : ∃ f fd, Ap.Df _ mg "commit_point" Ap.s_commit_point ["matched", "count"] f fd := by
      refine' Ap.df_mk KX G ?a ?l ?c ?k ?b
      (case a => k_is); (case l => k_is); (case c => k_is); (case k => k_is); (case b => exact fun _ _ _ _ _ _ us hl => match us, hl with | [_, _], _ => rfl)
    obtain ⟨f__law_stream, fd__law_stream, D__law_stream⟩ : ∃ f fd, Ap.Df _ mg "_law_stream" Ap.s__law_stream ["script", "many"] f fd := by
      refine' Ap.df_mk KX G ?a ?l ?c ?k ?b
      (case a => k_is); (case l => k_is); (case c => k_is); (case k => k_is); (case b => exact fun _ _ _ _ _ _ us hl => match us, hl with | [_, _], _ => rfl)
    obtain ⟨f__law_draw, fd__law_draw, D__law_draw⟩ : ∃ f fd, Ap.Df _ mg "_law_draw" Ap.s__law_draw ["draws", "k"] f fd := by
      refine' Ap.df_mk KX G ?a ?l ?c ?k ?b
      (case a => k_is); (case l => k_is); (case c => k_is); (case k => k_is); (case b => exact fun _ _ _ _ _ _ us hl => match us, hl with | [_, _], _ => rfl)
    obtain ⟨f__law_reached, fd__law_reached, D__law_reached⟩ : ∃ f fd, Ap.Df _ mg "_law_reached" Ap.s__law_reached ["lengths", "number"] f fd := by
      refine' Ap.df_mk KX G ?a ?l ?c ?k ?b
      (case a => k_is); (case l => k_is); (case c => k_is); (case k => k_is); (case b => exact fun _ _ _ _ _ _ us hl => match us, hl with | [_, _], _ => rfl)
    obtain ⟨fd, hb, F⟩ : ∃ fd, (∀ (s : Shared) (v : Value), BindsTo s fd ⟨[v], []⟩ [("script", v)]) ∧ L2.Fun _ "law" "law" Ap.s_law fa fd := by
      refine' Ap.law_mk KX G hmg ?a ?l ?c ?k ?b
      (case a => k_is); (case l => k_is); (case c => k_is); (case k => k_is); (case b => exact fun _ _ _ _ _ _ _ _ => .of_eq rfl)
    refine ⟨fd, hb, fun base _ _ => Ap.ok_law F D_majority D_commit_point D__law_stream D__law_draw D__law_reached ?T⟩
    refine' ⟨PySem.W.mg_none_of KX G ?z0, PySem.W.mg_none_of KX G ?z1, PySem.W.mg_none_of KX G ?z2, PySem.W.mg_none_of KX G ?z3, PySem.W.mg_none_of KX G ?z4, PySem.W.mg_none_of KX G ?z5⟩
    (case z0 => k_is); (case z1 => k_is); (case z2 => k_is); (case z3 => k_is); (case z4 => k_is); (case z5 => k_is)
#print axioms PySem.Challenge.cw_appendhall_k22_commit_point_holds
