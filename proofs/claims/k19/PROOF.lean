import PyProof.Rows.All
import Wide.All
import OpenK.AllK
import Wide.FinOn
import HandS.ForMost
import HandS.Evl
import HandS.Walk
import HandS.SortKw
import HandS.DictComp
import HandS.IsInst
import HandS.ForExc
import HandS.TupAny
import HandS.Conv
import HandS.Property
import HandS.ExcIs
import HandS.Deep
import KE.DataCmp
import HandS.TupLe
import PySem.Challenge.RW_appendhall_k19_logs_that_agree
set_option Elab.async false
set_option linter.all false
set_option maxRecDepth 100000
namespace Ap
open PySem PySem.Spec PyProof.Rows L2 Evl

/-! ### more of what evaluates to what -/
section
variable {K : PySem.W.Frag} {σ : L2.St} {H H' : Hp} {ta tb tc te : TE} {t u : TT} {x y z v w : V} {r r' : R2}
theorem ev_chain {k m : Bool} (ha : Ev ta σ H x) (hb : Ev tb σ H y) (hr : RV r x y H (.bl k)) (hc : Ev tc σ H z) (hr' : RV r' y z H (.bl m)) : Ev (tChain r r' ta tb tc) σ H (.bl (k && m)) := fun H1 e Q q =>
  ha H1 e _ fun H2 e2 => hb H2 (e.trans e2) _ fun H3 e3 => hr H3 ((e.trans e2).trans e3) _ fun H4 e4 => ⟨k, rfl, by
    cases k with
    | true =>
      show tc σ H4 _
      exact hc H4 (((e.trans e2).trans e3).trans e4) _ fun H5 e5 => hr' H5 ((((e.trans e2).trans e3).trans e4).trans e5) Q fun H6 e6 => q H6 ((((e2.trans e3).trans e4).trans e5).trans e6)
    | false =>
      show Q (.bl false) H4
      exact q H4 ((e2.trans e3).trans e4)⟩
theorem rc_int {i : Int} : RC (fun xs H Q => (∃ i, xs = [.int i] ∧ Q (.int i) H) ∨ ∃ k, xs = [.bl k] ∧ Q (.int (if k then 1 else 0)) H) [.int i] H (.int i) := fun H1 _ _ q => Or.inl ⟨i, rfl, q H1 (Ex.refl H1)⟩
theorem rc_len {p : Addr} {xs : List V} (h : SqL K H p xs) : RC (fun xs H Q => ∃ p ys, xs = [.ref p] ∧ (SqL K H p ys ∨ SqT K H p ys) ∧ Q (.int ys.length) H) [.ref p] H (.int (xs.length : Int)) := fun H1 e _ q => ⟨p, xs, rfl, Or.inl (ex_l e h), q H1 (Ex.refl H1)⟩
theorem rc_lenT {p : Addr} {xs : List V} (h : SqT K H p xs) : RC (fun xs H Q => ∃ p ys, xs = [.ref p] ∧ (SqL K H p ys ∨ SqT K H p ys) ∧ Q (.int ys.length) H) [.ref p] H (.int (xs.length : Int)) := fun H1 e _ q => ⟨p, xs, rfl, Or.inr (ex_t e h), q H1 (Ex.refl H1)⟩
end


section
variable {K : PySem.W.Frag} {σ : L2.St} {H H' : Hp} {ta tb tc te td ty tv : TE} {t u : TT} {x y z v w : V} {D : Ends} {tz : TS}
theorem ev_dget {a : Addr} {kvs : List (Key × V)} {k : Key} (ha : Ev td σ H (.ref a)) (hk : Ev ty σ H (kV k)) (hr : Rd H a (.dK kvs)) (hv : valV kvs k = some v) : Ev (tDGet td ty) σ H v := fun H1 e Q q =>
  ha H1 e _ fun H2 e2 => hk H2 (e.trans e2) _ fun H3 e3 => ⟨a, v, rfl, .inl ⟨kvs, k, ex_rd ((e.trans e2).trans e3) hr, rfl, hv.symm⟩, q H3 (e2.trans e3)⟩
/-- isinstance(x, T) of a plain value -/
theorem rc_isi {x : V} {T X : String} {b : Bool} (ht : ∀ H, TyX K H x (.type X)) (hb : kitB X T = some b) : RC (rIsi K) [x, .ty T] H (.bl b) := fun H1 _ _ q => ⟨x, .ty T, .type X, .type T, b, rfl, .ty T, ht H1, kit_ty hb, q H1 (Ex.refl H1)⟩
/-- d[k] = e -/
theorem s_put {a : Addr} {kvs : List (Key × V)} {k : Key} (h : Ev tv σ H v) (ha : Ev td σ H (.ref a)) (hk : Ev ty σ H (kV k)) (hd : H a = some (.dK kvs)) (hl : kvs.length < 100000) (q : ∀ H1, Ex H H1 → D.nx σ (upd H1 a (.dK (putK kvs k v)))) : sDPut td ty tv D σ H :=
  h H (Ex.refl H) _ fun H1 e1 => ha H1 e1 _ fun H2 e2 => hk H2 (e1.trans e2) _ fun H3 e3 => ⟨a, _, rfl, DPut.k (((e1.trans e2).trans e3) a _ hd) (sz_lt hl), q H3 ((e1.trans e2).trans e3)⟩
theorem q_put {a : Addr} {kvs : List (Key × V)} {k : Key} (h : Ev tv σ H v) (ha : Ev td σ H (.ref a)) (hk : Ev ty σ H (kV k)) (hd : H a = some (.dK kvs)) (hl : kvs.length < 100000) (q : ∀ H1, Ex H H1 → tz D σ (upd H1 a (.dK (putK kvs k v)))) : tSeq (sDPut td ty tv) tz D σ H :=
  s_put (D := { D with nx := tz D }) h ha hk hd hl q
/-- within a lock, and out of it -/
theorem Ex.unlock {H H' : Hp} {d : Addr} {o : Obj} {u : HO} (hd : H d = some u) (e : Ex (upd H d (.frz o u)) H') : Ex H (upd H' d u) := fun a o' h => by
  by_cases q : a = d
  · subst q
    rw [upd_same, ← hd, h]
  · rw [upd_ne q]
    exact e a o' (by rw [upd_ne q]; exact h)
theorem SqL.locked {a d : Addr} {xs : List V} {o : Obj} {u : HO} (h : SqL K H a xs) (hn : H d = some u) (hu : ∀ l, u ≠ .lst l ∧ ∀ o, u ≠ .frz o (.lst l)) : SqL K (upd H d (.frz o u)) a xs := by
  rcases h with (h | ⟨o', h⟩) | h
  · have q : a ≠ d := fun e => by
      rw [e, hn] at h
      exact (hu xs).1 (Option.some.inj h)
    exact .inl (.inl (by rw [upd_ne q]; exact h))
  · have q : a ≠ d := fun e => by
      rw [e, hn] at h
      exact (hu xs).2 o' (Option.some.inj h)
    exact .inl (.inr ⟨o', by rw [upd_ne q]; exact h⟩)
  · exact .inr h
/-- y = [e for k in d if t] -/
theorem q_lcKeys {d : Addr} {kvs : List (Key × V)} {jd i j : Nat} {vs : List Nat} (hj : σ[jd]? = some (some (.ref d))) (hd : H d = some (.dK kvs)) (hz : kvs.length ≤ 40000) (f : Nat → Bool) (v : Nat → V) (hw : ∀ x, wipe ((wipe σ vs).set j (some x)) vs = wipe σ vs)
    (ht : ∀ (n : Nat) k x o, kvs[n]? = some (k, x) → EvT t ((wipe σ vs).set j (some (kV k))) (upd H d (.frz o (.dK kvs))) (f n))
    (he : ∀ (n : Nat) k x o, kvs[n]? = some (k, x) → f n = true → Ev te ((wipe σ vs).set j (some (kV k))) (upd H d (.frz o (.dK kvs))) (v n))
    (q : ∀ p H1, H p = none → Ex H H1 → H1 p = some (.lst (given kvs.length f v)) → tz D (σ.set i (some (.ref p))) H1) : tSeq (tLock (tAsg (tLc (iKeys (tVar jd)) (gName j) t te vs) (gName i))) tz D σ H := by
  refine ⟨d, .dK kvs, hd, trivial, fun od => ⟨.ref d, hj, d, od, rfl, .inl ⟨kvs, upd_same, fun Dl hD => ?_⟩⟩⟩
  have ne : Dl ≠ d := fun e => by
    rw [e, upd_same] at hD
    cases hD
  refine lc_it walk_keys (fun m H' => Cw (upd H d (.frz od (.dK kvs))) f v Dl m H') ⟨hD, Ex.new hD, upd_same⟩ (fun m H' _ p => p.2.1 d _ upd_same) (fun m x H1 H' hm p y => ?_) (fun H' p => ?_)
  · obtain ⟨rfl, k, x', hk, rfl⟩ := y
    exact ⟨hw _, cw_turn p (by omega) (ht m k x' od hk) (fun hf => he m k x' od hk hf)⟩
  · refine ⟨p.2.1 d _ upd_same, ?_⟩
    refine q Dl _ ?_ (Ex.unlock hd p.2.1) (by rw [upd_ne ne]; exact p.2.2)
    rw [upd_ne ne] at hD
    exact hD
/-- for k in d: body, the dict locked -/
theorem q_forKeys {d : Addr} {kvs : List (Key × V)} {jd j : Nat} {tu : TS} (hj : σ[jd]? = some (some (.ref d))) (hd : H d = some (.dK kvs)) (Pv : Obj → Nat → L2.St → Hp → Prop)
    (h0 : ∀ o, Pv o 0 σ (upd H d (.frz o (.dK kvs)))) (hG : ∀ o i σ' H', i ≤ kvs.length → Pv o i σ' H' → H' d = some (.frz o (.dK kvs)))
    (hs : ∀ o i k x σ' H' rt bk, kvs[i]? = some (k, x) → Pv o i σ' H' → tu ⟨Pv o (i + 1), rt, bk, Pv o (i + 1)⟩ (σ'.set j (some (kV k))) H')
    (q : ∀ o σ' H', Pv o kvs.length σ' H' → tz D σ' (upd H' d (.dK kvs))) : tSeq (tLock (tFor (iKeys (tVar jd)) (gName j) tu)) tz D σ H := by
  refine ⟨d, .dK kvs, hd, trivial, fun od => ⟨.ref d, hj, d, od, rfl, .inl ⟨kvs, upd_same, ?_⟩⟩⟩
  refine for_it walk_keys (Pv od) (h0 od) (fun i σ' H' hi p => hG od i σ' H' hi p) (fun i x σ' H1 H' hi p y => ?_) (fun σ' H' p => ⟨hG od _ σ' H' (Nat.le_refl _) p, q od σ' H' p⟩)
  obtain ⟨rfl, k, x', hk, rfl⟩ := y
  exact hs od i k x' σ' H' _ _ hk p
theorem q_dnew {i : Nat} (k : ∀ p H1, H p = none → Ex H H1 → H1 p = some (.dK []) → tz D (σ.set i (some (.ref p))) H1) : tSeq (tAsg tDNewK (gName i)) tz D σ H := fun p hp => k p _ hp (Ex.new hp) upd_same
theorem el_rep {ta : TA} {vs : List V} {n : Int} (h : EvA ta σ H vs) (hb : Ev tb σ H (.int n)) (hl : vs.length * n.toNat ≤ 100000) (hv : vs.length ≤ 100000) (hn : -100000 ≤ n ∧ n ≤ 100000) : EvL (tOp rRep (tLst ta) tb) σ H (List.replicate n.toNat vs).flatten := fun H1 e Q q =>
  h H1 e _ fun H2 e2 => ⟨sz_of hv, fun p hp => hb _ ((e.trans e2).trans (Ex.new hp)) _ fun H3 e3 => ⟨p, n, vs, rfl, rfl, e3 _ _ upd_same, by omega, by omega, sz_of hl, fun l hl2 => q l _ (fresh_back ((e2.trans (Ex.new hp)).trans e3) hl2) (((e2.trans (Ex.new hp)).trans e3).trans (Ex.new hl2)) upd_same⟩⟩
theorem q_call {sp : Sp} {dvs vs : List V} {E : XK} {ta : TA} {i : Nat} (h : EvA ta σ H vs) (k : ∀ H1, Ex H H1 → sp (vs ++ dvs) H1 (fun v H2 => tz D (σ.set i (some v)) H2) E) : tSeq (tAsg (tCall sp dvs E ta) (gName i)) tz D σ H := h H (Ex.refl H) _ fun H1 e => k H1 e
theorem s_retCall {sp : Sp} {dvs vs : List V} {E : XK} {ta : TA} (h : EvA ta σ H vs) (k : ∀ H1, Ex H H1 → sp (vs ++ dvs) H1 D.rt E) : tRet (tCall sp dvs E ta) D σ H := h H (Ex.refl H) _ fun H1 e => k H1 e
/-- for k in range(lo, hi), any small bounds -/
theorem q_forRng {ta : TA} {j : Nat} {lo n : Int} {tu : TS} (h : EvA ta σ H [.int lo, .int n]) (hn : -100000 ≤ lo ∧ lo ≤ 100000 ∧ -100000 ≤ n ∧ n ≤ 100000) (Pv : Nat → L2.St → Hp → Prop) (h0 : ∀ H1, Ex H H1 → Pv 0 σ H1)
    (hs : ∀ (i : Nat) σ' H', lo + (i : Int) < n → Pv i σ' H' → tu { D with nx := Pv (i + 1), ct := Pv (i + 1), bk := tz D } (σ'.set j (some (.int (lo + (i : Int))))) H') (hd : ∀ σ' H', Pv (n - lo).toNat σ' H' → tz D σ' H') : tSeq (tFor (iRng2 ta) (gName j) tu) tz D σ H :=
  h H (Ex.refl H) _ fun H1 e => ⟨lo, n, rfl, ⟨by omega, by omega, by omega, by omega⟩, for_range (lo := lo) (n := (n - lo).toNat) Pv (h0 H1 e) (fun i σ' H' hi p => hs i σ' H' (by omega) p) hd⟩
theorem given_eq {α : Type} (xs : List α) (d : α) (p : α → Bool) (g : α → V) : given xs.length (fun i => p (xs.getD i d)) (fun i => g (xs.getD i d)) = (xs.filter p).map g := by
  have e : (List.range xs.length).map (fun i => xs.getD i d) = xs := by
    refine List.ext_getElem (by simp) (fun i h1 h2 => ?_)
    rw [List.getElem_map, List.getElem_range, List.getD_eq_getElem?_getD, List.getElem?_eq_getElem h2]
    rfl
  unfold given
  conv => rhs; rw [← e]
  rw [List.filter_map, List.map_map]
  rfl
end
/-! ### draws: whole numbers below 5040 -/
def Dr (ds : List Int) : Prop := ∀ d ∈ ds, 0 ≤ d ∧ d < 5040
theorem Dr.nil : Dr [] := fun _ h => nomatch h
theorem Dr.app {ds : List Int} {d : Int} (h : Dr ds) (h0 : 0 ≤ d) (h1 : d < 5040) : Dr (ds ++ [d]) := fun e he => by
  rcases List.mem_append.mp he with he | he
  · exact h e he
  · rw [List.mem_singleton.mp he]
    exact ⟨h0, h1⟩
/-- a draw: the k-th one, 0 behind the last -/
def drw (ds : List Int) (k : Nat) : Int := ds.getD k 0
theorem drw_ok {ds : List Int} (h : Dr ds) (k : Nat) : 0 ≤ drw ds k ∧ drw ds k < 5040 := by
  unfold drw
  rw [List.getD_eq_getElem?_getD]
  cases e : ds[k]? with
  | none => exact ⟨Int.le_refl _, by show (0 : Int) < 5040; decide⟩
  | some d => exact h d (List.mem_of_getElem? e)
def spStream (K : PySem.W.Frag) : Sp := fun vs H Q _ => ∃ (a : Addr) (ns : List Int) (m : Nat), vs = [.ref a, .int (m : Int)] ∧ SqL K H a (ns.map V.int) ∧ ns.length ≤ 63 ∧ m ≤ 1000 ∧
  ∀ ds : List Int, Dr ds → ds.length ≤ m + 60 → RetL (ds.map V.int) H Q
def spDraw (K : PySem.W.Frag) : Sp := fun vs H Q _ => ∃ (a : Addr) (ds : List Int) (k : Nat), vs = [.ref a, .int (k : Int)] ∧ SqL K H a (ds.map V.int) ∧ RetV (.int (drw ds k)) H Q
theorem spDraw_v {K : PySem.W.Frag} {H : Hp} {a : Addr} {ds : List Int} {j : Int} {k : Nat} (h : SqL K H a (ds.map V.int)) (e : j = (k : Int)) : SpV (spDraw K) [.ref a, .int j] H (.int (drw ds k)) := fun H1 e1 Q q E =>
  ⟨a, ds, k, by rw [e], ex_l e1 h, fun H2 e2 => q H2 e2⟩
def drI (ds : List Int) (j : Int) : Int := drw ds j.toNat
theorem drI_ok {ds : List Int} (h : Dr ds) (j : Int) : 0 ≤ drI ds j ∧ drI ds j < 5040 := drw_ok h _
theorem spDrawI {K : PySem.W.Frag} {H : Hp} {a : Addr} {ds : List Int} {j : Int} (h : SqL K H a (ds.map V.int)) (e : 0 ≤ j) : SpV (spDraw K) [.ref a, .int j] H (.int (drI ds j)) := spDraw_v h (by omega)
theorem q_stream {K : PySem.W.Frag} {σ : L2.St} {H : Hp} {D : Ends} {tz : TS} {E : XK} {i : Nat} {a : Addr} {ns : List Int} {m : Int} (h0 : σ[0]? = some (some (.ref a))) (hS : SqL K H a (ns.map V.int)) (hn : ns.length ≤ 63) (hm : 0 ≤ m ∧ m ≤ 1000)
    (k : ∀ (ds : List Int) (l : Addr) (H1 : Hp), Dr ds → (ds.length : Int) ≤ m + 60 → H l = none → Ex H H1 → H1 l = some (.lst (ds.map V.int)) → tz D (σ.set i (some (.ref l))) H1) :
    tSeq (tAsg (tCall (spStream K) [] E (tCons (tVar 0) (tCons (tC (.int m)) tNil))) (gName i)) tz D σ H :=
  ⟨.ref a, h0, a, ns, m.toNat, by rw [show ((m.toNat : Nat) : Int) = m by omega]; rfl, hS, hn, by omega, fun ds hD hl l H1 n e h => k ds l H1 hD (by omega) n e h⟩

/-! ### a def of the text, its place and how it is called; the law's own end -/
structure Df (K : PySem.W.Frag) (mg : Str → Option Value) (x : Str) (st : Stmt) (ps : List Str) (f : Addr) (fd : FuncData) : Prop where
  F : Fun K x x st f fd
  b : Binds K fd ps []
  g : mg x = some (.ref f)
theorem df_mk {K : PySem.W.Frag} {mg : Str → Option Value} {h : Heap} (X : K.In h) (G : h.Ns mainGlobals mg) {x : Str} {st : Stmt} {ps : List Str} {f : Addr} {oc : Value} {od an : Option Addr} {sl : Array (Option Value)} {kV dc pm cd ct : Value}
    (a : PySem.W.nsIn K mainGlobals x = some (some (.ref f))) (l : K.lookup f = some ⟨oc, od, .func (PySem.W.fnOf x x (defArgs st) (defBody st) (defScope st) .none kV dc pm an cd ct), sl⟩) (c : PySem.W.codeIn K cd x = true) (k : PySem.W.keepIn K (.ref f) = true)
    (hb : ∀ (kV doc pm : Value) (an : Option Addr) (cdv ct : Value) (us : List Value), us.length = ps.length → bindArgs (PySem.W.fnOf x x (defArgs st) (defBody st) (defScope st) .none kV doc pm an cdv ct) ⟨us, []⟩ = pure (ps.zip us)) :
    ∃ f fd, Df K mg x st ps f fd := ⟨_, _, fun_mk l c k, (fun_mk l c k).binds hb, PySem.W.mg_of X G a⟩
theorem law_mk {K : PySem.W.Frag} {mg : Str → Option Value} {h : Heap} (X : K.In h) (G : h.Ns mainGlobals mg) {st : Stmt} {fa f : Addr} {oc : Value} {od an : Option Addr} {sl : Array (Option Value)} {kV dc pm cd ct : Value} (hfa : mg "law" = some (.ref fa))
    (a : PySem.W.nsIn K mainGlobals "law" = some (some (.ref f))) (l : K.lookup f = some ⟨oc, od, .func (PySem.W.fnOf "law" "law" (defArgs st) (defBody st) (defScope st) .none kV dc pm an cd ct), sl⟩) (c : PySem.W.codeIn K cd "law" = true) (k : PySem.W.keepIn K (.ref f) = true)
    (hb : ∀ (kV doc pm : Value) (an : Option Addr) (cdv ct : Value) (s : Shared) (v : Value), BindsTo s (PySem.W.fnOf "law" "law" (defArgs st) (defBody st) (defScope st) .none kV doc pm an cdv ct) ⟨[v], []⟩ [("script", v)]) :
    ∃ fd, (∀ (s : Shared) (v : Value), BindsTo s fd ⟨[v], []⟩ [("script", v)]) ∧ Fun K "law" "law" st fa fd := by
  have e := hfa.symm.trans (PySem.W.mg_of X G a)
  cases e
  exact ⟨_, fun s v => hb kV dc pm an cd ct s v, fun_mk l c k⟩
def spLaw (K : PySem.W.Frag) : Sp := fun vs H Q _ => ∃ (a : Addr) (ns : List Int), vs = [.ref a] ∧ SqL K H a (ns.map V.int) ∧ ns.length ≤ 63 ∧ ∀ H', Q (.bl true) H'
end Ap

set_option Elab.async false
set_option linter.all false
set_option maxRecDepth 100000
namespace Ap
open PySem PySem.Spec PyProof.Rows L2 Evl

/-! ### data: what a value stands for, whatever grows around it -/
section
variable {K : PySem.W.Frag} {H H' : Hp}
mutual
theorem dp_mono (e : Ex H H') : ∀ (d : PyData) (v : V), Dp K H v d → Dp K H' v d
  | .none, _, h => by cases h; exact .non
  | .bool b, _, h => by cases h; exact .bl b
  | .int i, _, h => by cases h; exact .int i
  | .str x, _, h => by cases h; exact .str x
  | .list ds, _, h => by
    cases h with
    | lst hs ha => exact .lst (ex_l e hs) (dpa_mono e ds _ ha)
  | .tuple ds, _, h => by
    cases h with
    | tup hs ha => exact .tup (ex_t e hs) (dpa_mono e ds _ ha)
  | .dict _, _, h => by cases h
theorem dpa_mono (e : Ex H H') : ∀ (ds : List PyData) (vs : List V), DpAll K H vs ds → DpAll K H' vs ds
  | [], _, h => by cases h; exact .nil
  | d :: ds, _, h => by
    cases h with
    | cons h1 h2 => exact .cons (dp_mono e d _ h1) (dpa_mono e ds _ h2)
end
theorem dpa_len : ∀ {vs : List V} {ds : List PyData}, DpAll K H vs ds → vs.length = ds.length
  | _, _, .nil => rfl
  | _, _, .cons _ h => by rw [List.length_cons, List.length_cons, dpa_len h]
theorem dpa_at : ∀ {vs : List V} {ds : List PyData} {i : Nat} {d : PyData}, DpAll K H vs ds → ds[i]? = some d → ∃ v, vs[i]? = some v ∧ Dp K H v d
  | _, _, i, d, .nil, h => by simp at h
  | _, _, 0, d, .cons h1 _, h => ⟨_, rfl, by
    have e := Option.some.inj (show some _ = some d from h)
    rw [← e]
    exact h1⟩
  | _, _, i + 1, d, .cons _ h2, h => by
    obtain ⟨v, e, q⟩ := dpa_at (i := i) h2 (by simpa using h)
    exact ⟨v, by simpa using e, q⟩
theorem dpa_atV : ∀ {vs : List V} {ds : List PyData} {i : Nat} {v : V}, DpAll K H vs ds → vs[i]? = some v → ∃ d, ds[i]? = some d ∧ Dp K H v d
  | _, _, i, v, .nil, h => by simp at h
  | _, _, 0, v, .cons h1 _, h => ⟨_, rfl, by
    have e := Option.some.inj (show some _ = some v from h)
    rw [← e]
    exact h1⟩
  | _, _, i + 1, v, .cons _ h2, h => by
    obtain ⟨d, e, q⟩ := dpa_atV (i := i) h2 (by simpa using h)
    exact ⟨d, by simpa using e, q⟩
theorem dpa_app : ∀ {vs ws : List V} {ds es : List PyData}, DpAll K H vs ds → DpAll K H ws es → DpAll K H (vs ++ ws) (ds ++ es)
  | _, _, _, _, .nil, h => h
  | _, _, _, _, .cons h1 h2, h => .cons h1 (dpa_app h2 h)
theorem dpa_one {v : V} {d : PyData} (h : Dp K H v d) : DpAll K H [v] [d] := .cons h .nil
theorem dpa_drop : ∀ {vs : List V} {ds : List PyData} (n : Nat), DpAll K H vs ds → DpAll K H (vs.drop n) (ds.drop n)
  | _, _, 0, h => h
  | _, _, n + 1, .nil => .nil
  | _, _, n + 1, .cons _ h2 => dpa_drop n h2
theorem dpa_take : ∀ {vs : List V} {ds : List PyData} (n : Nat), DpAll K H vs ds → DpAll K H (vs.take n) (ds.take n)
  | _, _, 0, _ => .nil
  | _, _, n + 1, .nil => .nil
  | _, _, n + 1, .cons h1 h2 => .cons h1 (dpa_take n h2)
theorem dpa_ints : ∀ (ns : List Int), DpAll K H (ns.map V.int) (ns.map PyData.int)
  | [] => .nil
  | n :: r => .cons (.int n) (dpa_ints r)
end

/-! ### data that == reads to its end: no dict, so deep at most -/
mutual
theorem eqv_self : ∀ d : PyData, d.canLay0 = true → PyData.eqv d d = true
  | .none, _ => by simp [PyData.eqv]
  | .bool b, _ => by simp [PyData.eqv]
  | .int i, _ => by simp [PyData.eqv]
  | .str x, _ => by simp [PyData.eqv]
  | .list ds, h => by
    show PyData.eqvAll ds ds = true
    exact eqvAll_self ds (by simpa [PyData.canLay0] using h)
  | .tuple ds, h => by
    show PyData.eqvAll ds ds = true
    exact eqvAll_self ds (by simpa [PyData.canLay0] using h)
  | .dict _, h => by simp [PyData.canLay0] at h
theorem eqvAll_self : ∀ ds : List PyData, PyData.canLayAll0 ds = true → PyData.eqvAll ds ds = true
  | [], _ => by simp [PyData.eqvAll]
  | d :: ds, h => by
    have h' : d.canLay0 = true ∧ PyData.canLayAll0 ds = true := by simpa [PyData.canLayAll0] using h
    simp [PyData.eqvAll, eqv_self d h'.1, eqvAll_self ds h'.2]
end
/-- no dict within, no text out of range, at most n deep -/
def Sd (n : Nat) (d : PyData) : Prop := d.canLay0 = true ∧ d.depth ≤ n
def Sds (n : Nat) (ds : List PyData) : Prop := ∀ d ∈ ds, Sd n d
theorem sds_lay : ∀ {n : Nat} {ds : List PyData}, Sds n ds → PyData.canLayAll0 ds = true ∧ PyData.depthAll ds ≤ n
  | _, [], _ => ⟨by simp [PyData.canLayAll0], by simp [PyData.depthAll]⟩
  | n, d :: ds, h => by
    have h1 := h d List.mem_cons_self
    have h2 := sds_lay (fun e he => h e (List.mem_cons_of_mem _ he))
    exact ⟨by simp [PyData.canLayAll0, h1.1, h2.1], by have := h1.2; have := h2.2; simp only [PyData.depthAll]; omega⟩
theorem sd_tuple {n : Nat} {ds : List PyData} (h : Sds n ds) : Sd (n + 1) (.tuple ds) := ⟨by simp [PyData.canLay0, (sds_lay h).1], by have := (sds_lay h).2; simp only [PyData.depth]; omega⟩
theorem sd_list {n : Nat} {ds : List PyData} (h : Sds n ds) : Sd (n + 1) (.list ds) := ⟨by simp [PyData.canLay0, (sds_lay h).1], by have := (sds_lay h).2; simp only [PyData.depth]; omega⟩
theorem sd_int {n : Nat} {i : Int} : Sd n (.int i) := ⟨by simp [PyData.canLay0], by simp [PyData.depth]⟩
theorem sd_bool {n : Nat} {b : Bool} : Sd n (.bool b) := ⟨by simp [PyData.canLay0], by simp [PyData.depth]⟩
theorem sd_none {n : Nat} : Sd n .none := ⟨by simp [PyData.canLay0], by simp [PyData.depth]⟩
theorem sd_str {n : Nat} {x : Str} (h : PyData.strOk x = true) : Sd n (.str x) := ⟨by simp [PyData.canLay0, h], by simp [PyData.depth]⟩
theorem Sd.up {n m : Nat} {d : PyData} (h : Sd n d) (l : n ≤ m) : Sd m d := ⟨h.1, Nat.le_trans h.2 l⟩
theorem sds_nil {n : Nat} : Sds n [] := fun _ h => nomatch h
theorem sds_cons {n : Nat} {d : PyData} {ds : List PyData} (h : Sd n d) (hs : Sds n ds) : Sds n (d :: ds) := fun e he => by
  rcases List.mem_cons.mp he with q | q
  · rw [q]; exact h
  · exact hs e q
theorem sds_app {n : Nat} {ds es : List PyData} (h : Sds n ds) (hs : Sds n es) : Sds n (ds ++ es) := fun e he => by
  rcases List.mem_append.mp he with q | q
  · exact h e q
  · exact hs e q
theorem Sds.drop {n : Nat} {ds : List PyData} (h : Sds n ds) (k : Nat) : Sds n (ds.drop k) := fun e he => h e (List.mem_of_mem_drop he)
theorem Sds.take {n : Nat} {ds : List PyData} (h : Sds n ds) (k : Nat) : Sds n (ds.take k) := fun e he => h e (List.mem_of_mem_take he)
theorem Sd.shaped {d : PyData} {n : Nat} (h : Sd n d) (l : n ≤ 64) : SeqAt.shaped d = true := by
  unfold SeqAt.shaped
  rw [h.1, decide_eq_true (Nat.le_trans h.2 l)]
  rfl
theorem Sd.self {d : PyData} {n : Nat} (h : Sd n d) : PyData.eqv d d = true := eqv_self d h.1

/-! ### the part of a heap that a base and what is new since a point make -/
def ov (H H1 H2 : Hp) : Hp := fun a => match H a with
  | some o => some o
  | none => match H1 a with
    | some _ => none
    | none => H2 a
theorem ov_ex {H H1 H2 : Hp} (e : Ex H H1) (e2 : Ex H1 H2) : Ex (ov H H1 H2) H2 := fun a o h => by
  unfold ov at h
  cases h0 : H a with
  | some o' =>
    rw [h0] at h
    rw [← h]
    exact e2 a o' (e a o' h0)
  | none =>
    rw [h0] at h
    cases h1 : H1 a with
    | some o' => rw [h1] at h; cases h
    | none => rw [h1] at h; exact h
theorem ov_base {H H1 H2 : Hp} : Ex H (ov H H1 H2) := fun a o h => by
  unfold ov
  rw [h]
theorem ov_none {H H1 H2 : Hp} {a : Addr} {o : HO} (h : H a = none) (h1 : H1 a = some o) : ov H H1 H2 a = none := by
  unfold ov
  rw [h, h1]
theorem ov_grow {H H1 H2 H3 : Hp} (e2 : Ex H2 H3) : Ex (ov H H1 H2) (ov H H1 H3) := fun a o h => by
  unfold ov at h ⊢
  cases h0 : H a with
  | some o' => rw [h0] at h; exact h
  | none =>
    rw [h0] at h
    cases h1 : H1 a with
    | some o' => rw [h1] at h; cases h
    | none =>
      rw [h1] at h
      exact e2 a o h
theorem ov_later {H H1 H2 H3 : Hp} (e1 : Ex H1 H2) : Ex (ov H H2 H3) (ov H H1 H3) := fun a o h => by
  unfold ov at h ⊢
  cases h0 : H a with
  | some o' => rw [h0] at h; exact h
  | none =>
    rw [h0] at h
    cases h2 : H2 a with
    | some o' => rw [h2] at h; cases h
    | none =>
      rw [h2] at h
      have h1 : H1 a = none := fresh_back e1 h2
      rw [h1]
      exact h
theorem ov_new {H H1 H2 : Hp} {p : Addr} (e : Ex H H1) (e2 : Ex H1 H2) (hp : H2 p = none) {u : HO} : ov H H1 (upd H2 p u) p = some u := by
  have h1 : H1 p = none := fresh_back e2 hp
  have h0 : H p = none := fresh_back e h1
  unfold ov
  rw [h0, h1]
  exact upd_same

/-! ### what evaluates to data -/
def EvD (K : PySem.W.Frag) (te : TE) (σ : L2.St) (H : Hp) (d : PyData) : Prop := ∀ H1, Ex H H1 → ∀ Q : VK, (∀ v H2, Ex H1 H2 → Dp K (ov H H1 H2) v d → Q v H2) → te σ H1 Q
def EvDs (K : PySem.W.Frag) (ta : TA) (σ : L2.St) (H : Hp) (ds : List PyData) : Prop := ∀ H1, Ex H H1 → ∀ Q : List V → Hp → Prop, (∀ vs H2, Ex H1 H2 → DpAll K (ov H H1 H2) vs ds → Q vs H2) → ta σ H1 Q
/-- a new list of data -/
def EvN (K : PySem.W.Frag) (te : TE) (σ : L2.St) (H : Hp) (ds : List PyData) : Prop := ∀ H1, Ex H H1 → ∀ Q : VK, (∀ p xs H2, H1 p = none → Ex H1 H2 → H2 p = some (.lst xs) → DpAll K (ov H H1 H2) xs ds → Q (.ref p) H2) → te σ H1 Q
section
variable {K : PySem.W.Frag} {σ : L2.St} {H H' : Hp} {ta tb tc te : TE} {t u : TT} {x y z v w : V} {d e : PyData} {ds es : List PyData} {r : R2}
theorem ed_of (h : Ev te σ H v) (hd : Dp K H v d) : EvD K te σ H d := fun H1 e Q q => h H1 e Q fun H2 e2 => q v H2 e2 (dp_mono ov_base d v hd)
theorem ed_var {i : Nat} (h : σ[i]? = some (some v)) (hd : Dp K H v d) : EvD K (tVar i) σ H d := ed_of (ev_var h) hd
theorem ed_int {i : Int} (h : Ev te σ H (.int i)) : EvD K te σ H (.int i) := ed_of h (.int i)
theorem ed_str {s : Str} : EvD K (tC (.str s)) σ H (.str s) := ed_of ev_c (.str s)
theorem ed_bool {b : Bool} (h : Ev te σ H (.bl b)) : EvD K te σ H (.bool b) := ed_of h (.bl b)
theorem ed_non : EvD K (tC .non) σ H .none := ed_of ev_c .non
theorem ed_is (h : EvD K te σ H d) (q : d = e) : EvD K te σ H e := q ▸ h
theorem EvD.mono (e : Ex H H') (h : EvD K te σ H d) : EvD K te σ H' d := fun H1 a Q q => h H1 (e.trans a) Q fun v H2 e2 hd => q v H2 e2 (dp_mono (fun b o hb => by
  unfold ov at hb ⊢
  cases h0 : H b with
  | some o' => rw [h0] at hb; rw [e b o' h0]; exact hb
  | none =>
    rw [h0] at hb
    cases h1 : H1 b with
    | some o' => rw [h1] at hb; cases hb
    | none =>
      rw [h1] at hb
      rw [fresh_back a h1]
      exact hb) d v hd)
theorem eds_nil : EvDs K tNil σ H [] := fun H1 _ _ q => q [] H1 (Ex.refl H1) .nil
theorem eds_cons {tr : TA} (h : EvD K te σ H d) (hr : EvDs K tr σ H ds) : EvDs K (tCons te tr) σ H (d :: ds) := fun H1 e Q q =>
  h H1 e _ fun v H2 e2 hv => hr H2 (e.trans e2) _ fun vs H3 e3 hs => q _ H3 (e2.trans e3) (.cons (dp_mono (ov_grow e3) d v hv) (dpa_mono (ov_later e2) ds vs hs))
theorem ed_tup {ta : TA} (h : EvDs K ta σ H ds) (hl : ds.length ≤ 100000) : EvD K (tTup ta) σ H (.tuple ds) := fun H1 e Q q =>
  h H1 e _ fun vs H2 e2 hs => ⟨by rw [dpa_len hs]; exact sz_of hl, fun p hp => q _ _ (e2.trans (Ex.new hp)) (.tup (st_of (ov_new e e2 hp)) (dpa_mono (ov_grow (Ex.new hp)) ds vs hs))⟩
theorem en_lst {ta : TA} (h : EvDs K ta σ H ds) (hl : ds.length ≤ 100000) : EvN K (tLst ta) σ H ds := fun H1 e Q q =>
  h H1 e _ fun vs H2 e2 hs => ⟨by rw [dpa_len hs]; exact sz_of hl, fun p hp => q p vs _ (fresh_back e2 hp) (e2.trans (Ex.new hp)) upd_same (dpa_mono (ov_grow (Ex.new hp)) ds vs hs)⟩
theorem ed_new (h : EvN K te σ H ds) : EvD K te σ H (.list ds) := fun H1 e Q q => h H1 e _ fun p xs H2 np e2 hp hs => q _ H2 e2 (.lst (sq_of (by
  have h1 := fresh_back e np
  unfold ov
  rw [h1, np]
  exact hp)) hs)
theorem atI_len {α β : Type} {xs : List α} {ys : List β} (h : xs.length = ys.length) {i : Int} {y : β} (hy : atI ys i = some y) : ∃ j : Nat, ys[j]? = some y ∧ ∀ x, xs[j]? = some x → atI xs i = some x := by
  unfold atI at hy ⊢
  cases e : ixN ys.length i with
  | none => rw [e] at hy; cases hy
  | some j =>
    rw [e] at hy
    refine ⟨j, hy, fun x hx => ?_⟩
    rw [h, e]
    exact hx
theorem ed_ixT {i : Int} (ha : EvD K ta σ H (.tuple ds)) (hb : Ev tb σ H (.int i)) (h : atI ds i = some d) : EvD K (tOp (rIxT K) ta tb) σ H d := fun H1 e Q q =>
  ha H1 e _ fun v H2 e2 hv => hb H2 (e.trans e2) _ fun H3 e3 => by
    cases hv with
    | tup hs hd =>
      obtain ⟨j, hj, hx⟩ := atI_len (dpa_len hd) h
      obtain ⟨x, ex, dx⟩ := dpa_at hd hj
      exact ⟨_, _, i, x, rfl, rfl, ex_t ((ov_ex e e2).trans e3) hs, hx x ex, q x H3 (e2.trans e3) (dp_mono (ov_grow e3) d x dx)⟩
theorem ed_ixL {i : Int} (ha : EvD K ta σ H (.list ds)) (hb : Ev tb σ H (.int i)) (h : atI ds i = some d) : EvD K (tOp (rIxL K) ta tb) σ H d := fun H1 e Q q =>
  ha H1 e _ fun v H2 e2 hv => hb H2 (e.trans e2) _ fun H3 e3 => by
    cases hv with
    | lst hs hd =>
      obtain ⟨j, hj, hx⟩ := atI_len (dpa_len hd) h
      obtain ⟨x, ex, dx⟩ := dpa_at hd hj
      exact ⟨_, _, i, x, rfl, rfl, ex_l ((ov_ex e e2).trans e3) hs, hx x ex, q x H3 (e2.trans e3) (dp_mono (ov_grow e3) d x dx)⟩
/-- the same part of two lists of one length -/
def cutA {α : Type} (xs : List α) (lo hi : Option Int) : List α := (xs.drop (HT.sIx xs.length 0 lo)).take (HT.sIx xs.length xs.length hi - HT.sIx xs.length 0 lo)
theorem dpa_cut {vs : List V} {lo hi : Option Int} (h : DpAll K H vs ds) : DpAll K H (cutV vs lo hi) (cutA ds lo hi) := by
  unfold cutV cutA
  rw [dpa_len h]
  exact dpa_take _ (dpa_drop _ h)
theorem ed_slT {tl th : TO} {lo hi : Option Int} (h : EvD K te σ H (.tuple ds)) (h1 : EvO tl σ H lo) (h2 : EvO th σ H hi) : EvD K (tSl (rSlA K) te tl th) σ H (.tuple (cutA ds lo hi)) := fun H1 e Q q =>
  h H1 e _ fun v H2 e2 hv => h1 H2 (e.trans e2) _ fun H3 e3 => h2 H3 ((e.trans e2).trans e3) _ fun H4 e4 => by
    have e24 := e2.trans (e3.trans e4)
    cases hv with
    | @tup a xs _ hs hd =>
      refine ⟨a, xs, rfl, ex_t ((ov_ex e e2).trans (e3.trans e4)) hs, fun hw => q _ H4 e24 (.tup (ex_t (ov_grow (e3.trans e4)) hs) ?_), fun _ p hp => q _ _ (e24.trans (Ex.new hp)) (.tup (st_of (ov_new e e24 hp)) (dpa_cut (dpa_mono (ov_grow ((e3.trans e4).trans (Ex.new hp))) ds xs hd)))⟩
      have ec : cutA ds lo hi = ds := by
        unfold cutA
        rw [← dpa_len hd, hw.1, hw.2, List.drop_zero, Nat.sub_zero, dpa_len hd, List.take_length]
      rw [ec]
      exact dpa_mono (ov_grow (e3.trans e4)) ds xs hd
theorem en_slL {tl th : TO} {lo hi : Option Int} (h : EvD K te σ H (.list ds)) (h1 : EvO tl σ H lo) (h2 : EvO th σ H hi) : EvN K (tSl (rSlL K) te tl th) σ H (cutA ds lo hi) := fun H1 e Q q =>
  h H1 e _ fun v H2 e2 hv => h1 H2 (e.trans e2) _ fun H3 e3 => h2 H3 ((e.trans e2).trans e3) _ fun H4 e4 => by
    have e24 := e2.trans (e3.trans e4)
    cases hv with
    | @lst a xs _ hs hd =>
      exact ⟨a, xs, rfl, ex_l ((ov_ex e e2).trans (e3.trans e4)) hs, fun p hp => q p _ _ (fresh_back e24 hp) (e24.trans (Ex.new hp)) upd_same (dpa_cut (dpa_mono (ov_grow ((e3.trans e4).trans (Ex.new hp))) ds xs hd))⟩
theorem ed_catT (ha : EvD K ta σ H (.tuple ds)) (hb : EvD K tb σ H (.tuple es)) (hl : ds.length + es.length ≤ 100000) : EvD K (tOp (rCatA K) ta tb) σ H (.tuple (ds ++ es)) := fun H1 e Q q =>
  ha H1 e _ fun v H2 e2 hv => hb H2 (e.trans e2) _ fun w H3 e3 hw => by
    have e13 := e2.trans e3
    cases hv with
    | @tup a xs _ hs hd =>
      cases hw with
      | @tup b ys _ ht he =>
        have hs3 := ex_t ((ov_ex e e2).trans e3) hs
        have ht3 := ex_t (ov_ex (e.trans e2) e3) ht
        have hd3 := dpa_mono (ov_grow e3) ds xs hd
        have he3 := dpa_mono (ov_later e2) es ys he
        have ld := dpa_len hd
        have le := dpa_len he
        refine ⟨a, b, xs, ys, rfl, rfl, hs3, ht3, sz_of (by omega), fun h0 => ?_, fun _ h0 => ?_, fun _ _ p hp => q _ _ (e13.trans (Ex.new hp)) (.tup (st_of (ov_new e e13 hp)) (dpa_app (dpa_mono (ov_grow (Ex.new hp)) ds xs hd3) (dpa_mono (ov_grow (Ex.new hp)) es ys he3)))⟩
        · have z : ds = [] := List.eq_nil_of_length_eq_zero (by rw [← ld, h0]; rfl)
          subst z
          exact q _ _ e13 (.tup (ex_t (ov_later e2) ht) he3)
        · have z : es = [] := List.eq_nil_of_length_eq_zero (by rw [← le, h0]; rfl)
          subst z
          exact q _ _ e13 (.tup (ex_t (ov_grow e3) hs) (by rw [List.append_nil]; exact hd3))
theorem en_cat (ha : EvN K ta σ H ds) (hb : EvN K tb σ H es) (hl : ds.length + es.length ≤ 100000) : EvN K (tOp rCat ta tb) σ H (ds ++ es) := fun H1 e Q q =>
  ha H1 e _ fun p xs H2 np e2 hp hs => hb H2 (e.trans e2) _ fun p' ys H3 np' e3 hp' ht =>
    ⟨p, p', xs, ys, rfl, rfl, e3 _ _ hp, hp', by rw [dpa_len hs, dpa_len ht]; exact sz_of hl, fun o ho => q o _ _ (fresh_back (e2.trans e3) ho) ((e2.trans e3).trans (Ex.new ho)) upd_same
      (dpa_app (dpa_mono (ov_grow (e3.trans (Ex.new ho))) ds xs hs) (dpa_mono ((ov_later e2).trans (ov_grow (Ex.new ho))) es ys ht))⟩
/-- a list that stands in the base, by its items -/
theorem en_tup {a : Addr} {xs : List V} (ha : Ev ta σ H (.ref a)) (hs : SqL K H a xs) (hd : DpAll K H xs ds) : EvD K (tThen ta (kTup K)) σ H (.tuple ds) := fun H1 e Q q =>
  ha H1 e _ fun H2 e2 => .inl ⟨a, xs, rfl, ex_l (e.trans e2) hs, fun p hp => q _ _ (e2.trans (Ex.new hp)) (.tup (st_of (ov_new e e2 hp)) (dpa_mono ov_base ds xs hd))⟩
theorem ed_tupOf (ha : EvD K ta σ H (.list ds)) : EvD K (tThen ta (kTup K)) σ H (.tuple ds) := fun H1 e Q q =>
  ha H1 e _ fun v H2 e2 hv => by
    cases hv with
    | @lst a xs _ hs hd => exact .inl ⟨a, xs, rfl, ex_l (ov_ex e e2) hs, fun p hp => q _ _ (e2.trans (Ex.new hp)) (.tup (st_of (ov_new e e2 hp)) (dpa_mono (ov_grow (Ex.new hp)) ds xs hd))⟩
theorem ev_eqD {n m : Nat} (ha : EvD K ta σ H d) (hb : EvD K tb σ H e) (sd : Sd n d) (se : Sd m e) (hn : n ≤ 64) (hm : m ≤ 64) : Ev (tOp (rEqD K) ta tb) σ H (.bl (PyData.eqv d e)) := fun H1 a Q q =>
  ha H1 a _ fun v H2 e2 hv => hb H2 (a.trans e2) _ fun w H3 e3 hw => ⟨d, e, dp_mono ((ov_ex a e2).trans e3) d v hv, dp_mono (ov_ex (a.trans e2) e3) e w hw, sd.shaped hn, se.shaped hm, q H3 (e2.trans e3)⟩
theorem ev_neD {n m : Nat} (ha : EvD K ta σ H d) (hb : EvD K tb σ H e) (sd : Sd n d) (se : Sd m e) (hn : n ≤ 64) (hm : m ≤ 64) : Ev (tOp (rNeD K) ta tb) σ H (.bl (!PyData.eqv d e)) := fun H1 a Q q =>
  ha H1 a _ fun v H2 e2 hv => hb H2 (a.trans e2) _ fun w H3 e3 hw => ⟨d, e, dp_mono ((ov_ex a e2).trans e3) d v hv, dp_mono (ov_ex (a.trans e2) e3) e w hw, sd.shaped hn, se.shaped hm, q H3 (e2.trans e3)⟩
/-- the two sides are one: != is False -/
theorem ev_neSelf {n : Nat} (ha : EvD K ta σ H d) (hb : EvD K tb σ H d) (sd : Sd n d) (hn : n ≤ 64) : Ev (tOp (rNeD K) ta tb) σ H (.bl false) := ev_is (ev_neD ha hb sd sd hn hn) (by rw [sd.self]; rfl)
theorem ev_eqSelf {n : Nat} (ha : EvD K ta σ H d) (hb : EvD K tb σ H d) (sd : Sd n d) (hn : n ≤ 64) : Ev (tOp (rEqD K) ta tb) σ H (.bl true) := ev_is (ev_eqD ha hb sd sd hn hn) (by rw [sd.self])
theorem ev_lenD (ha : EvD K ta σ H (.list ds)) : Ev (tCB (fun xs H Q => ∃ p ys, xs = [.ref p] ∧ (SqL K H p ys ∨ SqT K H p ys) ∧ Q (.int ys.length) H) (tCons ta tNil)) σ H (.int (ds.length : Int)) := fun H1 e Q q =>
  ha H1 e _ fun v H2 e2 hv => by
    cases hv with
    | @lst a xs _ hs hd => exact ⟨a, xs, rfl, .inl (ex_l (ov_ex e e2) hs), by rw [dpa_len hd]; exact q H2 e2⟩
theorem ev_lenDT (ha : EvD K ta σ H (.tuple ds)) : Ev (tCB (fun xs H Q => ∃ p ys, xs = [.ref p] ∧ (SqL K H p ys ∨ SqT K H p ys) ∧ Q (.int ys.length) H) (tCons ta tNil)) σ H (.int (ds.length : Int)) := fun H1 e Q q =>
  ha H1 e _ fun v H2 e2 hv => by
    cases hv with
    | @tup a xs _ hs hd => exact ⟨a, xs, rfl, .inr (ex_t (ov_ex e e2) hs), by rw [dpa_len hd]; exact q H2 e2⟩
theorem ed_if {b : Bool} (h : EvT t σ H b) (h1 : b = true → EvD K ta σ H d) (h2 : b = false → EvD K tb σ H d) : EvD K (tIf t ta tb) σ H d := fun H1 e Q q => h H1 e _ fun H2 e2 => by
  cases b with
  | true =>
    show ta σ H2 Q
    exact h1 rfl H2 (e.trans e2) Q fun v H3 e3 hv => q v H3 (e2.trans e3) (dp_mono (ov_later e2) d v hv)
  | false =>
    show tb σ H2 Q
    exact h2 rfl H2 (e.trans e2) Q fun v H3 e3 hv => q v H3 (e2.trans e3) (dp_mono (ov_later e2) d v hv)
/-- a promise that gives data, over a base that the caller names -/
def RetD (K : PySem.W.Frag) (B : Hp) (d : PyData) (H : Hp) (Q : VK) : Prop := ∀ v H2, Ex H H2 → Dp K (ov B H H2) v d → Q v H2
theorem ov_ov {B H H1 H2 : Hp} (e : Ex B H) (e1 : Ex H H1) (e2 : Ex H1 H2) : Ex (ov (ov B H H1) H1 H2) (ov B H H2) := fun a o h => by
  unfold ov at h ⊢
  cases h0 : B a with
  | some o' =>
    rw [h0] at h
    exact h
  | none =>
    rw [h0] at h
    cases h1 : H a with
    | some o' =>
      rw [h1, e1 a o' h1] at h
      cases h
    | none =>
      rw [h1] at h
      cases h3 : H1 a with
      | some o' =>
        rw [h3] at h
        rw [← h]
        exact e2 a o' h3
      | none =>
        rw [h3] at h
        exact h
def SpD (K : PySem.W.Frag) (sp : Sp) (vs : List V) (H : Hp) (d : PyData) : Prop := ∀ H1, Ex H H1 → ∀ Q : VK, (∀ v H2, Ex H1 H2 → Dp K (ov H H1 H2) v d → Q v H2) → ∀ E : XK, sp vs H1 Q E
theorem ed_call {sp : Sp} {dvs vs : List V} {E : XK} {ta : TA} (h : EvA ta σ H vs) (hs : SpD K sp (vs ++ dvs) H d) : EvD K (tCall sp dvs E ta) σ H d := fun H1 e Q q =>
  h H1 e _ fun H2 e2 => hs H2 (e.trans e2) Q (fun v H3 e3 hv => q v H3 (e2.trans e3) (dp_mono (ov_later e2) d v hv)) E
/-! ### statements -/
variable {D : Ends} {tz : TS} {i : Nat}
theorem dp_all {H2 : Hp} {v : V} {d : PyData} (e : Ex H H2) (h : Dp K (ov H H H2) v d) : Dp K H2 v d := dp_mono (ov_ex (Ex.refl H) e) d v h
theorem q_asgD (h : EvD K te σ H d) (k : ∀ v H1, Ex H H1 → Dp K H1 v d → tz D (σ.set i (some v)) H1) : tSeq (tAsg te (gName i)) tz D σ H := h H (Ex.refl H) _ fun v H1 e hv => k v H1 e (dp_mono (ov_ex (Ex.refl H) e) d v hv)
theorem s_asgD (h : EvD K te σ H d) (k : ∀ v H1, Ex H H1 → Dp K H1 v d → D.nx (σ.set i (some v)) H1) : tAsg te (gName i) D σ H := h H (Ex.refl H) _ fun v H1 e hv => k v H1 e (dp_mono (ov_ex (Ex.refl H) e) d v hv)
theorem q_asgN (h : EvN K te σ H ds) (k : ∀ p xs H1, H p = none → Ex H H1 → H1 p = some (.lst xs) → DpAll K H1 xs ds → tz D (σ.set i (some (.ref p))) H1) : tSeq (tAsg te (gName i)) tz D σ H :=
  h H (Ex.refl H) _ fun p xs H1 np e hp hs => k p xs H1 np e hp (dpa_mono (ov_ex (Ex.refl H) e) ds xs hs)
theorem q_asgDB {B : Hp} (eB : Ex B H) (h : EvD K te σ B d) (k : ∀ v H1, Ex H H1 → Dp K (ov B H H1) v d → tz D (σ.set i (some v)) H1) : tSeq (tAsg te (gName i)) tz D σ H := h H eB _ fun v H1 e hv => k v H1 e hv
theorem s_retDB {B : Hp} (eB : Ex B H) (h : EvD K te σ B d) (k : ∀ v H1, Ex H H1 → Dp K (ov B H H1) v d → D.rt v H1) : tRet te D σ H := h H eB _ k
theorem s_retD (h : EvD K te σ H d) (k : ∀ v H1, Ex H H1 → Dp K (ov H H H1) v d → D.rt v H1) : tRet te D σ H := h H (Ex.refl H) _ k
/-! ### a comprehension over a range, its items data -/
def givenD (n : Nat) (f : Nat → Bool) (g : Nat → PyData) : List PyData := ((List.range n).filter f).map g
theorem givenD_yes {n : Nat} {f : Nat → Bool} {g : Nat → PyData} (h : f n = true) : givenD (n + 1) f g = givenD n f g ++ [g n] := by
  unfold givenD
  rw [List.range_succ, List.filter_append, List.map_append, List.filter_cons, if_pos h]
  all_goals rfl
theorem givenD_no {n : Nat} {f : Nat → Bool} {g : Nat → PyData} (h : f n = false) : givenD (n + 1) f g = givenD n f g := by
  unfold givenD
  rw [List.range_succ, List.filter_append, List.map_append, List.filter_cons, if_neg (by rw [h]; decide)]
  show _ ++ [] = _
  rw [List.append_nil]
theorem givenD_len (n : Nat) (f : Nat → Bool) (g : Nat → PyData) : (givenD n f g).length ≤ n := by
  unfold givenD
  rw [List.length_map]
  have h := List.length_filter_le f (List.range n)
  rw [List.length_range] at h
  exact h
/-- the word of a comprehension over the base B, begun at H1: the items lean on the base and on what is new, not on the list itself -/
def CwD (K : PySem.W.Frag) (B H1 : Hp) (f : Nat → Bool) (g : Nat → PyData) (Dl : Addr) (i : Nat) (H' : Hp) : Prop := Ex B H' ∧ Ex H1 H' ∧ ∃ acc, H' Dl = some (.lst acc) ∧ DpAll K (ov B (upd H1 Dl (.lst [])) H') acc (givenD i f g)
theorem cwD_turn {B H1 H' : Hp} {f : Nat → Bool} {g : Nat → PyData} {Dl : Addr} {i : Nat} {σ2 : L2.St} (b1 : Ex B H1) (nD : H1 Dl = none) (p : CwD K B H1 f g Dl i H') (hi : i < 50000) (ht : EvT t σ2 B (f i)) (he : f i = true → EvD K te σ2 B (g i)) :
    t σ2 H' fun b H3 => if b = true then te σ2 H3 fun y H4 => ∃ acc, H4 Dl = some (.lst acc) ∧ acc.length < sizeLine ∧ CwD K B H1 f g Dl (i + 1) (upd H4 Dl (.lst (acc ++ [y]))) else CwD K B H1 f g Dl (i + 1) H3 := by
  obtain ⟨p1, p2, acc, p3, p4⟩ := p
  have nB : B Dl = none := fresh_back b1 nD
  refine ht H' p1 _ fun H3 e3 => ?_
  cases hf : f i with
  | true =>
    show te σ2 H3 fun y H4 => ∃ acc, H4 Dl = some (.lst acc) ∧ acc.length < sizeLine ∧ CwD K B H1 f g Dl (i + 1) (upd H4 Dl (.lst (acc ++ [y])))
    refine he hf H3 (p1.trans e3) _ fun y H4 e4 hy => ⟨acc, e4 Dl _ (e3 Dl _ p3), sz_lt (by rw [dpa_len p4]; have := givenD_len i f g; omega), Ex.mut ((p1.trans e3).trans e4) nB, Ex.mut ((p2.trans e3).trans e4) nD, _, upd_same, ?_⟩
    have k1 : Ex (ov B H3 H4) (ov B (upd H1 Dl (.lst [])) (upd H4 Dl (.lst (acc ++ [y])))) := fun a o ha => by
      unfold ov at ha ⊢
      cases h0 : B a with
      | some o' => rw [h0] at ha; exact ha
      | none =>
        rw [h0] at ha
        cases h3 : H3 a with
        | some o' => rw [h3] at ha; cases ha
        | none =>
          rw [h3] at ha
          have ne : a ≠ Dl := fun e => by
            rw [e, e3 Dl _ p3] at h3
            cases h3
          rw [upd_ne ne, fresh_back (p2.trans e3) h3]
          show upd H4 Dl _ a = some o
          rw [upd_ne ne]
          exact ha
    have k2 : Ex (ov B (upd H1 Dl (.lst [])) H') (ov B (upd H1 Dl (.lst [])) (upd H4 Dl (.lst (acc ++ [y])))) := fun a o ha => by
      unfold ov at ha ⊢
      cases h0 : B a with
      | some o' => rw [h0] at ha; exact ha
      | none =>
        rw [h0] at ha
        by_cases ne : a = Dl
        · rw [ne, upd_same] at ha
          cases ha
        · rw [upd_ne ne] at ha ⊢
          cases h1 : H1 a with
          | some o' => rw [h1] at ha; cases ha
          | none =>
            rw [h1] at ha
            show upd H4 Dl _ a = some o
            rw [upd_ne ne]
            exact e4 a o (e3 a o ha)
    rw [givenD_yes hf]
    exact dpa_app (dpa_mono k2 _ _ p4) (dpa_one (dp_mono k1 _ _ hy))
  | false =>
    show CwD K B H1 f g Dl (i + 1) H3
    refine ⟨p1.trans e3, p2.trans e3, acc, e3 Dl _ p3, ?_⟩
    rw [givenD_no hf]
    exact dpa_mono (ov_grow e3) _ _ p4
theorem cwD_start {B H1 : Hp} {f : Nat → Bool} {g : Nat → PyData} {Dl : Addr} (b1 : Ex B H1) (nD : H1 Dl = none) : CwD K B H1 f g Dl 0 (upd H1 Dl (.lst [])) := ⟨b1.trans (Ex.new nD), Ex.new nD, [], upd_same, .nil⟩
theorem cwD_end {B H1 H' : Hp} {f : Nat → Bool} {g : Nat → PyData} {Dl : Addr} {n : Nat} (p : CwD K B H1 f g Dl n H') : ∃ acc, H' Dl = some (.lst acc) ∧ DpAll K (ov B H1 H') acc (givenD n f g) := by
  obtain ⟨_, _, acc, p3, p4⟩ := p
  refine ⟨acc, p3, dpa_mono (fun a o ha => ?_) _ _ p4⟩
  unfold ov at ha ⊢
  cases h0 : B a with
  | some o' => rw [h0] at ha; exact ha
  | none =>
    rw [h0] at ha
    by_cases ne : a = Dl
    · rw [ne, upd_same] at ha
      cases ha
    · rw [upd_ne ne] at ha
      exact ha
theorem en_lcR1 {ta : TA} {j : Nat} {vs : List Nat} {n : Int} (f : Nat → Bool) (g : Nat → PyData) (h : EvA ta σ H [.int n]) (hn : 0 ≤ n ∧ n ≤ 40000) (hw : ∀ x, wipe ((wipe σ vs).set j (some x)) vs = wipe σ vs)
    (ht : ∀ i : Nat, (i : Int) < n → EvT t ((wipe σ vs).set j (some (.int (i : Int)))) H (f i)) (he : ∀ i : Nat, (i : Int) < n → f i = true → EvD K te ((wipe σ vs).set j (some (.int (i : Int)))) H (g i)) :
    EvN K (tLc (iRng1 ta) (gName j) t te vs) σ H (givenD n.toNat f g) := fun H0 e Q q => h H0 e _ fun H1 e1 => ⟨n, rfl, by omega, by omega, fun Dl hD =>
  lc_range (lo := 0) (n := n.toNat) (CwD K H H1 f g Dl) (cwD_start (e.trans e1) hD) (fun i H' hi p => by
    have e0 : (0 : Int) + (i : Int) = (i : Int) := Int.zero_add _
    show wipe ((wipe σ vs).set j (some (.int ((0 : Int) + (i : Int))))) vs = wipe σ vs ∧ t ((wipe σ vs).set j (some (.int ((0 : Int) + (i : Int))))) H' fun b H3 => if b = true then te ((wipe σ vs).set j (some (.int ((0 : Int) + (i : Int))))) H3 fun y H4 => ∃ acc, H4 Dl = some (.lst acc) ∧ acc.length < sizeLine ∧ CwD K H H1 f g Dl (i + 1) (upd H4 Dl (.lst (acc ++ [y]))) else CwD K H H1 f g Dl (i + 1) H3
    rw [e0]
    exact ⟨hw _, cwD_turn (e.trans e1) hD p (by omega) (ht i (by omega)) (fun hf => he i (by omega) hf)⟩) (fun H' p => by
      obtain ⟨acc, h1, h2⟩ := cwD_end p
      exact q Dl acc H' (fresh_back e1 hD) (e1.trans p.2.1) h1 (dpa_mono (ov_later e1) _ _ h2))⟩
theorem et_nil : EvT tYes σ H true := fun H1 _ _ q => q H1 (Ex.refl H1)
end
end Ap

set_option Elab.async false
set_option linter.all false
set_option maxRecDepth 100000
namespace Ap
open PySem PySem.Spec PyProof.Rows L2 Evl
/-! ### a method that may raise, called where the wish hangs on the slots -/
def tMX (C : Addr) (m : Str) (sp : Sp) (E : L2.St → XK) (ta : TE) (t : TA) : TE := fun σ H Q => ta σ H fun x G => ∃ a dx fs, x = .ref a ∧ G a = some (.ins C dx fs) ∧ fs.lookup m = none ∧ t σ G fun vs G2 => sp (x :: vs) G2 Q (E σ)
theorem pe_mx {X : Cx} {CX : CXT} {k : Nat} {f C : Addr} {fd : FuncData} {ps : List Str} {sp : Sp} {E : L2.St → XK} {m : Str} {pos apos : Pos} {e o : Expr} {es : List Expr} {ta : TE} {t : TA} {pl : Sem Bool}
    (he : PE X o ta) (c : Cls X.K C) (hm : Meth X.K C m f) (F : FnOk X.prog X.w X.K X.mg X.base CX k f fd ps sp) (hr : Room k X.A) (hb : Binds X.K fd ps []) (hx : ∀ σ, PassesAt CX X σ (E σ)) (ha : PA X (e :: es) t)
    (z1 : starEach (e :: es) X.env = (false, eval e X.env) :: starEach es X.env := by rfl) (z2 : (backTo pos (starEach es X.env)).any (·.1) = false := by rfl)
    (z3 : eval (.Call (.Attribute o m apos) (e :: es) [] pos) X.env = (do { let ov ← eval o X.env; standAt apos.atName; let (f, first) ← holding [ov] (getMethod ov m pl); callWith pos f first (backTo pos (starEach (e :: es) X.env)) (backToKw pos (keywordEach [] X.env)) }) := by rfl) :
    PE X (.Call (.Attribute o m apos) (e :: es) [] pos) (tMX C m sp E ta t) := ⟨fun pins s σ H Q I h => PySem.W.methodCall_KW (pl := pl) (thn (he.run pins s σ H _ I h) fun u s1 hh => by
  obtain ⟨x, G, J, rx, a, dx, fs, ex, ea, l, q⟩ := hh
  subst ex
  cases (show u = Value.ref a from rx)
  exact getmeth_ok J ea c hm l (PySem.W.callWith_K (first := [.ref a]) (h₀ := X.base) I.ok.mod.kin hm.kp (thn (ha.run pos pins s1 σ G _ J q) fun us s2 ⟨vs, G2, J2, r, q2⟩ => ⟨J2.kIn, run_fnS (us := .ref a :: us) (vs := .ref a :: vs) F hr hb (hx σ) J2 (.cons rfl r) q2⟩) z1 z2)) z3⟩
/-- a block under a proposition -/
theorem pss_guard {X : Cx} {b : List Stmt} {t : TS} {p : Prop} (h : p → PSs X b t) : PSs X b (fun D σ H => p ∧ t D σ H) := ⟨fun pins s σ H D I q => (h q.1).run pins s σ H D I q.2⟩
/-- try: .. except X as n: suite, the errors of the body of one own class without fields -/
theorem ps_try_own {X : Cx} {C : Addr} {x n : Str} {c : Value} {i : Nat} {body suite : List Stmt} {b₀ : Stmt} {np pos pos' : Pos} {tb : WX → TS} {ts : Addr → TS} {Wout : WX} (hs : X.stack = X.env :: X.outer) (hf : X.env.frame = some X.env.locals) (hN : X.N.Nodup) (hi : X.N[i]? = some n) (hln : X.env.kindOf n = some .local) (hc : Names X x c) (tk : Takes X Wout)
    (hb : ∀ (W : WX) (pn : List (Addr × Obj)) (xe : Value → Shared → Prop), Takes (X.tr pn xe) W → PSs (X.tr pn xe) body (tb W))
    (hsu : ∀ (a : Addr) (oe : Obj) (pn : List (Addr × Obj)), Zc (.ref C) none oe → (∃ vs, oe.data = .fields vs) → PSs (X.suite a ((a, oe) :: pn)) (b₀ :: suite) (ts a)) :
    PS X (.Try body [.ExceptHandler (some (.Name x np)) (some n) (b₀ :: suite) pos'] [] [] pos) (fun D σ H => tb (wAs X.K c i (fun a cls d D σ H => (cls = .ref C ∧ d = none) ∧ ts a D σ H) Wout D) D σ H) :=
  ps_try_as hs hf hN hi hln hc tk (fun W pn xe tk' _ => hb W pn xe tk') (fun a oe cls d pn hz hf => pss_guard fun h => by
    obtain ⟨h1, h2⟩ := h
    subst h1
    subst h2
    exact hsu a oe pn hz hf)
/-- the same without a name -/
theorem ps_try_ownN {X : Cx} {C : Addr} {x : Str} {c : Value} {body suite : List Stmt} {b₀ : Stmt} {np pos pos' : Pos} {tb : WX → TS} {ts : Addr → TS} {Wout : WX} (hs : X.stack = X.env :: X.outer) (hf : X.env.frame = some X.env.locals) (hc : Names X x c) (tk : Takes X Wout)
    (hb : ∀ (W : WX) (pn : List (Addr × Obj)) (xe : Value → Shared → Prop), Takes (X.tr pn xe) W → PSs (X.tr pn xe) body (tb W))
    (hsu : ∀ (a : Addr) (oe : Obj) (pn : List (Addr × Obj)), Zc (.ref C) none oe → (∃ vs, oe.data = .fields vs) → PSs (X.suite a ((a, oe) :: pn)) (b₀ :: suite) (ts a)) :
    PS X (.Try body [.ExceptHandler (some (.Name x np)) none (b₀ :: suite) pos'] [] [] pos) (fun D σ H => tb (wOnly X.K c (fun a cls d D σ H => (cls = .ref C ∧ d = none) ∧ ts a D σ H) Wout D) D σ H) :=
  ps_try_only hs hf hc tk (fun W pn xe tk' _ => hb W pn xe tk') (fun a oe cls d pn hz hf => pss_guard fun h => by
    obtain ⟨h1, h2⟩ := h
    subst h1
    subst h2
    exact hsu a oe pn hz hf)
/-- an own error class C over ValueError (through B), as the top left it -/
structure Err (K : PySem.W.Frag) (mg : Str → Option Value) (x : Str) (C B : Addr) : Prop where
  g : mg x = some (.ref C)
  kp : PySem.W.keepIn K (.ref C) = true
  ex : PySem.W.excIn K C [.type "ValueError", .type "Exception", .type "BaseException", .type "object"] "ValueError.__new__" = true
  bs : PySem.W.subIn K (.ref C) (.type "BaseException") = some true
  ty : PySem.W.typeIn K (.ref C) = some (.type "type")
  me : PySem.W.exmOne K (.ref C) (.ref C) = some true
  ec : ExcC K C
  k1 : PySem.W.kitOne K (.ref C) (.ref B) = some true
  k2 : PySem.W.kitOne K (.ref C) (.type "ValueError") = some true
theorem Err.mk' {X : Cx} {x m : Str} {C B : Addr} {j : Nat} {p p2 pos : Pos} (T : Err X.K X.mg x C B) (hg : Gl X x) (hdb : (x == ("__debug__" : Str)) = false := by decide) : PMk X (.Call (.Name x p) [.Constant (.str m) j p2] [] pos) (fun _ H Q => Q (.ref C) none H) :=
  pmk_own PySem.F.excBase_ValueError T.ex T.g T.kp (raises_own T.bs T.ty) hg hdb
/-- isinstance(e, T), e the error in hand -/
theorem ev_isE {K : PySem.W.Frag} {σ : L2.St} {H : Hp} {tx : TE} {D a : Addr} {i : Nat} {c : V} {cv : Value} {b : Bool} (h : σ[i]? = some (some (.ref a))) (hx : Ev tx σ H c) (hc : ∀ u, RelV c u → u = cv) (k : PySem.W.kitOne K (.ref D) cv = some b) : Ev (tCB (rIsE K D a) (tCons (tVar i) (tCons tx tNil))) σ H (.bl b) :=
  ev_cb (ea_cons (ev_var h) (ea_cons hx ea_nil)) fun H1 _ Q q => ⟨c, cv, b, rfl, hc, k, q H1 (Ex.refl H1)⟩
/-! ### slices and comprehensions of data -/
theorem cutA_from {α : Type} (xs : List α) (m : Nat) : cutA xs (some (m : Int)) none = xs.drop m := by
  unfold cutA
  rw [show HT.sIx xs.length 0 (some ((m : Nat) : Int)) = min m xs.length from HT.sIx_nat xs.length 0 m, HT.sIx_none]
  by_cases h : m ≤ xs.length
  · rw [Nat.min_eq_left h, ← List.length_drop, List.take_length]
  · rw [Nat.min_eq_right (by omega), List.drop_length, List.drop_eq_nil_of_le (by omega), List.take_nil]
theorem filter_from (m : Nat) : ∀ n : Nat, (List.range n).filter (fun k => decide (m ≤ k)) = (List.range n).drop m
  | 0 => by simp
  | n + 1 => by
    rw [List.range_succ, List.filter_append, filter_from m n]
    by_cases h : m ≤ n
    · rw [List.drop_append_of_le_length (by rw [List.length_range]; exact h), List.filter_cons, if_pos (by exact decide_eq_true h)]
      all_goals rfl
    · rw [List.filter_cons, if_neg (by rw [decide_eq_false h]; decide), List.filter_nil, List.append_nil, List.drop_eq_nil_of_le (by rw [List.length_range]; omega), List.drop_eq_nil_of_le (by rw [List.length_append, List.length_range, List.length_singleton]; omega)]
theorem range_getD {α : Type} (xs : List α) (d : α) : (List.range xs.length).map (fun i => xs.getD i d) = xs := by
  refine List.ext_getElem (by simp) (fun i h1 h2 => ?_)
  rw [List.getElem_map, List.getElem_range, List.getD_eq_getElem?_getD, List.getElem?_eq_getElem h2]
  rfl
theorem givenD_from (ds : List PyData) (m : Nat) (f : Nat → Bool) (hf : ∀ k, k < ds.length → f k = decide (m ≤ k)) : givenD ds.length f (fun k => ds.getD k .none) = ds.drop m := by
  unfold givenD
  have e : (List.range ds.length).filter f = (List.range ds.length).filter (fun k => decide (m ≤ k)) := List.filter_congr fun k hk => hf k (List.mem_range.mp hk)
  rw [e, filter_from, List.map_drop, range_getD]
theorem givenD_all (n : Nat) (g : Nat → PyData) : givenD n (fun _ => true) g = (List.range n).map g := by
  unfold givenD
  rw [List.filter_eq_self.mpr (fun _ _ => rfl)]
theorem atI_getD {α : Type} {xs : List α} {i : Int} {d : α} (h0 : 0 ≤ i) (h1 : i < (xs.length : Int)) : atI xs i = some (xs.getD i.toNat d) := by
  obtain ⟨j, rfl⟩ := Int.eq_ofNat_of_zero_le h0
  have hj : j < xs.length := by omega
  refine atI_nat ?_
  rw [show ((j : Int)).toNat = j from rfl, List.getD_eq_getElem?_getD, List.getElem?_eq_getElem hj]
  rfl
/-- range with great bounds -/
theorem q_forRngB {σ : L2.St} {H : Hp} {D : Ends} {tz : TS} {ta : TA} {j : Nat} {lo n : Int} {tu : TS} (h : EvA ta σ H [.int lo, .int n]) (hn : -(2 ^ 62) ≤ lo ∧ lo < 2 ^ 62 ∧ -(2 ^ 62) ≤ n ∧ n < 2 ^ 62) (Pv : Nat → L2.St → Hp → Prop) (h0 : ∀ H1, Ex H H1 → Pv 0 σ H1)
    (hs : ∀ (i : Nat) σ' H', lo + (i : Int) < n → Pv i σ' H' → tu { D with nx := Pv (i + 1), ct := Pv (i + 1), bk := tz D } (σ'.set j (some (.int (lo + (i : Int))))) H') (hd : ∀ σ' H', Pv (n - lo).toNat σ' H' → tz D σ' H') : tSeq (tFor (iRng2 ta) (gName j) tu) tz D σ H :=
  h H (Ex.refl H) _ fun H1 e => ⟨lo, n, rfl, hn, for_range (lo := lo) (n := (n - lo).toNat) Pv (h0 H1 e) (fun i σ' H' hi p => hs i σ' H' (by omega) p) hd⟩

/-! ### a method of the text, its class's own -/
structure Dm (K : PySem.W.Frag) (C : Addr) (x qual : Str) (st : Stmt) (ps : List Str) (f : Addr) (fd : FuncData) : Prop where
  F : Fun K x qual st f fd
  b : Binds K fd ps []
  m : Meth K C x f
theorem dm_mk {K : PySem.W.Frag} {h : Heap} (X : K.In h) {C : Addr} {x qual : Str} {st : Stmt} {ps : List Str} {f : Addr} {oc : Value} {od an : Option Addr} {sl : Array (Option Value)} {kV dc pm cd ct : Value}
    (a : PySem.W.findIn K (.ref C) x = some (some (.ref f))) (i : PySem.W.isFn K (.ref f) = true) (l : K.lookup f = some ⟨oc, od, .func (PySem.W.fnOf x qual (defArgs st) (defBody st) (defScope st) .none kV dc pm an cd ct), sl⟩) (c : PySem.W.codeIn K cd qual = true) (k : PySem.W.keepIn K (.ref f) = true)
    (hb : ∀ (kV doc pm : Value) (an : Option Addr) (cdv ct : Value) (us : List Value), us.length = ps.length → bindArgs (PySem.W.fnOf x qual (defArgs st) (defBody st) (defScope st) .none kV doc pm an cdv ct) ⟨us, []⟩ = pure (ps.zip us)) :
    ∃ f fd, Dm K C x qual st ps f fd := ⟨_, _, fun_mk l c k, (fun_mk l c k).binds hb, ⟨a, i, k⟩⟩
/-- a class of the text with an __init__ -/
structure Kl (K : PySem.W.Frag) (mg : Str → Option Value) (x : Str) (C : Addr) : Prop where
  cl : Cls K C
  g : mg x = some (.ref C)
  makes : PySem.W.makesIn K C = true
  kp : PySem.W.keepIn K (.ref C) = true
theorem Kl.make {K : PySem.W.Frag} {mg : Str → Option Value} {x : Str} {C f : Addr} {q : Str} {st : Stmt} {ps : List Str} {fd : FuncData} (L : Kl K mg x C) (D : Dm K C "__init__" q st ps f fd) : Mk K C f := ⟨L.makes, D.m.at_, D.m.fn, L.kp⟩
theorem kl_mk {K : PySem.W.Frag} {h : Heap} {mg : Str → Option Value} {x : Str} {C : Addr} (X : K.In h) (G : h.Ns mainGlobals mg) (a : PySem.W.nsIn K mainGlobals x = some (some (.ref C))) (pg : PySem.W.plainGet K C Str.empty = true) (hd : PySem.W.hasDictIn K C = true) (po : PySem.W.plainOver K C = true)
    (sa : PySem.W.findIn K (.ref C) "__setattr__" = some (some (.builtin "object.__setattr__"))) (mk : PySem.W.makesIn K C = true) (kp : PySem.W.keepIn K (.ref C) = true) : Kl K mg x C := ⟨⟨pg, hd, po, sa⟩, PySem.W.mg_of X G a, mk, kp⟩
theorem na_mk {K : PySem.W.Frag} {h : Heap} {C : Addr} {f : Str} (X : K.In h) (a : PySem.W.findIn K (.ref C) f = some none) : NoAttr K C f := a
/-- a property of an own class: its getter -/
structure Pr (K : PySem.W.Frag) (C : Addr) (x qual : Str) (st : Stmt) (f : Addr) (fd : FuncData) : Prop where
  F : Fun K x qual st f fd
  b : Binds K fd ["self"] []
  p : ∃ p, PropOf K C x p f
theorem pr_mk {K : PySem.W.Frag} {h : Heap} (X : K.In h) {C : Addr} {x qual : Str} {st : Stmt} {f p : Addr} {rest : List Value} {oc : Value} {od an : Option Addr} {sl : Array (Option Value)} {kV dc pm cd ct : Value}
    (a : PySem.W.findIn K (.ref C) x = some (some (.ref p))) (g : PySem.W.specialIn K (.ref p) "__get__" = some (some (.builtin "property.__get__"))) (t : PySem.W.takesIn K (.ref p) = some true) (r : PySem.W.recIn K p "property" = some (.ref f :: rest))
    (l : K.lookup f = some ⟨oc, od, .func (PySem.W.fnOf x qual (defArgs st) (defBody st) (defScope st) .none kV dc pm an cd ct), sl⟩) (c : PySem.W.codeIn K cd qual = true) (k : PySem.W.keepIn K (.ref f) = true)
    (hb : ∀ (kV doc pm : Value) (an : Option Addr) (cdv ct : Value) (us : List Value), us.length = (["self"] : List Str).length → bindArgs (PySem.W.fnOf x qual (defArgs st) (defBody st) (defScope st) .none kV doc pm an cdv ct) ⟨us, []⟩ = pure ((["self"] : List Str).zip us)) :
    ∃ f fd, Pr K C x qual st f fd := ⟨_, _, fun_mk l c k, (fun_mk l c k).binds hb, p, ⟨a, g, t, rest, r⟩⟩
theorem pe_pr {X : Cx} {CX : CXT} {k : Nat} {C g : Addr} {f : Str} {fd : FuncData} {sp : Sp} {E : XK} {e : Expr} {pos : Pos} {ta : TE} {q : Str} {st : Stmt} (he : PE X e ta) (c : Cls X.K C) (hp : Pr X.K C f q st g fd) (F : FnOk X.prog X.w X.K X.mg X.base CX k g fd ["self"] sp) (hr : Room (k + 1) X.A) (hx : Passes CX X.nox E)
    (hab : attributeBase e f X.env (eval e X.env) = eval e X.env) : PE X (.Attribute e f pos) (tProp C sp [] E ta) := by
  obtain ⟨p, hp'⟩ := hp.p
  exact pe_prop he c hp' F hr hp.b .nil hx hab
section
variable {K : PySem.W.Frag} {σ : L2.St} {H H' : Hp} {ta tb te : TE} {ds es : List PyData}
theorem en_catV {a : Addr} {xs : List V} (ha : Ev ta σ H (.ref a)) (h : H a = some (.lst xs)) (hd : DpAll K H xs ds) (hb : EvN K tb σ H es) (hl : ds.length + es.length ≤ 100000) : EvN K (tOp rCat ta tb) σ H (ds ++ es) := fun H1 e Q q =>
  ha H1 e _ fun H2 e2 => hb H2 (e.trans e2) _ fun p' ys H3 np' e3 hp' ht =>
    ⟨a, p', xs, ys, rfl, rfl, ((e.trans e2).trans e3) _ _ h, hp', by rw [dpa_len hd, dpa_len ht]; exact sz_of hl, fun o ho => q o _ _ (fresh_back (e2.trans e3) ho) ((e2.trans e3).trans (Ex.new ho)) upd_same
      (dpa_app (dpa_mono ov_base ds xs hd) (dpa_mono ((ov_later e2).trans (ov_grow (Ex.new ho))) es ys ht))⟩
theorem el_cat {xs ys : List V} (ha : EvL ta σ H xs) (hb : EvL tb σ H ys) (hl : xs.length + ys.length ≤ 100000) : EvL (tOp rCat ta tb) σ H (xs ++ ys) := fun H1 e Q q =>
  ha H1 e _ fun p H2 np e2 hp => hb H2 (e.trans e2) _ fun p' H3 np' e3 hp' => ⟨p, p', xs, ys, rfl, rfl, e3 _ _ hp, hp', sz_of hl, fun o ho => q o _ (fresh_back (e2.trans e3) ho) ((e2.trans e3).trans (Ex.new ho)) upd_same⟩
theorem el_rg2 {a b : Int} (ha : Ev ta σ H (.int a)) (hb : Ev tb σ H (.int b)) (ok : RgOk a b) : EvL (tLstRg (tRg2 ta tb)) σ H (rgV a b) := fun H1 e Q q =>
  ha H1 e _ fun H2 e2 => hb H2 (e.trans e2) _ fun H3 e3 => ⟨a, b, rfl, rfl, ok, fun p hp => q p _ (fresh_back (e2.trans e3) hp) ((e2.trans e3).trans (Ex.new hp)) upd_same⟩
theorem rc_max2 {i j : Int} : RC (fun xs H Q => ∃ i j, xs = [.int i, .int j] ∧ Q (.int (if j > i then j else i)) H) [.int i, .int j] H (.int (if j > i then j else i)) := fun H1 _ Q q => ⟨i, j, rfl, q H1 (Ex.refl H1)⟩
theorem rc_min2 {i j : Int} : RC (fun xs H Q => ∃ i j, xs = [.int i, .int j] ∧ Q (.int (if j < i then j else i)) H) [.int i, .int j] H (.int (if j < i then j else i)) := fun H1 _ Q q => ⟨i, j, rfl, q H1 (Ex.refl H1)⟩
end
theorem q_forRng3 {σ : L2.St} {H : Hp} {D : Ends} {tz : TS} {ta : TA} {j : Nat} {lo hi c : Int} {n : Nat} {tu : TS} (h : EvA ta σ H [.int lo, .int hi, .int c]) (hn : RgC lo hi c n) (Pv : Nat → L2.St → Hp → Prop) (h0 : ∀ H1, Ex H H1 → Pv 0 σ H1)
    (hs : ∀ (i : Nat) σ' H', i < n → Pv i σ' H' → tu { D with nx := Pv (i + 1), ct := Pv (i + 1), bk := tz D } (σ'.set j (some (.int (lo + (i : Int) * c)))) H') (hd : ∀ σ' H', Pv n σ' H' → tz D σ' H') : tSeq (tFor (iRng3 ta) (gName j) tu) tz D σ H :=
  h H (Ex.refl H) _ fun H1 e => ⟨lo, hi, c, n, rfl, hn, for_it walk_rangeC Pv (h0 H1 e) (fun _ _ _ _ _ => trivial) (fun i x σ' H1 H' hi p y => by
    obtain ⟨rfl, rfl⟩ := y
    exact hs i σ' _ hi p) hd⟩
/-- the part of a list from lo to hi -/
def rng {α : Type} (xs : List α) (lo hi : Nat) : List α := (xs.drop lo).take (hi - lo)
theorem rng_drop {α : Type} (xs : List α) (lo hi k : Nat) : (rng xs lo hi).drop k = rng xs (lo + k) hi := by
  unfold rng
  rw [List.drop_take, List.drop_drop, Nat.sub_sub]
theorem rng_nil {α : Type} (xs : List α) {lo hi : Nat} (h : hi ≤ lo) : rng xs lo hi = [] := by
  unfold rng
  rw [Nat.sub_eq_zero_of_le h, List.take_zero]
theorem rng_app {α : Type} (xs : List α) {a b c : Nat} (h1 : a ≤ b) (h2 : b ≤ c) : rng xs a b ++ rng xs b c = rng xs a c := by
  unfold rng
  have e : c - a = (b - a) + (c - b) := by omega
  rw [e, List.take_add, List.drop_drop, show a + (b - a) = b by omega]
theorem rng_len {α : Type} (xs : List α) {lo hi : Nat} (h1 : lo ≤ hi) (h2 : hi ≤ xs.length) : (rng xs lo hi).length = hi - lo := by
  unfold rng
  rw [List.length_take, List.length_drop]
  omega
theorem rng_all {α : Type} (xs : List α) (lo : Nat) : rng xs lo xs.length = xs.drop lo := by
  unfold rng
  rw [← List.length_drop, List.take_length]
theorem cutA_rng {α : Type} (xs : List α) {lo hi : Nat} (h : lo ≤ xs.length) : cutA xs (some (lo : Int)) (some (hi : Int)) = rng xs lo (min hi xs.length) := by
  unfold cutA rng
  rw [HT.sIx_nat, HT.sIx_nat, Nat.min_eq_left h]
theorem Sds.rng {n : Nat} {ds : List PyData} (h : Sds n ds) (a b : Nat) : Sds n (Ap.rng ds a b) := (h.drop _).take _
section
variable {σ : L2.St} {H : Hp} {ta : TE} {p : Addr}
theorem et_isY (h : Ev ta σ H .non) : EvT (tTest (tOp (fun x y H Q => y = .non ∧ Q (.bl (decide (x = .non))) H) ta (tC .non))) σ H true := et_test (ev_is (ev_op h ev_c (fun G _ _ q => ⟨rfl, q G (Ex.refl G)⟩)) (by rfl))
theorem et_isR (h : Ev ta σ H (.ref p)) : EvT (tTest (tOp (fun x y H Q => y = .non ∧ Q (.bl (decide (x = .non))) H) ta (tC .non))) σ H false := et_test (ev_is (v := .bl (decide (V.ref p = .non))) (ev_op h ev_c (fun G _ _ q => ⟨rfl, q G (Ex.refl G)⟩)) (by rw [decide_eq_false (fun h => nomatch h)]))
theorem et_notY (h : Ev ta σ H .non) : EvT (tTest (tOp (fun x y H Q => y = .non ∧ Q (.bl (!decide (x = .non))) H) ta (tC .non))) σ H false := et_test (ev_is (ev_op h ev_c (fun G _ _ q => ⟨rfl, q G (Ex.refl G)⟩)) (by rfl))
theorem et_notR (h : Ev ta σ H (.ref p)) : EvT (tTest (tOp (fun x y H Q => y = .non ∧ Q (.bl (!decide (x = .non))) H) ta (tC .non))) σ H true := et_test (ev_is (v := .bl (!decide (V.ref p = .non))) (ev_op h ev_c (fun G _ _ q => ⟨rfl, q G (Ex.refl G)⟩)) (by rw [decide_eq_false (fun h => nomatch h)]; rfl))
end
theorem kit_own {K : PySem.W.Frag} {t : Value} {B : Addr} (hd : PySem.W.hasDictIn K B = true) (ht : PySem.W.typeIn K (.ref B) = some (.type "type")) (hs : PySem.W.subIn K t (.ref B) = some true) : PySem.W.kitOne K t (.ref B) = some true := by
  obtain ⟨cd, hc, _⟩ := PySem.W.any_some hd
  unfold PySem.W.kitOne
  split
  · rfl
  · show (if ((PySem.W.clsIn K B).isSome && PySem.W.typeIn K (.ref B) == some (.type "type")) = true then PySem.W.subIn K t (.ref B) else none) = some true
    rw [hc, ht, if_pos (by rfl)]
    exact hs
theorem kit_blt {K : PySem.W.Frag} {t : Value} {n : String} (hm : PySem.W.kitMeta n = true) (hs : PySem.W.subIn K t (.type n) = some true) : PySem.W.kitOne K t (.type n) = some true := by
  unfold PySem.W.kitOne
  split
  · rfl
  · show (if PySem.W.kitMeta n = true then PySem.W.subIn K t (.type n) else none) = some true
    rw [if_pos hm]
    exact hs
theorem err_mk {K : PySem.W.Frag} {h : Heap} {mg : Str → Option Value} {x y : Str} {C B : Addr} (X : K.In h) (G : h.Ns mainGlobals mg) (a : PySem.W.nsIn K mainGlobals x = some (some (.ref C))) (b : PySem.W.nsIn K mainGlobals y = some (some (.ref B))) (kp : PySem.W.keepIn K (.ref C) = true)
    (ex : PySem.W.excIn K C [.type "ValueError", .type "Exception", .type "BaseException", .type "object"] "ValueError.__new__" = true) (bs : PySem.W.subIn K (.ref C) (.type "BaseException") = some true) (ty : PySem.W.typeIn K (.ref C) = some (.type "type")) (ss : PySem.W.subIn K (.ref C) (.ref C) = some true)
    (hg : PySem.W.findIn K (.ref C) "__getattribute__" = some (some (.builtin "BaseException.__getattribute__"))) (hk : PySem.W.findIn K (.ref C) "__getattr__" = some none) (hd : PySem.W.hasDictIn K C = true) (ha : PySem.W.findIn K (.ref C) "__class__" = some (some (.builtin "object.__class__")))
    (hn : PySem.W.specialIn K (.builtin "object.__class__") "__get__" = some (some (.builtin "getset_descriptor.__get__"))) (ht : PySem.W.takesIn K (.builtin "object.__class__") = some true) (hm : PySem.W.mroIn K C (.type "object") = some true)
    (dB : PySem.W.hasDictIn K B = true) (tB : PySem.W.typeIn K (.ref B) = some (.type "type")) (sb : PySem.W.subIn K (.ref C) (.ref B) = some true) (sv : PySem.W.subIn K (.ref C) (.type "ValueError") = some true) : Err K mg x C B ∧ mg y = some (.ref B) :=
  ⟨⟨PySem.W.mg_of X G a, kp, ex, bs, ty, PySem.W.exm_ref bs hd ty ss, ⟨hg, hk, bs, hd, ha, hn, ht, hm⟩, kit_own dB tB sb, kit_blt (by decide +kernel) sv⟩, PySem.W.mg_of X G b⟩
end Ap

set_option Elab.async false
set_option linter.all false
set_option maxRecDepth 100000
set_option maxHeartbeats 4000000
namespace Ap
open PySem PySem.Spec PyProof.Rows L2 Evl
/-! ### the math: slices that agree and items that agree -/
def mx (i j : Int) : Int := if j > i then j else i
def mn (i j : Int) : Int := if j < i then j else i
def btw (b : Int) (rs : List PyData) (low high : Int) : List PyData := if high ≤ low then [] else cutA rs (some (low - b)) (some (high - b))
def apart (b1 : Int) (im1 : PyData) (b2 : Int) (im2 : PyData) : Bool := decide (V.int b1 = V.int b2) && !PyData.eqv im1 im2
def agB (b1 : Int) (im1 : PyData) (rs1 : List PyData) (b2 : Int) (im2 : PyData) (rs2 : List PyData) : Bool := if apart b1 im1 b2 im2 = true then false else
  PyData.eqv (.tuple (btw b1 rs1 (mx b1 b2) (mn (b1 + (rs1.length : Int)) (b2 + (rs2.length : Int))))) (.tuple (btw b2 rs2 (mx b1 b2) (mn (b1 + (rs1.length : Int)) (b2 + (rs2.length : Int)))))
def offB (x0 : Int) (ds0 : List PyData) (x1 : Int) (ds1 : List PyData) (k : Nat) : Bool := (decide (0 ≤ x0 + (k : Int) - x1) && decide (x0 + (k : Int) - x1 < (ds1.length : Int))) && !PyData.eqv (ds0.getD k .none) (ds1.getD (x0 + (k : Int) - x1).toNat .none)
def dueB (x0 : Int) (im0 : PyData) (ds0 : List PyData) (x1 : Int) (im1 : PyData) (ds1 : List PyData) : Bool := if apart x0 im0 x1 im1 = true then false else (List.range ds0.length).all (fun k => !offB x0 ds0 x1 ds1 k)
theorem eqvAll_iff : ∀ xs ys : List PyData, PyData.eqvAll xs ys = true ↔ xs.length = ys.length ∧ ∀ i, i < xs.length → PyData.eqv (xs.getD i .none) (ys.getD i .none) = true
  | [], [] => by simp [PyData.eqvAll]
  | [], y :: ys => by simp [PyData.eqvAll]
  | x :: xs, [] => by simp [PyData.eqvAll]
  | x :: xs, y :: ys => by
    simp only [PyData.eqvAll, Bool.and_eq_true, eqvAll_iff xs ys, List.length_cons]
    constructor
    · rintro ⟨h1, h2, h3⟩
      refine ⟨by omega, fun i hi => ?_⟩
      cases i with
      | zero => exact h1
      | succ i => exact h3 i (by omega)
    · rintro ⟨h1, h2⟩
      exact ⟨h2 0 (by omega), by omega, fun i hi => h2 (i + 1) (by omega)⟩
theorem rng_getD {xs : List PyData} {a b i : Nat} (h : i < b - a) : (rng xs a b).getD i .none = xs.getD (a + i) .none := by
  unfold rng
  rw [List.getD_eq_getElem?_getD, List.getElem?_take_of_lt h, List.getElem?_drop, List.getD_eq_getElem?_getD]
theorem btw_rng {b : Int} {rs : List PyData} {low high : Int} (h1 : b ≤ low) (h2 : low < high) (h3 : high ≤ b + (rs.length : Int)) : btw b rs low high = rng rs (low - b).toNat (high - b).toNat := by
  obtain ⟨a, ha⟩ : ∃ a : Nat, low - b = (a : Int) := ⟨(low - b).toNat, by omega⟩
  obtain ⟨c, hc⟩ : ∃ c : Nat, high - b = (c : Int) := ⟨(high - b).toNat, by omega⟩
  unfold btw
  rw [if_neg (by omega), ha, hc, cutA_rng rs (by omega)]
  show rng rs a (min c rs.length) = rng rs a c
  rw [Nat.min_eq_left (by omega)]
theorem apart_comm (b1 : Int) (im1 : PyData) (b2 : Int) (im2 : PyData) : apart b1 im1 b2 im2 = apart b2 im2 b1 im1 := by
  unfold apart
  rw [PySem.W.eqv_comm im1 im2, decide_eq_decide.mpr (show (V.int b1 = V.int b2) ↔ (V.int b2 = V.int b1) from ⟨Eq.symm, Eq.symm⟩)]
theorem mx_comm (a b : Int) : mx a b = mx b a := by
  unfold mx
  split <;> split <;> omega
theorem mn_comm (a b : Int) : mn a b = mn b a := by
  unfold mn
  split <;> split <;> omega
theorem agB_comm (b1 : Int) (im1 : PyData) (rs1 : List PyData) (b2 : Int) (im2 : PyData) (rs2 : List PyData) : agB b1 im1 rs1 b2 im2 rs2 = agB b2 im2 rs2 b1 im1 rs1 := by
  unfold agB
  rw [apart_comm b1 im1 b2 im2, mx_comm b1 b2, mn_comm (b1 + (rs1.length : Int)) (b2 + (rs2.length : Int)), PySem.W.eqv_comm]
theorem sds_btw {n : Nat} {b low high : Int} {rs : List PyData} (h : Sds n rs) : Sds n (btw b rs low high) := by
  unfold btw
  split
  · exact sds_nil
  · exact (h.drop _).take _
theorem agB_self {n m : Nat} {b : Int} {im : PyData} {rs : List PyData} (h : Sd n im) (hr : Sds m rs) : agB b im rs b im rs = true := by
  unfold agB apart
  rw [h.self, if_neg (by simp)]
  exact (sd_tuple (sds_btw hr)).self
theorem agB_due (x0 : Int) (im0 : PyData) (ds0 : List PyData) (x1 : Int) (im1 : PyData) (ds1 : List PyData) : agB x0 im0 ds0 x1 im1 ds1 = dueB x0 im0 ds0 x1 im1 ds1 := by
  unfold agB dueB
  by_cases ha : apart x0 im0 x1 im1 = true
  · rw [if_pos ha, if_pos ha]
  · rw [if_neg ha, if_neg ha]
    generalize hlo : mx x0 x1 = low
    generalize hhi : mn (x0 + (ds0.length : Int)) (x1 + (ds1.length : Int)) = high
    have l0 : x0 ≤ low ∧ x1 ≤ low ∧ (low = x0 ∨ low = x1) := by
      unfold mx at hlo
      split at hlo <;> omega
    have h0 : high ≤ x0 + (ds0.length : Int) ∧ high ≤ x1 + (ds1.length : Int) ∧ (high = x0 + (ds0.length : Int) ∨ high = x1 + (ds1.length : Int)) := by
      unfold mn at hhi
      split at hhi <;> omega
    obtain ⟨l1, l2, l3⟩ := l0
    obtain ⟨h1, h2, h3⟩ := h0
    by_cases hq : high ≤ low
    · have e0 : ∀ (b : Int) (rs : List PyData), btw b rs low high = [] := fun b rs => if_pos hq
      rw [e0, e0, Bool.eq_iff_iff]
      refine ⟨fun _ => List.all_eq_true.mpr fun k hk => ?_, fun _ => by simp [PyData.eqv, PyData.eqvAll]⟩
      have hk := List.mem_range.mp hk
      unfold offB
      by_cases c1 : 0 ≤ x0 + (k : Int) - x1
      · rw [decide_eq_false (show ¬ x0 + (k : Int) - x1 < (ds1.length : Int) by omega)]
        simp
      · rw [decide_eq_false c1]
        rfl
    · have hq : low < high := by omega
      rw [btw_rng l1 hq h1, btw_rng l2 hq h2]
      show PyData.eqvAll _ _ = _
      have n0 : (rng ds0 (low - x0).toNat (high - x0).toNat).length = (high - low).toNat := by
        rw [rng_len ds0 (by omega) (by omega)]
        omega
      have n1 : (rng ds1 (low - x1).toNat (high - x1).toNat).length = (high - low).toNat := by
        rw [rng_len ds1 (by omega) (by omega)]
        omega
      rw [Bool.eq_iff_iff, eqvAll_iff, n0, n1, List.all_eq_true]
      constructor
      · rintro ⟨_, h⟩ k hk
        have hk := List.mem_range.mp hk
        unfold offB
        by_cases c1 : 0 ≤ x0 + (k : Int) - x1
        · by_cases c2 : x0 + (k : Int) - x1 < (ds1.length : Int)
          · have h' := h (x0 + (k : Int) - low).toNat (by omega)
            rw [rng_getD (by omega), rng_getD (by omega), show (low - x0).toNat + (x0 + (k : Int) - low).toNat = k by omega, show (low - x1).toNat + (x0 + (k : Int) - low).toNat = (x0 + (k : Int) - x1).toNat by omega] at h'
            rw [h']
            simp
          · rw [decide_eq_false c2]
            simp
        · rw [decide_eq_false c1]
          rfl
      · intro h
        refine ⟨rfl, fun i hi => ?_⟩
        have h' := h ((low - x0).toNat + i) (List.mem_range.mpr (by omega))
        unfold offB at h'
        rw [decide_eq_true (show 0 ≤ x0 + (((low - x0).toNat + i : Nat) : Int) - x1 by omega), decide_eq_true (show x0 + (((low - x0).toNat + i : Nat) : Int) - x1 < (ds1.length : Int) by omega), show (x0 + (((low - x0).toNat + i : Nat) : Int) - x1).toNat = (low - x1).toNat + i by omega] at h'
        rw [rng_getD (by omega), rng_getD (by omega)]
        simpa using h'

local macro_rules | `(tactic| walk_at "ev") => `(tactic| (repeat' (first
  | (with_reducible first
    | exact ev_c
    | refine' ev_var ?_
    | exact ea_nil
    | refine' ea_cons ?_ ?_
    | refine' ev_op ?_ ?_ ?_
    | refine' ev_chain ?_ ?_ ?_ ?_ ?_
    | refine' ev_un ?_ ?_
    | exact rv_I0
    | refine' rv_I ?_
    | refine' ev_cb ?_ ?_
    | refine' ev_call ?_ ?_
    | exact rc_int
    | exact rc_max2
    | exact rc_min2
    | exact ru_neg
    | refine' et_test ?_
    | refine' et_B ?_)
  | ((with_reducible show _ = _); rfl)
  | ((with_reducible show SqL _ _ _ _); assumption)
  | ((with_reducible show SqT _ _ _ _); assumption)
  | ((with_reducible show CPow _ _); exact ⟨by decide, by decide, by decide⟩)
  | ((with_reducible show CDiv _ _); exact ⟨by decide, by decide⟩)
  | ((with_reducible show CMul _ _); first | exact .inr (by decide) | exact .inl (by decide) | exact .inr ⟨by omega, by omega⟩ | exact .inl ⟨by omega, by omega⟩)
  | ((with_reducible show SpV (spDraw _) _ _ _); refine' spDrawI ?_ ?_)
  | ((with_reducible show RC _ _ _ _); refine' rc_len ?_)
  | ((with_reducible show RV _ _ _ _ _); first | exact rv_eq rfl | exact rv_ne rfl)
  | ((with_reducible show _ ≤ _); first | decide | omega)
  | ((with_reducible show _ < _); first | decide | omega)
  | decide)))

def topS (i : Nat) : Stmt := PySem.Challenge.pw_appendhall_k19_logs_that_agree.main.body.getD i (.Pass ⟨0, 0, 0, 0⟩)
abbrev s__wall : Stmt := topS 0
abbrev N__wall : List Str := ["k"]
theorem sc__wall : FnScope N__wall ["k"] (defScope s__wall) := ⟨rfl, rfl, rfl, by decide +kernel, rfl, by decide +kernel, by decide +kernel⟩
abbrev s_Log___init__ : Stmt := inClass (topS 5) 0
abbrev N_Log___init__ : List Str := ["self", "base", "image", "records"]
theorem sc_Log___init__ : FnScope N_Log___init__ ["self", "base", "image", "records"] (defScope s_Log___init__) := ⟨rfl, rfl, rfl, by decide +kernel, rfl, by decide +kernel, by decide +kernel⟩
abbrev s_Log_length : Stmt := inClass (topS 5) 1
abbrev N_Log_length : List Str := ["self"]
theorem sc_Log_length : FnScope N_Log_length ["self"] (defScope s_Log_length) := ⟨rfl, rfl, rfl, by decide +kernel, rfl, by decide +kernel, by decide +kernel⟩
abbrev s_Log___len__ : Stmt := inClass (topS 5) 2
abbrev N_Log___len__ : List Str := ["self"]
theorem sc_Log___len__ : FnScope N_Log___len__ ["self"] (defScope s_Log___len__) := ⟨rfl, rfl, rfl, by decide +kernel, rfl, by decide +kernel, by decide +kernel⟩
abbrev s_Log___iter__ : Stmt := inClass (topS 5) 3
abbrev N_Log___iter__ : List Str := ["self"]
theorem sc_Log___iter__ : FnScope N_Log___iter__ ["self"] (defScope s_Log___iter__) := ⟨rfl, rfl, rfl, by decide +kernel, rfl, by decide +kernel, by decide +kernel⟩
abbrev s_Log_record : Stmt := inClass (topS 5) 4
abbrev N_Log_record : List Str := ["self", "number"]
theorem sc_Log_record : FnScope N_Log_record ["self", "number"] (defScope s_Log_record) := ⟨rfl, rfl, rfl, by decide +kernel, rfl, by decide +kernel, by decide +kernel⟩
abbrev s_Log_after : Stmt := inClass (topS 5) 5
abbrev N_Log_after : List Str := ["self", "number"]
theorem sc_Log_after : FnScope N_Log_after ["self", "number"] (defScope s_Log_after) := ⟨rfl, rfl, rfl, by decide +kernel, rfl, by decide +kernel, by decide +kernel⟩
abbrev s_Log_with_record : Stmt := inClass (topS 5) 6
abbrev N_Log_with_record : List Str := ["self", "record"]
theorem sc_Log_with_record : FnScope N_Log_with_record ["self", "record"] (defScope s_Log_with_record) := ⟨rfl, rfl, rfl, by decide +kernel, rfl, by decide +kernel, by decide +kernel⟩
abbrev s_Log_joined : Stmt := inClass (topS 5) 7
abbrev N_Log_joined : List Str := ["self", "first", "records"]
theorem sc_Log_joined : FnScope N_Log_joined ["self", "first", "records"] (defScope s_Log_joined) := ⟨rfl, rfl, rfl, by decide +kernel, rfl, by decide +kernel, by decide +kernel⟩
abbrev s_Log_cut : Stmt := inClass (topS 5) 8
abbrev N_Log_cut : List Str := ["self", "number", "image"]
theorem sc_Log_cut : FnScope N_Log_cut ["self", "number", "image"] (defScope s_Log_cut) := ⟨rfl, rfl, rfl, by decide +kernel, rfl, by decide +kernel, by decide +kernel⟩
abbrev s_Log_agrees : Stmt := inClass (topS 5) 9
abbrev N_Log_agrees : List Str := ["self", "other", "low", "high"]
theorem sc_Log_agrees : FnScope N_Log_agrees ["self", "other"] (defScope s_Log_agrees) := ⟨rfl, rfl, rfl, by decide +kernel, rfl, by decide +kernel, by decide +kernel⟩
abbrev s_Log_value : Stmt := inClass (topS 5) 10
abbrev N_Log_value : List Str := ["self"]
theorem sc_Log_value : FnScope N_Log_value ["self"] (defScope s_Log_value) := ⟨rfl, rfl, rfl, by decide +kernel, rfl, by decide +kernel, by decide +kernel⟩
abbrev s_Log_from_value : Stmt := inClass (topS 5) 11
abbrev N_Log_from_value : List Str := ["value"]
theorem sc_Log_from_value : FnScope N_Log_from_value ["value"] (defScope s_Log_from_value) := ⟨rfl, rfl, rfl, by decide +kernel, rfl, by decide +kernel, by decide +kernel⟩
abbrev s_Log__between : Stmt := inClass (topS 5) 12
abbrev N_Log__between : List Str := ["self", "low", "high"]
theorem sc_Log__between : FnScope N_Log__between ["self", "low", "high"] (defScope s_Log__between) := ⟨rfl, rfl, rfl, by decide +kernel, rfl, by decide +kernel, by decide +kernel⟩
abbrev s__law_stream : Stmt := topS 7
abbrev N__law_stream : List Str := ["script", "many", "draws", "cell", "rest", "k", "mixed"]
theorem sc__law_stream : FnScope N__law_stream ["script", "many"] (defScope s__law_stream) := ⟨rfl, rfl, rfl, by decide +kernel, rfl, by decide +kernel, by decide +kernel⟩
abbrev s__law_draw : Stmt := topS 8
abbrev N__law_draw : List Str := ["draws", "k"]
theorem sc__law_draw : FnScope N__law_draw ["draws", "k"] (defScope s__law_draw) := ⟨rfl, rfl, rfl, by decide +kernel, rfl, by decide +kernel, by decide +kernel⟩
abbrev s__law_large : Stmt := topS 9
abbrev N__law_large : List Str := ["draws", "k", "number", "j"]
theorem sc__law_large : FnScope N__law_large ["draws", "k"] (defScope s__law_large) := ⟨rfl, rfl, rfl, by decide +kernel, rfl, by decide +kernel, by decide +kernel⟩
abbrev s__law_record : Stmt := topS 10
abbrev N__law_record : List Str := ["draw", "texts", "deeds"]
theorem sc__law_record : FnScope N__law_record ["draw"] (defScope s__law_record) := ⟨rfl, rfl, rfl, by decide +kernel, rfl, by decide +kernel, by decide +kernel⟩
abbrev s__law_due : Stmt := topS 11
abbrev N__law_due : List Str := ["first", "second", "k", "at"]
theorem sc__law_due : FnScope N__law_due ["first", "second"] (defScope s__law_due) := ⟨rfl, rfl, rfl, by decide +kernel, rfl, by decide +kernel, by decide +kernel⟩
abbrev s_law : Stmt := topS 12
abbrev N_law : List Str := ["script", "draws", "size", "shift", "history", "k", "parts", "base", "length", "image", "changed", "at", "due", "first", "second", "answer"]
theorem sc_law : FnScope N_law ["script"] (defScope s_law) := ⟨rfl, rfl, rfl, by decide +kernel, rfl, by decide +kernel, by decide +kernel⟩
section
variable {P : Program} {w : World} {K : PySem.W.Frag} {mg : Str → Option Value} {base : Heap}
structure Glo (mg : Str → Option Value) : Prop where
  len : mg "len" = none
  int : mg "int" = none
  range : mg "range" = none
  isinstance : mg "isinstance" = none
  tuple : mg "tuple" = none
  bool : mg "bool" = none
  max : mg "max" = none
  min : mg "min" = none
theorem ok_draw {f : Addr} {fd : FuncData} {k : Nat} (F : Fun K "_law_draw" "_law_draw" s__law_draw f fd) (T : Glo mg) : FnOk P w K mg base CX0 (k + 1) f fd ["draws", "k"] (spDraw K) := by
  refine F.ok sc__law_draw (fun vs H Q E h => ?_) (fun cdv A outer s H vs Q E hr h => ?_)
  · obtain ⟨a, ds, k, rfl, _⟩ := h
    rfl
  · obtain ⟨a, ds, k, rfl, hS, q⟩ := h
    refine ⟨_, (pss_cons (ps_if (pt_cmpR op_lt (pv 1) (pe_callB call_len_seq (by rfl) T.len PySem.boot_len (pa_cons (pv 0) pa_nil)) (nomark _))
  (pss_one (ps_ret (pe_ix ix_list (pv 0) (pv 1) (fun _ _ => rfl))))
  pss_nil)
  (pss_one (ps_ret pe_int))), ?_⟩
    refine' q_when ?c (fun hb H1 e1 => ?_) (fun hb H1 e1 => ?_)
    case c => walk_at "ev"
    · have hb := of_decide_eq_true hb
      rw [List.length_map] at hb
      have hk : k < ds.length := by omega
      refine s_ret (v := .int (drw ds k)) (ev_op (ev_var rfl) (ev_var rfl) (rv_ixL (ex_l e1 hS) ?_)) fun H2 e2 => q _ (e1.trans e2)
      have e0 : (ds.map V.int)[k]? = some (.int (drw ds k)) := by
        rw [List.getElem?_map, List.getElem?_eq_getElem hk]
        unfold drw
        rw [List.getD_eq_getElem?_getD, List.getElem?_eq_getElem hk]
        rfl
      exact atI_nat e0
    · have hb := of_decide_eq_false hb
      rw [List.length_map] at hb
      refine s_ret ev_c fun H2 e2 => ?_
      have e0 : drw ds k = 0 := by
        unfold drw
        rw [List.getD_eq_getElem?_getD, List.getElem?_eq_none (by omega)]
        rfl
      rw [← e0]
      exact q _ (e1.trans e2)


/-! the draws' list: what stands between two turns -/
def DW (H0 : Hp) (l : Addr) (m : Nat) (H' : Hp) : Prop := H0 l = none ∧ Ex H0 H' ∧ ∃ ds : List Int, H' l = some (.lst (ds.map V.int)) ∧ Dr ds ∧ ds.length ≤ m
theorem pow18 : (10 : Int) ^ (18 : Int).toNat = 1000000000000000000 := by decide
theorem DW.app {H0 H1 H2 : Hp} {l : Addr} {m : Nat} {ds : List Int} {d : Int} (n : H0 l = none) (e : Ex H0 H1) (D : Dr ds) (hl : ds.length ≤ m) (h0 : 0 ≤ d) (h1 : d < 5040) (e2 : Ex H1 H2) : DW H0 l (m + 1) (upd H2 l (.lst (ds.map V.int ++ [V.int d]))) :=
  ⟨n, Ex.mut (e.trans e2) n, ds ++ [d], by rw [upd_same, List.map_append]; rfl, D.app h0 h1, by rw [List.length_append, List.length_singleton]; omega⟩
theorem ok_stream {f : Addr} {fd : FuncData} {k : Nat} (F : Fun K "_law_stream" "_law_stream" s__law_stream f fd) (T : Glo mg) : FnOk P w K mg base CX0 (k + 1) f fd ["script", "many"] (spStream K) := by
  refine F.ok sc__law_stream (fun vs H Q E h => ?_) (fun cdv A outer s H vs Q E hr h => ?_)
  · obtain ⟨a, ns, m, rfl, _⟩ := h
    rfl
  · obtain ⟨a, ns, m, rfl, hS, hn, hm, q⟩ := h
    refine ⟨_, (pss_cons (ps_set (i := 2) sc__law_stream.nd rfl (.inl rfl) (pe_lst pa_nil))
  (pss_cons (ps_for PassesOwn.never rfl (pi_list (pv 0)) (pg_name (i := 3) sc__law_stream.nd rfl (.inl rfl))
  (pss_cons (ps_if (pt_cmpR op_ge (pe_callB call_len_seq (by rfl) T.len PySem.boot_len (pa_cons (pv 2) pa_nil)) (pv 1) (nomark _))
  (pss_one ps_break)
  pss_nil)
  (pss_one (ps_if (pt_cmpR op_ge (pv 3) (pe_op op_pow pe_int pe_int) (nomark _))
  (pss_cons (ps_set (i := 4) sc__law_stream.nd rfl (.inl rfl) (pv 3))
  (pss_one (ps_for PassesOwn.never rfl (pi_range1 (by rfl) T.range (pa_cons pe_int pa_nil)) (pg_name (i := 5) sc__law_stream.nd rfl (.inl rfl))
  (pss_one (ps_if (pt_cmpR op_gt (pv 4) pe_int (nomark _))
  (pss_cons (ps_expr (pe_bm PySem.F.plainAttrs_list PySem.F.slot_list_append PySem.F.type_list_append mt_append (pv 2) (pa_cons (pe_op op_mod (pe_callTy call_int1 (by rfl) T.int (by decide +kernel) (pa_cons (pv 4) pa_nil)) pe_int) pa_nil)))
  (pss_one (ps_set (i := 4) sc__law_stream.nd rfl (.inl rfl) (pe_op op_fdiv (pv 4) pe_int))))
  pss_nil)))))
  (pss_cons (ps_set (i := 6) sc__law_stream.nd rfl (.inl rfl) (pe_op op_mod (pe_callTy call_int1 (by rfl) T.int (by decide +kernel) (pa_cons (pe_op op_add (pe_op op_add (pe_op op_mul (pv 3) pe_int) (pe_op op_mul (pe_callB call_len_seq (by rfl) T.len PySem.boot_len (pa_cons (pv 2) pa_nil)) pe_int)) pe_int) pa_nil)) pe_int))
  (pss_one (ps_for PassesOwn.never rfl (pi_range1 (by rfl) T.range (pa_cons pe_int pa_nil)) (pg_name (i := 5) sc__law_stream.nd rfl (.inl rfl))
  (pss_cons (ps_set (i := 6) sc__law_stream.nd rfl (.inl rfl) (pe_op op_mod (pe_callTy call_int1 (by rfl) T.int (by decide +kernel) (pa_cons (pe_op op_add (pe_op op_add (pe_op op_mul (pv 6) pe_int) (pe_op op_mul pe_int (pv 5))) pe_int) pa_nil)) pe_int))
  (pss_one (ps_expr (pe_bm PySem.F.plainAttrs_list PySem.F.slot_list_append PySem.F.type_list_append mt_append (pv 2) (pa_cons (pe_op op_mod (pe_callTy call_int1 (by rfl) T.int (by decide +kernel) (pa_cons (pe_op op_fdiv (pv 6) pe_int) pa_nil)) pe_int) pa_nil))))))))))))
  (pss_one (ps_ret (pv 2))))), ?_⟩
    refine' q_asgL (xs := []) (el_lst ea_nil (by decide)) (fun l H1 nl e1 h1 => ?_)
    have hS1 : SqL K H1 a (ns.map V.int) := ex_l e1 hS
    refine' q_forLn (a := a) (xs := ns.map V.int) (ev_var rfl) hS1 (fun i σ' H' => ∃ y3 y4 y5 y6, σ' = [some (.ref a), some (.int (m : Int)), some (.ref l), y3, y4, y5, y6] ∧ DW H l (m + 60) H') (fun H2 e2 => ?_) (fun i σ' H' _ p => ?_) (fun i x σ' H' hx p => ?_) (fun σ' H' p => ?_)
    · exact ⟨none, none, none, none, rfl, nl, e1.trans e2, [], e2 l _ h1, Dr.nil, Nat.zero_le _⟩
    · obtain ⟨_, _, _, _, _, _, e, _⟩ := p
      exact ex_l e hS
    · obtain ⟨y3, y4, y5, y6, rfl, n, e, ds, hd, D, hl⟩ := p
      obtain ⟨c, rfl⟩ : ∃ c, x = V.int c := by
        rw [List.getElem?_map] at hx
        cases h : ns[i]? with
        | none => rw [h] at hx; cases hx
        | some c => rw [h] at hx; exact ⟨c, (Option.some.inj hx).symm⟩
      have hL : SqL K H' l (ds.map V.int) := sq_of hd
      refine' q_when ?c (fun hb H2 e2 => ?_) (fun hb H2 e2 => ?_)
      case c => walk_at "ev"
      · -- break
        refine s_ret (ev_var rfl) fun H3 e3 => ?_
        exact q ds D hl l H3 n ((e.trans e2).trans e3) (e3 l _ (e2 l _ hd))
      · have hb := of_decide_eq_false hb
        rw [List.length_map] at hb
        have hlt : ds.length < m := by omega
        have hd2 := e2 l _ hd
        have E2 := e.trans e2
        refine' s_if ?c (fun hc H3 e3 => ?_) (fun hc H3 e3 => ?_)
        case c => walk_at "ev"
        · -- a great one
          refine' q_asg (ev_var rfl) (fun H4 e4 => ?_)
          refine' s_forR1 (n := 60) (ea_cons ev_c ea_nil) (by decide) (fun i σ' H' => ∃ (r : Int) (y5 : Option V), σ' = [some (.ref a), some (.int (m : Int)), some (.ref l), some (.int c), some (.int r), y5, y6] ∧ DW H l (m + i) H') (fun H5 e5 => ⟨c, _, rfl, n, ((E2.trans e3).trans e4).trans e5, ds, e5 l _ (e4 l _ (e3 l _ hd2)), D, by omega⟩) (fun i σ' H' hi p => ?_) (fun σ' H' p => ?_)
          · obtain ⟨r, z5, rfl, n', e', ds', hd', D', hl'⟩ := p
            have hL' : SqL K H' l (ds'.map V.int) := sq_of hd'
            refine' s_when ?c (fun hb H6 e6 => ?_) (fun hb H6 e6 => ?_)
            case c => walk_at "ev"
            · refine' q_app (l := l) (xs := ds'.map V.int) (v := .int (r % 5040)) (e6 l _ hd') (ev_var rfl) ?c (by rw [List.length_map]; omega) (fun H7 e7 => ?_)
              case c => walk_at "ev"
              refine' s_asg (v := .int (r / 5040)) ?c (fun H8 e8 => ?_)
              case c => exact ev_op (ev_var rfl) ev_c (rv_I ⟨by decide, by decide⟩)
              obtain ⟨_, k2, k3⟩ := DW.app n' (e'.trans e6) D' hl' (Int.emod_nonneg r (by decide)) (Int.emod_lt_of_pos r (by decide)) e7
              obtain ⟨ds8, k4, k5, k6⟩ := k3
              exact ⟨r / 5040, _, rfl, n', k2.trans e8, ds8, e8 l _ k4, k5, k6⟩
            · exact ⟨r, _, rfl, n', e'.trans e6, ds', e6 l _ hd', D', by omega⟩
          · obtain ⟨r, z5, rfl, w⟩ := p
            exact ⟨_, _, _, _, rfl, w⟩
        · -- a plain one
          refine' q_asg ?c (fun H4 e4 => ?_)
          case c =>
            have hL3 : SqL K H3 l (ds.map V.int) := sq_of (e3 l _ hd2)
            refine' ev_op (ev_cb (ea_cons (ev_op (ev_op (ev_op (ev_var rfl) ev_c (rv_I (.inr (by decide)))) (ev_op (ev_cb (ea_cons (ev_var rfl) ea_nil) (rc_len hL3)) ev_c (rv_I (.inr (by decide)))) rv_I0) ev_c rv_I0) ea_nil) rc_int) ev_c (rv_I (by decide))
          refine' s_forR1 (n := 4) (ea_cons ev_c ea_nil) (by decide) (fun i σ' H' => ∃ (r : Int) (y5 : Option V), σ' = [some (.ref a), some (.int (m : Int)), some (.ref l), some (.int c), y4, y5, some (.int r)] ∧ DW H l (m + i) H') (fun H5 e5 => ⟨_, _, rfl, n, ((E2.trans e3).trans e4).trans e5, ds, e5 l _ (e4 l _ (e3 l _ hd2)), D, by omega⟩) (fun i σ' H' hi p => ?_) (fun σ' H' p => ?_)
          · obtain ⟨r, z5, rfl, n', e', ds', hd', D', hl'⟩ := p
            refine' q_asg ?c (fun H6 e6 => ?_)
            case c =>
              refine' ev_op (ev_cb (ea_cons (ev_op (ev_op (ev_op (ev_var rfl) ev_c (rv_I (.inr (by decide)))) (ev_op ev_c (ev_var rfl) (rv_I (.inl (by decide)))) rv_I0) ev_c rv_I0) ea_nil) rc_int) ev_c (rv_I (by decide))
            refine' s_app (l := l) (xs := ds'.map V.int) (e6 l _ hd') (ev_var rfl) ?c (by rw [List.length_map]; omega) (fun H7 e7 => ?_)
            case c =>
              refine' ev_op (ev_cb (ea_cons (ev_op (ev_var rfl) ev_c (rv_I ⟨by decide, by decide⟩)) ea_nil) rc_int) ev_c (rv_I (by decide))
            exact ⟨_, _, rfl, DW.app n' (e'.trans e6) D' hl' (Int.emod_nonneg _ (by decide)) (Int.emod_lt_of_pos _ (by decide)) e7⟩
          · obtain ⟨r, z5, rfl, n', e', ds', hd', D', hl'⟩ := p
            exact ⟨_, _, _, _, rfl, n', e', ds', hd', D', by have : (4 : Int).toNat = 4 := rfl; omega⟩
    · obtain ⟨y3, y4, y5, y6, rfl, n, e, ds, hd, D, hl⟩ := p
      refine s_ret (ev_var rfl) fun H3 e3 => ?_
      exact q ds D hl l H3 n (e.trans e3) (e3 l _ hd)

/-! a great base: five draws; a record drawn -/
def spLarge (K : PySem.W.Frag) : Sp := fun vs H Q _ => ∃ (a : Addr) (ds : List Int) (k : Int), vs = [.ref a, .int k] ∧ SqL K H a (ds.map V.int) ∧ 0 ≤ k ∧ ∀ c : Int, 0 ≤ c → c < 10 ^ 18 - 99 → RetV (.int c) H Q
theorem ok_large {f f_d : Addr} {fd fd_d : FuncData} (F : Fun K "_law_large" "_law_large" s__law_large f fd) (D__law_draw : Df K mg "_law_draw" s__law_draw ["draws", "k"] f_d fd_d) (T : Glo mg) : FnOk P w K mg base CX0 2 f fd ["draws", "k"] (spLarge K) := by
  have G__law_draw : FnOk P w K mg base CX0 1 f_d fd_d _ _ := ok_draw D__law_draw.F T
  refine F.ok sc__law_large (fun vs H Q E h => ?_) (fun cdv A outer s H vs Q E hr h => ?_)
  · obtain ⟨a, ds, k, rfl, _⟩ := h
    rfl
  · obtain ⟨a, ds, k, rfl, hS, hk, q⟩ := h
    refine ⟨_, (pss_cons (ps_set (i := 2) sc__law_large.nd rfl (.inl rfl) pe_int)
  (pss_cons (ps_for PassesOwn.never rfl (pi_range1 (by rfl) T.range (pa_cons pe_int pa_nil)) (pg_name (i := 3) sc__law_large.nd rfl (.inl rfl))
  (pss_one (ps_set (i := 2) sc__law_large.nd rfl (.inl rfl) (pe_op op_add (pe_op op_mul (pv 2) pe_int) (pe_call G__law_draw (hr.mono (by decide)) (by rfl) D__law_draw.g D__law_draw.F.kp D__law_draw.b .nil pass0 (pa_cons (pv 0) (pa_cons (pe_op op_add (pv 1) (pv 3)) pa_nil)))))))
  (pss_one (ps_ret (pe_op op_mod (pe_callTy call_int1 (by rfl) T.int (by decide +kernel) (pa_cons (pv 2) pa_nil)) (pe_op op_sub (pe_op op_pow pe_int pe_int) pe_int)))))), ?_⟩
    refine' q_asg ev_c (fun H1 e1 => ?_)
    refine' q_forR1 (n := 5) (ea_cons ev_c ea_nil) (by decide) (fun i σ' H' => ∃ (z : Int) (y : Option V), σ' = [some (.ref a), some (.int k), some (.int z), y] ∧ Ex H H') (fun H2 e2 => ⟨0, _, rfl, e1.trans e2⟩) (fun i σ' H' hi p => ?_) (fun σ' H' p => ?_)
    · obtain ⟨z, y, rfl, e⟩ := p
      have hL : SqL K H' a (ds.map V.int) := ex_l e hS
      refine' s_asg ?w1 (fun H2 e2 => ?_)
      case w1 => walk_at "ev"
      exact ⟨_, _, rfl, e.trans e2⟩
    · obtain ⟨z, y, rfl, e⟩ := p
      refine' s_ret ?w2 (fun H2 e2 => ?_)
      case w2 => walk_at "ev"
      exact q _ (Int.emod_nonneg _ (by decide)) (Int.emod_lt_of_pos _ (by decide)) H2 (e.trans e2)
theorem spLarge_use {σ : L2.St} {H : Hp} {D : Ends} {ta : TA} {E : XK} {i : Nat} {a : Addr} {ds : List Int} {k : Int} (h : EvA ta σ H [.ref a, .int k]) (hS : SqL K H a (ds.map V.int)) (hk : 0 ≤ k) (q : ∀ c H1, 0 ≤ c → c < 10 ^ 18 - 99 → Ex H H1 → D.nx (σ.set i (some (.int c))) H1) :
    tAsg (tCall (spLarge K) [] E ta) (gName i) D σ H := h H (Ex.refl H) _ fun H1 e => ⟨a, ds, k, rfl, ex_l e hS, hk, fun c h0 h1 H2 e2 => q c H2 h0 h1 (e.trans e2)⟩
def txtD : List PyData := [.str "", .str "a", .str "ab c", .str "~", .str "zz"]
def deedsD (d : Int) : List PyData := [.tuple [.str "append", .str "/a", txtD.getD (d / 4 % 5).toNat .none], .tuple [.str "seal", .str "/b"], .tuple [.str "limit", .str "/", .int (d / 12)], .tuple [.str "x"]]
def recD (d : Int) : PyData := .tuple [.int (d % 3), .int (1 + d / 3 % 4), (deedsD d).getD (d / 60 % 4).toNat .none]
theorem sds_txt : Sds 0 txtD := sds_cons (sd_str (by decide +kernel)) (sds_cons (sd_str (by decide +kernel)) (sds_cons (sd_str (by decide +kernel)) (sds_cons (sd_str (by decide +kernel)) (sds_cons (sd_str (by decide +kernel)) sds_nil))))
theorem Sds.getD {n : Nat} {ds : List PyData} (h : Sds n ds) (i : Nat) : Sd n (ds.getD i .none) := by
  rw [List.getD_eq_getElem?_getD]
  cases e : ds[i]? with
  | none => exact sd_none
  | some d => exact h d (List.mem_of_getElem? e)
theorem Sds.up {n m : Nat} {ds : List PyData} (h : Sds n ds) (l : n ≤ m) : Sds m ds := fun d hd => (h d hd).up l
theorem sds_deeds (d : Int) : Sds 1 (deedsD d) := sds_cons (sd_tuple (sds_cons (sd_str (by decide +kernel)) (sds_cons (sd_str (by decide +kernel)) (sds_cons (sds_txt.getD _) sds_nil)))) (sds_cons (sd_tuple (sds_cons (sd_str (by decide +kernel)) (sds_cons (sd_str (by decide +kernel)) sds_nil)))
  (sds_cons (sd_tuple (sds_cons (sd_str (by decide +kernel)) (sds_cons (sd_str (by decide +kernel)) (sds_cons sd_int sds_nil)))) (sds_cons (sd_tuple (sds_cons (sd_str (by decide +kernel)) sds_nil)) sds_nil)))
theorem sd_rec (d : Int) : Sd 2 (recD d) := sd_tuple (sds_cons sd_int (sds_cons sd_int (sds_cons ((sds_deeds d).getD _) sds_nil)))
def spRec (K : PySem.W.Frag) : Sp := fun vs H Q _ => ∃ (d : Int) (B : Hp), vs = [.int d] ∧ 0 ≤ d ∧ Ex B H ∧ RetD K B (recD d) H Q
theorem spRec_d {K : PySem.W.Frag} {H : Hp} {d : Int} (h : 0 ≤ d) : SpD K (spRec K) [.int d] H (recD d) := fun H1 e1 Q q E => ⟨d, H, rfl, h, e1, q⟩
theorem ok_record {f : Addr} {fd : FuncData} (F : Fun K "_law_record" "_law_record" s__law_record f fd) : FnOk P w K mg base CX0 1 f fd ["draw"] (spRec K) := by
  refine F.ok sc__law_record (fun vs H Q E h => ?_) (fun cdv A outer s H vs Q E hr h => ?_)
  · obtain ⟨d, B, rfl, _⟩ := h
    rfl
  · obtain ⟨d, B, rfl, hd, eB, q⟩ := h
    refine ⟨_, (pss_cons (ps_set (i := 1) sc__law_record.nd rfl (.inl rfl) (pe_tup (pa_cons pe_str (pa_cons pe_str (pa_cons pe_str (pa_cons pe_str (pa_cons pe_str pa_nil)))))))
  (pss_cons (ps_set (i := 2) sc__law_record.nd rfl (.inl rfl) (pe_tup (pa_cons (pe_tup (pa_cons pe_str (pa_cons pe_str (pa_cons (pe_ix ix_tup (pv 1) (pe_op op_mod (pe_op op_fdiv (pv 0) pe_int) pe_int) (fun _ _ => rfl)) pa_nil)))) (pa_cons (pe_tup (pa_cons pe_str (pa_cons pe_str pa_nil))) (pa_cons (pe_tup (pa_cons pe_str (pa_cons pe_str (pa_cons (pe_op op_fdiv (pv 0) pe_int) pa_nil)))) (pa_cons (pe_tup (pa_cons pe_str pa_nil)) pa_nil))))))
  (pss_one (ps_ret (pe_tup (pa_cons (pe_op op_mod (pv 0) pe_int) (pa_cons (pe_op op_add pe_int (pe_op op_mod (pe_op op_fdiv (pv 0) pe_int) pe_int)) (pa_cons (pe_ix ix_tup (pv 2) (pe_op op_mod (pe_op op_fdiv (pv 0) pe_int) pe_int) (fun _ _ => rfl)) pa_nil)))))))), ?_⟩
    refine q_asgDB (K := K) (d := .tuple txtD) eB (ed_tup (eds_cons ed_str (eds_cons ed_str (eds_cons ed_str (eds_cons ed_str (eds_cons ed_str eds_nil))))) (Nat.le_of_ble_eq_true rfl)) (fun v1 H1 e1 h1 => ?_)
    have eB1 : Ex (ov B H H1) H1 := ov_ex eB e1
    refine' q_asgDB (K := K) (d := .tuple (deedsD d)) eB1 ?c (fun v2 H2 e2 h2 => ?_)
    case c =>
      refine' ed_tup (eds_cons (ed_tup (eds_cons ed_str (eds_cons ed_str (eds_cons (ed_ixT (i := d / 4 % 5) (ed_var rfl h1) ?i1 (atI_getD ?g1 ?g2)) eds_nil))) (Nat.le_of_ble_eq_true rfl)) (eds_cons (ed_tup (eds_cons ed_str (eds_cons ed_str eds_nil)) (Nat.le_of_ble_eq_true rfl)) (eds_cons (ed_tup (eds_cons ed_str (eds_cons ed_str (eds_cons (ed_int (i := d / 12) ?i2) eds_nil))) (Nat.le_of_ble_eq_true rfl)) (eds_cons (ed_tup (eds_cons ed_str eds_nil) (Nat.le_of_ble_eq_true rfl)) eds_nil)))) (Nat.le_of_ble_eq_true rfl)
      case i1 => walk_at "ev"
      case i2 => walk_at "ev"
      case g1 => omega
      case g2 =>
        show d / 4 % 5 < 5
        omega
    have eB2 : Ex (ov (ov B H H1) H1 H2) H2 := ov_ex eB1 e2
    refine' s_retDB (K := K) (d := recD d) eB2 ?c (fun v H3 e3 h3 => q v H3 ((e1.trans e2).trans e3) (dp_mono ((ov_ov eB1 e2 e3).trans (ov_ov eB e1 (e2.trans e3))) _ v h3))
    case c =>
      refine' ed_tup (eds_cons (ed_int (i := d % 3) ?i1) (eds_cons (ed_int (i := 1 + d / 3 % 4) ?i2) (eds_cons (ed_ixT (i := d / 60 % 4) (ed_var rfl h2) ?i3 (atI_getD ?g1 ?g2)) eds_nil))) (Nat.le_of_ble_eq_true rfl)
      case i1 => walk_at "ev"
      case i2 => walk_at "ev"
      case i3 => walk_at "ev"
      case g1 => omega
      case g2 =>
        show d / 60 % 4 < 4
        omega

/-! ### a log: an object with a base, an image and a tuple of records -/
def fLog (b im r : V) : List (Str × V) := [("base", b), ("image", im), ("records", r)]
theorem fl_put (b im r : V) : putF "records" r (putF "image" im (putF "base" b [])) = fLog b im r := by rfl
theorem fl_base (b im r : V) : (fLog b im r).lookup ("base" : Str) = some b := by rfl
theorem fl_image (b im r : V) : (fLog b im r).lookup ("image" : Str) = some im := by rfl
theorem fl_records (b im r : V) : (fLog b im r).lookup ("records" : Str) = some r := by rfl
theorem fl_no (b im r : V) {m : Str} (h1 : (m == ("base" : Str)) = false) (h2 : (m == ("image" : Str)) = false) (h3 : (m == ("records" : Str)) = false) : (fLog b im r).lookup m = none := by
  unfold fLog
  rw [List.lookup_cons, h1, List.lookup_cons, h2, List.lookup_cons, h3]
  rfl
/-- the log of these at p -/
def LogAt (K : PySem.W.Frag) (C : Addr) (H : Hp) (p : Addr) (b : Int) (im : PyData) (rs : List PyData) : Prop := ∃ dx vi t, H p = some (.ins C dx (fLog (.int b) vi t)) ∧ Dp K H vi im ∧ Dp K H t (.tuple rs)
theorem LogAt.mono {K : PySem.W.Frag} {C : Addr} {H H' : Hp} {p : Addr} {b : Int} {im : PyData} {rs : List PyData} (e : Ex H H') (h : LogAt K C H p b im rs) : LogAt K C H' p b im rs := by
  obtain ⟨dx, vi, t, h1, h2, h3⟩ := h
  exact ⟨dx, vi, t, e _ _ h1, dp_mono e _ _ h2, dp_mono e _ _ h3⟩
structure LogC (K : PySem.W.Frag) (C : Addr) : Prop where
  cl : Cls K C
  nB : NoAttr K C "base"
  nI : NoAttr K C "image"
  nR : NoAttr K C "records"
section
variable {K : PySem.W.Frag} {σ : L2.St} {H B : Hp} {ta : TE} {C p : Addr} {b : Int} {im : PyData} {rs : List PyData}
theorem ev_base (L : LogC K C) (h : Ev ta σ H (.ref p)) (l : LogAt K C H p b im rs) : Ev (tFld K ta "base") σ H (.int b) := fun H1 e Q q => h H1 e _ fun H2 e2 => by
  obtain ⟨dx, vi, t, h1, _, _⟩ := l
  exact ⟨p, C, dx, _, _, rfl, (e.trans e2) _ _ h1, L.cl, L.nB, fl_base _ _ _, q H2 e2⟩
theorem ed_image (L : LogC K C) (h : Ev ta σ H (.ref p)) (l : LogAt K C H p b im rs) : EvD K (tFld K ta "image") σ H im := fun H1 e Q q => h H1 e _ fun H2 e2 => by
  obtain ⟨dx, vi, t, h1, h2, _⟩ := l
  exact ⟨p, C, dx, _, _, rfl, (e.trans e2) _ _ h1, L.cl, L.nI, fl_image _ _ _, q vi H2 e2 (dp_mono ov_base _ _ h2)⟩
theorem ed_records (L : LogC K C) (h : Ev ta σ H (.ref p)) (l : LogAt K C H p b im rs) : EvD K (tFld K ta "records") σ H (.tuple rs) := fun H1 e Q q => h H1 e _ fun H2 e2 => by
  obtain ⟨dx, vi, t, h1, _, h3⟩ := l
  exact ⟨p, C, dx, _, _, rfl, (e.trans e2) _ _ h1, L.cl, L.nR, fl_records _ _ _, q t H2 e2 (dp_mono ov_base _ _ h3)⟩
end
def spLogInit (C : Addr) : Sp := fun vs H Q _ => ∃ (p dx : Addr) (b im r : V), vs = [.ref p, b, im, r] ∧ H p = some (.ins C dx []) ∧ ∀ H', H' p = some (.ins C dx (fLog b im r)) → (∀ a, a ≠ p → H' a = H a) → Q .non H'
theorem ok_log_init {f C : Addr} {fd : FuncData} (F : Fun K "__init__" "Log.__init__" s_Log___init__ f fd) (L : LogC K C) : FnOk P w K mg base CX0 1 f fd ["self", "base", "image", "records"] (spLogInit C) := by
  refine F.ok sc_Log___init__ (fun vs H Q E h => ?_) (fun cdv A outer s H vs Q E hr h => ?_)
  · obtain ⟨p, dx, b, im, r, rfl, _⟩ := h
    rfl
  · obtain ⟨p, dx, b, im, r, rfl, hp, q⟩ := h
    refine ⟨_, (pss_cons (ps_fld (pv 0) (pv 1) rfl)
  (pss_cons (ps_fld (pv 0) (pv 2) rfl)
  (pss_one (ps_fld (pv 0) (pv 3) rfl)))), ?_⟩
    refine ⟨_, rfl, _, rfl, p, C, dx, [], rfl, hp, L.cl, L.nB, (by show 0 < 1000; decide), ?_⟩
    refine ⟨_, rfl, _, rfl, p, C, dx, _, rfl, upd_same, L.cl, L.nI, (by show 1 < 1000; decide), ?_⟩
    refine ⟨_, rfl, _, rfl, p, C, dx, _, rfl, upd_same, L.cl, L.nR, (by show 2 < 1000; decide), ?_⟩
    refine q _ ?_ (fun a ha => ?_)
    · rw [upd_same, fl_put]
    · rw [upd_ne ha, upd_ne ha, upd_ne ha]
/-- Log(b, im, r) -/
theorem s_mkLog {σ : L2.St} {B H : Hp} {C : Addr} {ta : TA} {E : XK} {Q : VK} {vb : Int} {im : PyData} {rs : List PyData} (eB : Ex B H) (h : EvDs K ta σ B [.int vb, im, .tuple rs]) (q : ∀ p H1, H p = none → Ex H H1 → LogAt K C (ov B H H1) p vb im rs → Q (.ref p) H1) :
    tMake C (spLogInit C) [] E ta σ H Q := h H eB _ fun vs H1 e hd x dx nx ndx nex => by
  cases hd with
  | cons d1 r1 => cases r1 with
    | cons d2 r2 => cases r2 with
      | cons d3 r3 =>
        cases r3
        cases d1
        rename_i vi vr
        refine ⟨x, dx, _, vi, vr, rfl, upd_same, fun H2 h2 ho => ⟨rfl, ?_⟩⟩
        have e2 : Ex H1 H2 := fun a o ha1 => by
          have n1 : a ≠ x := ne_of_none ha1 nx
          rw [ho a n1, upd_ne n1, upd_ne (ne_of_none ha1 ndx)]
          exact ha1
        have n0 := fresh_back e nx
        have o2 : Ex (ov B H H1) (ov B H H2) := ov_grow e2
        exact q x H2 n0 (e.trans e2) ⟨dx, _, _, by unfold ov; rw [fresh_back eB n0, n0]; exact h2, dp_mono o2 _ _ d2, dp_mono o2 _ _ d3⟩
theorem q_mkLog {σ : L2.St} {B H : Hp} {D : Ends} {tz : TS} {C : Addr} {ta : TA} {E : XK} {i : Nat} {vb : Int} {im : PyData} {rs : List PyData} (eB : Ex B H) (h : EvDs K ta σ B [.int vb, im, .tuple rs]) (q : ∀ p H1, H p = none → Ex H H1 → LogAt K C (ov B H H1) p vb im rs → tz D (σ.set i (some (.ref p))) H1) :
    tSeq (tAsg (tMake C (spLogInit C) [] E ta) (gName i)) tz D σ H := (show tMake C (spLogInit C) [] E ta σ H (fun v H1 => tz D (σ.set i (some v)) H1) from s_mkLog eB h q)

def spLogLen (K : PySem.W.Frag) (C : Addr) : Sp := fun vs H Q _ => ∃ (p : Addr) (b : Int) (im : PyData) (rs : List PyData), vs = [.ref p] ∧ LogAt K C H p b im rs ∧ RetV (.int (b + (rs.length : Int))) H Q
theorem ok_log_len {f C : Addr} {fd : FuncData} (F : Fun K "length" "Log.length" s_Log_length f fd) (L : LogC K C) (T : Glo mg) : FnOk P w K mg base CX0 1 f fd ["self"] (spLogLen K C) := by
  refine F.ok sc_Log_length (fun vs H Q E h => ?_) (fun cdv A outer s H vs Q E hr h => ?_)
  · obtain ⟨p, b, im, rs, rfl, _⟩ := h
    rfl
  · obtain ⟨p, b, im, rs, rfl, l, q⟩ := h
    refine ⟨_, (pss_one (ps_ret (pe_op op_add (pe_fld (pv 0) rfl) (pe_callB call_len_seq (by rfl) T.len PySem.boot_len (pa_cons (pe_fld (pv 0) rfl) pa_nil))))), ?_⟩
    exact s_ret (ev_op (ev_base L (ev_var rfl) l) (ev_lenDT (K := K) (ed_records L (ev_var rfl) l)) rv_I0) q
theorem ev_loglen {σ : L2.St} {H : Hp} {C p : Addr} {ta : TE} {E : XK} {b : Int} {im : PyData} {rs : List PyData} (h : Ev ta σ H (.ref p)) (l : LogAt K C H p b im rs) : Ev (tProp C (spLogLen K C) [] E ta) σ H (.int (b + (rs.length : Int))) := fun H1 e Q q => h H1 e _ fun H2 e2 => by
  obtain ⟨dx, vi, t, h1, _, _⟩ := id l
  exact ⟨p, dx, _, rfl, (e.trans e2) _ _ h1, p, b, im, rs, rfl, l.mono (e.trans e2), fun H3 e3 => q H3 (e2.trans e3)⟩

/-! ### the records between -/
def spBtw (K : PySem.W.Frag) (C : Addr) : Sp := fun vs H Q _ => ∃ (p : Addr) (low high b : Int) (im : PyData) (rs : List PyData) (B : Hp), vs = [.ref p, .int low, .int high] ∧ Ex B H ∧ LogAt K C B p b im rs ∧ RetD K B (.tuple (btw b rs low high)) H Q
theorem ok_btw {f C : Addr} {fd : FuncData} (D_Log__between : Dm K C "_between" "Log._between" s_Log__between ["self", "low", "high"] f fd) (L : LogC K C) : FnOk P w K mg base CX0 1 f fd ["self", "low", "high"] (spBtw K C) := by
  refine D_Log__between.F.ok sc_Log__between (fun vs H Q E h => ?_) (fun cdv A outer s H vs Q E hr h => ?_)
  · obtain ⟨p, low, high, b, im, rs, B, rfl, _⟩ := h
    rfl
  · obtain ⟨p, low, high, b, im, rs, B, rfl, eB, l, q⟩ := h
    refine ⟨_, (pss_cons (ps_if (pt_cmpR op_le (pv 2) (pv 1) (nomark _))
  (pss_one (ps_ret (pe_tup pa_nil)))
  pss_nil)
  (pss_one (ps_ret (pe_slice sl_tupA (pe_fld (pv 0) rfl) (po_some (pe_op op_sub (pv 1) (pe_fld (pv 0) rfl))) (po_some (pe_op op_sub (pv 2) (pe_fld (pv 0) rfl))))))), ?_⟩
    refine' q_when (b := decide (high ≤ low)) (et_test (ev_op (ev_var rfl) (ev_var rfl) rv_I0)) (fun hb H1 e1 => ?_) (fun hb H1 e1 => ?_)
    · have hb := of_decide_eq_true hb
      have ed : btw b rs low high = [] := if_pos hb
      rw [ed] at q
      exact s_retDB (K := K) (eB.trans e1) (ed_tup eds_nil (Nat.le_of_ble_eq_true rfl)) (fun v H2 e2 hv => q v H2 (e1.trans e2) (dp_mono (ov_later e1) _ _ hv))
    · have hb := of_decide_eq_false hb
      have ed : btw b rs low high = cutA rs (some (low - b)) (some (high - b)) := if_neg hb
      rw [ed] at q
      exact s_retDB (K := K) (eB.trans e1) (ed_slT (ed_records L (ev_var rfl) l) (eo_some (ev_op (ev_var rfl) (ev_base L (ev_var rfl) l) rv_I0)) (eo_some (ev_op (ev_var rfl) (ev_base L (ev_var rfl) l) rv_I0))) (fun v H2 e2 hv => q v H2 (e1.trans e2) (dp_mono (ov_later e1) _ _ hv))
theorem ed_btw {σ : L2.St} {H : Hp} {C p : Addr} {ta : TE} {tas : TA} {E : XK} {b low high : Int} {im : PyData} {rs : List PyData} (h : Ev ta σ H (.ref p)) (l : LogAt K C H p b im rs) (ha : EvA tas σ H [.int low, .int high]) : EvD K (tMeth C "_between" (spBtw K C) [] E ta tas) σ H (.tuple (btw b rs low high)) := fun H1 e Q q => h H1 e _ fun H2 e2 => by
  obtain ⟨dx, vi, t, h1, h2, h3⟩ := id l
  exact ⟨p, dx, _, rfl, (e.trans e2) _ _ h1, fl_no _ _ _ (by decide +kernel) (by decide +kernel) (by decide +kernel), ha H2 (e.trans e2) _ fun H3 e3 => ⟨p, low, high, b, im, rs, H, rfl, (e.trans e2).trans e3, l, fun v H4 e4 hv => q v H4 ((e2.trans e3).trans e4) (dp_mono (ov_later (e2.trans e3)) _ _ hv)⟩⟩
/-! ### agrees -/
def spAgr (K : PySem.W.Frag) (C : Addr) : Sp := fun vs H Q _ => ∃ (p p2 : Addr) (b b2 : Int) (im im2 : PyData) (rs rs2 : List PyData), vs = [.ref p, .ref p2] ∧ LogAt K C H p b im rs ∧ LogAt K C H p2 b2 im2 rs2 ∧ Sd 2 im ∧ Sd 2 im2 ∧ Sds 2 rs ∧ Sds 2 rs2 ∧ RetV (.bl (agB b im rs b2 im2 rs2)) H Q
theorem ok_agr {f C f_l f_b : Addr} {fd fd_l fd_b : FuncData} (D_Log_agrees : Dm K C "agrees" "Log.agrees" s_Log_agrees ["self", "other"] f fd) (D_Log_length : Pr K C "length" "Log.length" s_Log_length f_l fd_l) (D_Log__between : Dm K C "_between" "Log._between" s_Log__between ["self", "low", "high"] f_b fd_b) (L_Log : Kl K mg "Log" C) (L : LogC K C) (T : Glo mg) :
    FnOk P w K mg base CX0 3 f fd ["self", "other"] (spAgr K C) := by
  have G_Log_length : FnOk P w K mg base CX0 1 f_l fd_l _ _ := ok_log_len D_Log_length.F L T
  have G_Log__between : FnOk P w K mg base CX0 1 f_b fd_b _ _ := ok_btw D_Log__between L
  refine D_Log_agrees.F.ok sc_Log_agrees (fun vs H Q E h => ?_) (fun cdv A outer s H vs Q E hr h => ?_)
  · obtain ⟨p, p2, b, b2, im, im2, rs, rs2, rfl, _⟩ := h
    rfl
  · obtain ⟨p, p2, b, b2, im, im2, rs, rs2, rfl, l, l2, si, si2, sr, sr2, q⟩ := h
    refine ⟨_, (pss_cons (ps_if (PW.pt (pw_and (pt_cmpR op_eq (pe_fld (pv 0) rfl) (pe_fld (pv 1) rfl) (nomark _)) (pw_and1 (pt_cmpR (op_neD hr.units) (pe_fld (pv 0) rfl) (pe_fld (pv 1) rfl) (nomark _)))))
  (pss_one (ps_ret pe_bl))
  pss_nil)
  (pss_cons (ps_set (i := 2) sc_Log_agrees.nd rfl (.inl rfl) (pe_callB (call_max2 rfl) (by rfl) T.max (by decide +kernel) (pa_cons (pe_fld (pv 0) rfl) (pa_cons (pe_fld (pv 1) rfl) pa_nil))))
  (pss_cons (ps_set (i := 3) sc_Log_agrees.nd rfl (.inl rfl) (pe_callB (call_min2 rfl) (by rfl) T.min (by decide +kernel) (pa_cons (pe_pr (pv 0) L_Log.cl D_Log_length G_Log_length (hr.mono (by decide)) pass0 rfl) (pa_cons (pe_pr (pv 1) L_Log.cl D_Log_length G_Log_length (hr.mono (by decide)) pass0 rfl) pa_nil))))
  (pss_one (ps_ret (pe_cmpR (op_eqD hr.units) (pe_meth (pv 0) L_Log.cl D_Log__between.m G_Log__between (hr.mono (by decide)) D_Log__between.b .nil pass0 (pa_cons (pv 2) (pa_cons (pv 3) pa_nil))) (pe_meth (pv 1) L_Log.cl D_Log__between.m G_Log__between (hr.mono (by decide)) D_Log__between.b .nil pass0 (pa_cons (pv 2) (pa_cons (pv 3) pa_nil))) (nomark _))))))), ?_⟩
    refine' q_when (b := apart b im b2 im2) (et_and (a := decide (V.int b = V.int b2)) (b := !PyData.eqv im im2) (et_test (ev_op (ev_base L (ev_var rfl) l) (ev_base L (ev_var rfl) l2) (rv_eq rfl))) (fun _ => et_test (ev_neD (K := K) (ed_image L (ev_var rfl) l) (ed_image L (ev_var rfl) l2) si si2 (by decide) (by decide)))) (fun hb H1 e1 => ?_) (fun hb H1 e1 => ?_)
    · have ed : agB b im rs b2 im2 rs2 = false := if_pos hb
      rw [ed] at q
      exact s_ret ev_c (fun H2 e2 => q H2 (e1.trans e2))
    · have l1 := l.mono e1
      have l21 := l2.mono e1
      refine' q_asg (ev_cb (ea_cons (ev_base L (ev_var rfl) l1) (ea_cons (ev_base L (ev_var rfl) l21) ea_nil)) rc_max2) (fun H2 e2 => ?_)
      have l3 := l1.mono e2
      have l23 := l21.mono e2
      refine' q_asg (ev_cb (ea_cons (ev_loglen (K := K) (ev_var rfl) l3) (ea_cons (ev_loglen (K := K) (ev_var rfl) l23) ea_nil)) rc_min2) (fun H3 e3 => ?_)
      have l4 := l3.mono e3
      have l24 := l23.mono e3
      have ed : agB b im rs b2 im2 rs2 = PyData.eqv (.tuple (btw b rs (mx b b2) (mn (b + (rs.length : Int)) (b2 + (rs2.length : Int))))) (.tuple (btw b2 rs2 (mx b b2) (mn (b + (rs.length : Int)) (b2 + (rs2.length : Int))))) := if_neg (by rw [hb]; decide)
      rw [ed] at q
      exact s_ret (ev_eqD (K := K) (n := 3) (m := 3) (ed_btw (ev_var rfl) l4 (ea_cons (ev_var rfl) (ea_cons (ev_var rfl) ea_nil))) (ed_btw (ev_var rfl) l24 (ea_cons (ev_var rfl) (ea_cons (ev_var rfl) ea_nil))) (sd_tuple (sds_btw sr)) (sd_tuple (sds_btw sr2)) (by decide) (by decide)) (fun H5 e5 => q H5 (((e1.trans e2).trans e3).trans e5))
theorem ev_agr {σ : L2.St} {H : Hp} {C p p2 : Addr} {ta tb : TE} {E : XK} {b b2 : Int} {im im2 : PyData} {rs rs2 : List PyData} (h : Ev ta σ H (.ref p)) (h2 : Ev tb σ H (.ref p2)) (l : LogAt K C H p b im rs) (l2 : LogAt K C H p2 b2 im2 rs2) (si : Sd 2 im) (si2 : Sd 2 im2) (sr : Sds 2 rs) (sr2 : Sds 2 rs2) :
    Ev (tMeth C "agrees" (spAgr K C) [] E ta (tCons tb tNil)) σ H (.bl (agB b im rs b2 im2 rs2)) := fun H1 e Q q => h H1 e _ fun H2 e2 => by
  obtain ⟨dx, vi, t, h1, _, _⟩ := id l
  refine ⟨p, dx, _, rfl, (e.trans e2) _ _ h1, fl_no _ _ _ (by decide +kernel) (by decide +kernel) (by decide +kernel), h2 H2 (e.trans e2) _ fun H3 e3 => ?_⟩
  exact ⟨p, p2, b, b2, im, im2, rs, rs2, rfl, l.mono ((e.trans e2).trans e3), l2.mono ((e.trans e2).trans e3), si, si2, sr, sr2, fun H4 e4 => q H4 ((e2.trans e3).trans e4)⟩
/-! ### what is due -/
def partD (x : Int) (im : PyData) (ds : List PyData) : PyData := .tuple [.int x, im, .list ds]
def spDue (K : PySem.W.Frag) : Sp := fun vs H Q _ => ∃ (v0 v1 : V) (x0 x1 : Int) (im0 im1 : PyData) (ds0 ds1 : List PyData), vs = [v0, v1] ∧ Dp K H v0 (partD x0 im0 ds0) ∧ Dp K H v1 (partD x1 im1 ds1) ∧ Sd 2 im0 ∧ Sd 2 im1 ∧ Sds 2 ds0 ∧ Sds 2 ds1 ∧ ds0.length ≤ 60 ∧ ds1.length ≤ 60 ∧ RetV (.bl (dueB x0 im0 ds0 x1 im1 ds1)) H Q
theorem ev_intD {σ : L2.St} {H : Hp} {te : TE} {i : Int} (h : EvD K te σ H (.int i)) : Ev te σ H (.int i) := fun H1 e Q q => h H1 e _ fun v H2 e2 hv => by
  cases hv
  exact q H2 e2
theorem all_from {f : Nat → Bool} {n : Nat} (h : ∀ k, k < n → f k = true) : (List.range n).all f = true := List.all_eq_true.mpr fun k hk => h k (List.mem_range.mp hk)
theorem all_not {f : Nat → Bool} {n k : Nat} (hk : k < n) (h : f k = false) : (List.range n).all f = false := by
  rw [Bool.eq_false_iff]
  intro q
  have := List.all_eq_true.mp q k (List.mem_range.mpr hk)
  rw [h] at this
  cases this
theorem ok_due {f : Addr} {fd : FuncData} (F : Fun K "_law_due" "_law_due" s__law_due f fd) (T : Glo mg) : FnOk P w K mg base CX0 1 f fd ["first", "second"] (spDue K) := by
  refine F.ok sc__law_due (fun vs H Q E h => ?_) (fun cdv A outer s H vs Q E hr h => ?_)
  · obtain ⟨v0, v1, x0, x1, im0, im1, ds0, ds1, rfl, _⟩ := h
    rfl
  · obtain ⟨v0, v1, x0, x1, im0, im1, ds0, ds1, rfl, h0, h1, si0, si1, sd0, sd1, n0, n1, q⟩ := h
    refine ⟨_, (pss_cons (ps_if (PW.pt (pw_and (pt_cmpR op_eq (pe_ix ix_tup (pv 0) pe_int (fun _ _ => rfl)) (pe_ix ix_tup (pv 1) pe_int (fun _ _ => rfl)) (nomark _)) (pw_and1 (pt_cmpR (op_neD hr.units) (pe_ix ix_tup (pv 0) pe_int (fun _ _ => rfl)) (pe_ix ix_tup (pv 1) pe_int (fun _ _ => rfl)) (nomark _)))))
  (pss_one (ps_ret pe_bl))
  pss_nil)
  (pss_cons (ps_for PassesOwn.never rfl (pi_range1 (by rfl) T.range (pa_cons (pe_callB call_len_seq (by rfl) T.len PySem.boot_len (pa_cons (pe_ix ix_tup (pv 0) pe_int (fun _ _ => rfl)) pa_nil)) pa_nil)) (pg_name (i := 2) sc__law_due.nd rfl (.inl rfl))
  (pss_cons (ps_set (i := 3) sc__law_due.nd rfl (.inl rfl) (pe_op op_sub (pe_op op_add (pe_ix ix_tup (pv 0) pe_int (fun _ _ => rfl)) (pv 2)) (pe_ix ix_tup (pv 1) pe_int (fun _ _ => rfl))))
  (pss_one (ps_if (PW.pt (pw_and (pt_chain op_le op_lt pe_int (pv 3) (pe_callB call_len_seq (by rfl) T.len PySem.boot_len (pa_cons (pe_ix ix_tup (pv 1) pe_int (fun _ _ => rfl)) pa_nil))) (pw_and1 (pt_cmpR (op_neD hr.units) (pe_ix ix_list (pe_ix ix_tup (pv 0) pe_int (fun _ _ => rfl)) (pv 2) (fun _ _ => rfl)) (pe_ix ix_list (pe_ix ix_tup (pv 1) pe_int (fun _ _ => rfl)) (pv 3) (fun _ _ => rfl)) (nomark _)))))
  (pss_one (ps_ret pe_bl))
  pss_nil))))
  (pss_one (ps_ret pe_bl)))), ?_⟩
    have a0 : ∀ (x : Int) (im : PyData) (ds : List PyData), atI [PyData.int x, im, .list ds] 0 = some (.int x) := fun _ _ _ => rfl
    have a1 : ∀ (x : Int) (im : PyData) (ds : List PyData), atI [PyData.int x, im, .list ds] 1 = some im := fun _ _ _ => rfl
    have a2 : ∀ (x : Int) (im : PyData) (ds : List PyData), atI [PyData.int x, im, .list ds] 2 = some (.list ds) := fun _ _ _ => rfl
    refine' q_when (b := apart x0 im0 x1 im1) (et_and (a := decide (V.int x0 = V.int x1)) (b := !PyData.eqv im0 im1) (et_test (ev_op (ev_intD (K := K) (ed_ixT (ed_var rfl h0) ev_c (a0 _ _ _))) (ev_intD (K := K) (ed_ixT (ed_var rfl h1) ev_c (a0 _ _ _))) (rv_eq rfl))) (fun _ => et_test (ev_neD (K := K) (ed_ixT (ed_var rfl h0) ev_c (a1 _ _ _)) (ed_ixT (ed_var rfl h1) ev_c (a1 _ _ _)) si0 si1 (by decide) (by decide)))) (fun hb H1 e1 => ?_) (fun hb H1 e1 => ?_)
    · have ed : dueB x0 im0 ds0 x1 im1 ds1 = false := if_pos hb
      rw [ed] at q
      exact s_ret ev_c (fun H2 e2 => q H2 (e1.trans e2))
    · have ed : dueB x0 im0 ds0 x1 im1 ds1 = (List.range ds0.length).all (fun k => !offB x0 ds0 x1 ds1 k) := if_neg (by rw [hb]; decide)
      rw [ed] at q
      have h01 := dp_mono e1 _ _ h0
      refine' q_forR1 (n := (ds0.length : Int)) (ea_cons (ev_lenD (K := K) (ed_ixT (ed_var rfl h01) ev_c (a2 _ _ _))) ea_nil) ⟨by omega, by omega⟩ (fun i σ' H' => ∃ (y2 y3 : Option V), σ' = [some v0, some v1, y2, y3] ∧ Ex H H' ∧ ∀ k, k < i → offB x0 ds0 x1 ds1 k = false) (fun H2 e2 => ⟨none, none, rfl, e1.trans e2, fun k hk => absurd hk (by omega)⟩) (fun i σ' H' hi hp => ?_) (fun σ' H' hp => ?_)
      · obtain ⟨y2, y3, rfl, e, hk⟩ := hp
        have h0' := dp_mono e _ _ h0
        have h1' := dp_mono e _ _ h1
        refine' q_asg (v := .int (x0 + (i : Int) - x1)) (ev_op (ev_op (ev_intD (K := K) (ed_ixT (ed_var rfl h0') ev_c (a0 _ _ _))) (ev_var rfl) rv_I0) (ev_intD (K := K) (ed_ixT (ed_var rfl h1') ev_c (a0 _ _ _))) rv_I0) (fun H3 e3 => ?_)
        have h0'' := dp_mono e3 _ _ h0'
        have h1'' := dp_mono e3 _ _ h1'
        refine' s_when (b := offB x0 ds0 x1 ds1 i) (et_and (a := decide (0 ≤ x0 + (i : Int) - x1) && decide (x0 + (i : Int) - x1 < (ds1.length : Int))) (b := !PyData.eqv (ds0.getD i .none) (ds1.getD (x0 + (i : Int) - x1).toNat .none)) (et_test (ev_chain (k := decide (0 ≤ x0 + (i : Int) - x1)) (m := decide (x0 + (i : Int) - x1 < (ds1.length : Int))) ev_c (ev_var rfl) rv_I0 (ev_lenD (K := K) (ed_ixT (ed_var rfl h1'') ev_c (a2 _ _ _))) rv_I0)) (fun hc => et_test (ev_neD (K := K) (n := 2) (m := 2) (ed_ixL (ed_ixT (ed_var rfl h0'') ev_c (a2 _ _ _)) (ev_var rfl) (atI_getD (i := (i : Int)) (by omega) (by omega))) (ed_ixL (ed_ixT (ed_var rfl h1'') ev_c (a2 _ _ _)) (ev_var rfl) (atI_getD ?g1 ?g2)) (sd0.getD _) (sd1.getD _) (by decide) (by decide)))) (fun hb H4 e4 => ?_) (fun hb H4 e4 => ?_)
        case g1 => exact of_decide_eq_true (Bool.and_eq_true_iff.mp hc).1
        case g2 => exact of_decide_eq_true (Bool.and_eq_true_iff.mp hc).2
        · refine s_ret (v := .bl false) ev_c (fun H5 e5 => ?_)
          rw [all_not (f := fun k => !offB x0 ds0 x1 ds1 k) (k := i) (by omega) (by rw [hb]; rfl)] at q
          exact q H5 (((e.trans e3).trans e4).trans e5)
        · refine ⟨_, _, rfl, (e.trans e3).trans e4, fun k hk' => ?_⟩
          by_cases hki : k = i
          · rw [hki]; exact hb
          · exact hk k (by omega)
      · obtain ⟨y2, y3, rfl, e, hk⟩ := hp
        refine s_ret (v := .bl true) ev_c (fun H5 e5 => ?_)
        rw [all_from (fun k hk' => by rw [hk k (by omega)]; rfl)] at q
        exact q H5 (e.trans e5)
/-! ### two parts in a list: what stands apart from a list that changes -/
def wo (H : Hp) (a : Addr) : Hp := fun x => if x = a then none else H x
theorem wo_self {H : Hp} {a : Addr} : wo H a a = none := by
  unfold wo
  rw [if_pos rfl]
theorem wo_ne {H : Hp} {a b : Addr} (h : b ≠ a) : wo H a b = H b := by
  unfold wo
  rw [if_neg h]
theorem wo_some {H : Hp} {a b : Addr} {o : HO} (h : wo H a b = some o) : b ≠ a ∧ H b = some o := by
  by_cases e : b = a
  · rw [e, wo_self] at h
    cases h
  · rw [wo_ne e] at h
    exact ⟨e, h⟩
theorem wo_ex {H : Hp} {a : Addr} : Ex (wo H a) H := fun b o h => (wo_some h).2
theorem wo_mono {H H' : Hp} {a : Addr} (e : Ex H H') : Ex (wo H a) (wo H' a) := fun b o h => by
  obtain ⟨n, h⟩ := wo_some h
  rw [wo_ne n]
  exact e b o h
theorem wo_upd {H : Hp} {a : Addr} {u : HO} : Ex (wo H a) (upd H a u) := fun b o h => by
  obtain ⟨n, h⟩ := wo_some h
  rw [upd_ne n]
  exact h
theorem ex_wo {G H : Hp} {a : Addr} (e : Ex G H) (h : G a = none) : Ex G (wo H a) := fun b o hb => by
  have n : b ≠ a := ne_of_none hb h
  rw [wo_ne n]
  exact e b o hb
theorem ov_wo {H H1 : Hp} {a : Addr} {u : HO} (e : Ex H H1) (h : H a = some u) : Ex (ov (wo H a) H H1) (wo H1 a) := fun b o hb => by
  unfold ov at hb
  cases h0 : wo H a b with
  | some o' =>
    rw [h0] at hb
    rw [← hb]
    exact wo_mono e b o' h0
  | none =>
    rw [h0] at hb
    cases h1 : H b with
    | some o' =>
      rw [h1] at hb
      cases hb
    | none =>
      rw [h1] at hb
      rw [wo_ne (fun q => by rw [q, h] at h1; cases h1)]
      exact hb
/-- a record: its deed apart -/
def Rc (d : PyData) : Prop := ∃ (m n : Int) (e : PyData), d = .tuple [.int m, .int n, e] ∧ Sd 1 e
theorem Rc.sd {d : PyData} (h : Rc d) : Sd 2 d := by
  obtain ⟨m, n, e, rfl, h⟩ := h
  exact sd_tuple (sds_cons sd_int (sds_cons sd_int (sds_cons h sds_nil)))
def Rcs (ds : List PyData) : Prop := ∀ d ∈ ds, Rc d
theorem Rcs.sds {ds : List PyData} (h : Rcs ds) : Sds 2 ds := fun d hd => (h d hd).sd
def Pc (im : PyData) (ds : List PyData) : Prop := Sd 2 im ∧ Rcs ds ∧ ds.length ≤ 60
def Pt (d : PyData) : Prop := ∃ (x : Int) (im : PyData) (ds : List PyData), d = partD x im ds ∧ Pc im ds
/-- the list of parts between two turns: the last part laid open -/
def PW (K : PySem.W.Frag) (lp : Addr) (i : Nat) (H' : Hp) : Prop := ∃ vs : List V, H' lp = some (.lst vs) ∧ ((i = 0 ∧ vs = []) ∨
  ∃ (G : Hp) (vs0 : List V) (ps0 : List PyData) (t l : Addr) (x : Int) (vi : V) (im : PyData) (xs : List V) (ds : List PyData), i = ps0.length + 1 ∧ vs = vs0 ++ [.ref t] ∧ G l = none ∧ G lp = none ∧ Ex G H' ∧ DpAll K G vs0 ps0 ∧ Dp K G vi im ∧ DpAll K G xs ds ∧ t ≠ l ∧ t ≠ lp ∧ l ≠ lp ∧
    H' t = some (.tup [.int x, vi, .ref l]) ∧ H' l = some (.lst xs) ∧ (∀ d ∈ ps0, Pt d) ∧ Pc im ds)
theorem PW.all {lp : Addr} {i : Nat} {H' : Hp} (h : PW K lp i H') : ∃ vs ps, H' lp = some (.lst vs) ∧ DpAll K (wo H' lp) vs ps ∧ ps.length = i ∧ ∀ d ∈ ps, Pt d := by
  obtain ⟨vs, h1, ⟨rfl, rfl⟩ | ⟨G, vs0, ps0, t, l, x, vi, im, xs, ds, rfl, rfl, _, nlp, eG, d0, di, dx, ntl, ntp, nlp2, ht, hl, hp, hc⟩⟩ := h
  · exact ⟨[], [], h1, .nil, rfl, fun _ h => nomatch h⟩
  · have eW := ex_wo eG nlp
    refine ⟨_, ps0 ++ [partD x im ds], h1, dpa_app (dpa_mono eW _ _ d0) (dpa_one (.tup (st_of (by rw [wo_ne ntp]; exact ht)) (.cons (.int x) (.cons (dp_mono eW _ _ di) (.cons (.lst (sq_of (by rw [wo_ne nlp2]; exact hl)) (dpa_mono eW _ _ dx)) .nil))))), by rw [List.length_append]; rfl, fun d hd => ?_⟩
    rcases List.mem_append.mp hd with q | q
    · exact hp d q
    · rw [List.mem_singleton.mp q]
      exact ⟨x, im, ds, rfl, hc⟩
theorem s_appPart {σ : L2.St} {H : Hp} {D : Ends} {ta tx ti th : TE} {tl tu : TO} {lp lh : Addr} {vs hxs : List V} {x : Int} {vi : V} {lo hi : Option Int} (hlp : H lp = some (.lst vs)) (ha : Ev ta σ H (.ref lp)) (hx : Ev tx σ H (.int x)) (hv : Ev ti σ H vi) (hh : Ev th σ H (.ref lh)) (hs : SqL K H lh hxs) (h1 : EvO tl σ H lo) (h2 : EvO tu σ H hi) (hz : vs.length < 100000)
    (k : ∀ Hs p t, Ex H Hs → Hs p = none → Hs t = none → t ≠ p → D.nx σ (upd (upd (upd Hs p (.lst (cutV hxs lo hi))) t (.tup [.int x, vi, .ref p])) lp (.lst (vs ++ [.ref t])))) :
    tDrop (tBM K "list" rAppend ta (tCons (tTup (tCons tx (tCons ti (tCons (tSl (rSlL K) th tl tu) tNil)))) tNil)) D σ H := ha H (Ex.refl H) _ fun H1 e1 =>
  ⟨Or.inl ⟨rfl, vs, sq_of (e1 lp _ hlp)⟩, hx H1 e1 _ fun H2 e2 => hv H2 (e1.trans e2) _ fun H3 e3 => hh H3 ((e1.trans e2).trans e3) _ fun H4 e4 => h1 H4 (((e1.trans e2).trans e3).trans e4) _ fun H5 e5 => h2 H5 ((((e1.trans e2).trans e3).trans e4).trans e5) _ fun H6 e6 => by
    have E := ((((e1.trans e2).trans e3).trans e4).trans e5).trans e6
    refine ⟨lh, hxs, rfl, ex_l E hs, fun p hp => ⟨sz_of (Nat.le_of_ble_eq_true rfl), fun t ht => ?_⟩⟩
    have ntp : t ≠ p := fun q => by
      rw [q, upd_same] at ht
      cases ht
    rw [upd_ne ntp] at ht
    have hlp6 := E lp _ hlp
    have nlp : lp ≠ p := ne_of_none hlp6 hp
    have nlt : lp ≠ t := ne_of_none hlp6 ht
    exact ⟨lp, vs, .ref t, rfl, rfl, by rw [upd_ne nlt, upd_ne nlp]; exact hlp6, sz_lt hz, k H6 p t E hp ht ntp⟩⟩
theorem s_setU {σ : L2.St} {H : Hp} {D : Ends} {ta tb : TE} {tt : TA} {l : Addr} {xs ys : List V} {j : Nat} (hl : H l = some (.lst xs)) (h : EvA tt σ H ys) (hz : ys.length ≤ 100000) (ho : Ev ta σ H (.ref l)) (hi : Ev tb σ H (.int (j : Int))) (hj : j < xs.length)
    (k : ∀ H1 t H2, Ex H H1 → H1 t = none → Ex (upd H1 t (.tup ys)) H2 → D.nx σ (upd H2 l (.lst (xs.set j (.ref t))))) : tAsg (tTup tt) (gSub ta tb rSetL) D σ H :=
  h H (Ex.refl H) _ fun H1 e1 => ⟨sz_of hz, fun t ht => by
    have e1' : Ex H (upd H1 t (.tup ys)) := e1.trans (Ex.new ht)
    exact ho _ e1' _ fun H2 e2 => hi H2 (e1'.trans e2) _ fun H3 e3 => ⟨l, xs, (j : Int), j, rfl, rfl, ((e1'.trans e2).trans e3) l _ hl, ixN_nat hj, k H1 t H3 e1 ht (e2.trans e3)⟩⟩
theorem dpa_set : ∀ {H : Hp} {vs : List V} {ds : List PyData} {v : V} {d : PyData} (j : Nat), DpAll K H vs ds → Dp K H v d → DpAll K H (vs.set j v) (ds.set j d)
  | _, _, _, _, _, _, .nil, _ => .nil
  | _, _, _, _, _, 0, .cons _ h2, h => .cons h h2
  | _, _, _, _, _, j + 1, .cons h1 h2, h => .cons h1 (dpa_set j h2 h)
theorem two_parts {G H : Hp} {v0 vi : V} {p0 im : PyData} {xs : List V} {ds : List PyData} {t l lp : Addr} {x : Int} (eG : Ex G H) (h0 : Dp K G v0 p0) (hi : Dp K G vi im) (hx : DpAll K G xs ds) (ht : H t = some (.tup [.int x, vi, .ref l])) (hl : H l = some (.lst xs)) (hp : H lp = some (.lst [v0, .ref t])) :
    Dp K H (.ref lp) (.list [p0, partD x im ds]) ∧ Dp K H (.ref l) (.list ds) :=
  have q : Dp K H (.ref l) (.list ds) := .lst (sq_of hl) (dpa_mono eG _ _ hx)
  ⟨.lst (sq_of hp) (.cons (dp_mono eG _ _ h0) (.cons (.tup (st_of ht) (.cons (.int x) (.cons (dp_mono eG _ _ hi) (.cons q .nil)))) .nil)), q⟩
theorem ev_due {σ : L2.St} {H : Hp} {tas : TA} {E : XK} {x0 x1 : Int} {im0 im1 : PyData} {ds0 ds1 : List PyData} (h : EvDs K tas σ H [partD x0 im0 ds0, partD x1 im1 ds1]) (c0 : Pc im0 ds0) (c1 : Pc im1 ds1) : Ev (tCall (spDue K) [] E tas) σ H (.bl (dueB x0 im0 ds0 x1 im1 ds1)) := fun H1 e Q q => h H1 e _ fun vs H2 e2 hd => by
  have eo := ov_ex e e2
  cases hd with
  | cons d1 r1 => cases r1 with
    | cons d2 r2 =>
      cases r2
      exact ⟨_, _, x0, x1, im0, im1, ds0, ds1, rfl, dp_mono eo _ _ d1, dp_mono eo _ _ d2, c0.1, c1.1, c0.2.1.sds, c1.2.1.sds, c0.2.2, c1.2.2, fun H3 e3 => q H3 (e2.trans e3)⟩
theorem ok_law {f f1 f2 f3 f4 f5 C f_i f_a f_l f_b : Addr} {fd fd1 fd2 fd3 fd4 fd5 fd_i fd_a fd_l fd_b : FuncData} (F : Fun K "law" "law" s_law f fd) (D__law_stream : Df K mg "_law_stream" s__law_stream ["script", "many"] f1 fd1) (D__law_draw : Df K mg "_law_draw" s__law_draw ["draws", "k"] f2 fd2)
    (D__law_large : Df K mg "_law_large" s__law_large ["draws", "k"] f3 fd3) (D__law_record : Df K mg "_law_record" s__law_record ["draw"] f4 fd4) (D__law_due : Df K mg "_law_due" s__law_due ["first", "second"] f5 fd5)
    (L_Log : Kl K mg "Log" C) (L : LogC K C) (D_Log___init__ : Dm K C "__init__" "Log.__init__" s_Log___init__ ["self", "base", "image", "records"] f_i fd_i) (D_Log_agrees : Dm K C "agrees" "Log.agrees" s_Log_agrees ["self", "other"] f_a fd_a)
    (D_Log_length : Pr K C "length" "Log.length" s_Log_length f_l fd_l) (D_Log__between : Dm K C "_between" "Log._between" s_Log__between ["self", "low", "high"] f_b fd_b) (T : Glo mg) : FnOk P w K mg base CX0 5 f fd ["script"] (spLaw K) := by
  have G__law_stream : FnOk P w K mg base CX0 1 f1 fd1 _ _ := ok_stream D__law_stream.F T
  have G__law_draw : FnOk P w K mg base CX0 1 f2 fd2 _ _ := ok_draw D__law_draw.F T
  have G__law_large : FnOk P w K mg base CX0 2 f3 fd3 _ _ := ok_large D__law_large.F D__law_draw T
  have G__law_record : FnOk P w K mg base CX0 1 f4 fd4 _ _ := ok_record D__law_record.F
  have G__law_due : FnOk P w K mg base CX0 1 f5 fd5 _ _ := ok_due D__law_due.F T
  have G_Log_agrees : FnOk P w K mg base CX0 3 f_a fd_a _ _ := ok_agr D_Log_agrees D_Log_length D_Log__between L_Log L T
  have G_Log___init__ : FnOk P w K mg base CX0 1 f_i fd_i _ _ := ok_log_init D_Log___init__.F L
  refine F.ok sc_law (fun vs H Q E h => ?_) (fun cdv A outer s H vs Q E hr h => ?_)
  · obtain ⟨a, ns, rfl, _⟩ := h
    rfl
  · obtain ⟨a, ns, rfl, hS, hn, q⟩ := h
    refine ⟨_, (pss_cons (ps_set (i := 1) sc_law.nd rfl (.inr rfl) (pe_call G__law_stream (hr.mono (by decide)) (by rfl) D__law_stream.g D__law_stream.F.kp D__law_stream.b .nil pass0 (pa_cons (pv 0) (pa_cons pe_int pa_nil))))
  (pss_cons (ps_set (i := 2) sc_law.nd rfl (.inl rfl) (pe_op op_mod (pe_call G__law_draw (hr.mono (by decide)) (by rfl) D__law_draw.g D__law_draw.F.kp D__law_draw.b .nil pass0 (pa_cons (pv 1) (pa_cons pe_int pa_nil))) pe_int))
  (pss_cut (ps_if (pt_cmpR op_eq (pe_op op_mod (pe_op op_fdiv (pe_call G__law_draw (hr.mono (by decide)) (by rfl) D__law_draw.g D__law_draw.F.kp D__law_draw.b .nil pass0 (pa_cons (pv 1) (pa_cons pe_int pa_nil))) pe_int) pe_int) pe_int (nomark _))
  (pss_one (ps_set (i := 2) sc_law.nd rfl (.inl rfl) (pe_op op_mod (pe_op op_fdiv (pe_call G__law_draw (hr.mono (by decide)) (by rfl) D__law_draw.g D__law_draw.F.kp D__law_draw.b .nil pass0 (pa_cons (pv 1) (pa_cons pe_int pa_nil))) pe_int) pe_int)))
  pss_nil)
  (pss_cons (ps_set (i := 3) sc_law.nd rfl (.inl rfl) pe_int)
  (pss_cut (ps_if (pt_cmpR op_eq (pe_op op_mod (pe_call G__law_draw (hr.mono (by decide)) (by rfl) D__law_draw.g D__law_draw.F.kp D__law_draw.b .nil pass0 (pa_cons (pv 1) (pa_cons pe_int pa_nil))) pe_int) pe_int (nomark _))
  (pss_one (ps_set (i := 3) sc_law.nd rfl (.inl rfl) (pe_call G__law_large (hr.mono (by decide)) (by rfl) D__law_large.g D__law_large.F.kp D__law_large.b .nil pass0 (pa_cons (pv 1) (pa_cons pe_int pa_nil)))))
  pss_nil)
  (pss_cons (ps_setLc (i := 4) (own := [("k", 5)]) (g := gName 5) rfl sc_law.nd rfl rfl (sw_true rfl rfl rfl (by decide +kernel)) (pi_range1 (by rfl) T.range (pa_cons (pv 2) pa_nil)) (blkOk_by (N := N_law) (sc := defScope s_law) (by decide +kernel)) (fun _ _ _ _ _ => (pg_name (i := 5) sc_law.nd rfl (.inl rfl))) (fun _ _ _ _ _ => pts_nil) (fun _ _ _ _ _ => (pe_call G__law_record (hr.mono (by decide)) (by rfl) D__law_record.g D__law_record.F.kp D__law_record.b .nil pass0 (pa_cons (pe_op op_mod (pe_callTy call_int1 (by rfl) T.int (by decide +kernel) (pa_cons (pe_op op_add (pe_call G__law_draw (hr.mono (by decide)) (by rfl) D__law_draw.g D__law_draw.F.kp D__law_draw.b .nil pass0 (pa_cons (pv 1) (pa_cons (pe_op op_add pe_int (pe_op op_mod (pv 5) pe_int)) pa_nil))) (pe_op op_mul pe_int (pv 5))) pa_nil)) pe_int) pa_nil))))
  (pss_cons (ps_set (i := 6) sc_law.nd rfl (.inl rfl) (pe_lst pa_nil))
  (pss_cons (ps_for PassesOwn.never rfl (pi_range1 (by rfl) T.range (pa_cons pe_int pa_nil)) (pg_name (i := 5) sc_law.nd rfl (.inl rfl))
  (pss_cons (ps_set (i := 7) sc_law.nd rfl (.inl rfl) (pe_op op_mod (pe_call G__law_draw (hr.mono (by decide)) (by rfl) D__law_draw.g D__law_draw.F.kp D__law_draw.b .nil pass0 (pa_cons (pv 1) (pa_cons (pe_op op_add pe_int (pv 5)) pa_nil))) (pe_op op_add (pv 2) pe_int)))
  (pss_cons (ps_set (i := 8) sc_law.nd rfl (.inl rfl) (pe_op op_add (pv 7) (pe_op op_mod (pe_call G__law_draw (hr.mono (by decide)) (by rfl) D__law_draw.g D__law_draw.F.kp D__law_draw.b .nil pass0 (pa_cons (pv 1) (pa_cons (pe_op op_add pe_int (pv 5)) pa_nil))) (pe_op op_add (pe_op op_sub (pv 2) (pv 7)) pe_int))))
  (pss_cons (ps_set (i := 9) sc_law.nd rfl (.inl rfl) (pe_tup (pa_cons pe_str (pa_cons (pv 7) pa_nil))))
  (pss_cut (ps_if (pt_cmpR op_eq (pe_op op_mod (pe_op op_fdiv (pe_call G__law_draw (hr.mono (by decide)) (by rfl) D__law_draw.g D__law_draw.F.kp D__law_draw.b .nil pass0 (pa_cons (pv 1) (pa_cons (pe_op op_add pe_int (pv 5)) pa_nil))) pe_int) pe_int) pe_int (nomark _))
  (pss_one (ps_set (i := 9) sc_law.nd rfl (.inl rfl) (pe_tup (pa_cons pe_str (pa_cons (pv 7) (pa_cons (pv 5) pa_nil))))))
  pss_nil)
  (pss_one (ps_expr (pe_bm PySem.F.plainAttrs_list PySem.F.slot_list_append PySem.F.type_list_append mt_append (pv 6) (pa_cons (pe_tup (pa_cons (pe_op op_add (pv 3) (pv 7)) (pa_cons (pv 9) (pa_cons (pe_slice sl_list (pv 4) (po_some (pv 7)) (po_some (pv 8))) pa_nil)))) pa_nil)))))))))
  (pss_cons (ps_set (i := 10) sc_law.nd rfl (.inl rfl) (pe_ix ix_tup (pe_ix ix_list (pv 6) pe_int (fun _ _ => rfl)) pe_int (fun _ _ => rfl)))
  (pss_cut (ps_if (PW.pt (pw_and (pt_cmpR op_eq (pe_op op_mod (pe_call G__law_draw (hr.mono (by decide)) (by rfl) D__law_draw.g D__law_draw.F.kp D__law_draw.b .nil pass0 (pa_cons (pv 1) (pa_cons pe_int pa_nil))) pe_int) pe_int (nomark _)) (pw_and1 (pt_cmpR op_gt (pe_callB call_len_seq (by rfl) T.len PySem.boot_len (pa_cons (pv 10) pa_nil)) pe_int (nomark _)))))
  (pss_cons (ps_set (i := 11) sc_law.nd rfl (.inl rfl) (pe_op op_mod (pe_call G__law_draw (hr.mono (by decide)) (by rfl) D__law_draw.g D__law_draw.F.kp D__law_draw.b .nil pass0 (pa_cons (pv 1) (pa_cons pe_int pa_nil))) (pe_callB call_len_seq (by rfl) T.len PySem.boot_len (pa_cons (pv 10) pa_nil))))
  (pss_one (ps_asg (pe_tup (pa_cons (pe_ix ix_tup (pe_ix ix_list (pv 10) (pv 11) (fun _ _ => rfl)) pe_int (fun _ _ => rfl)) (pa_cons (pe_op op_add (pe_ix ix_tup (pe_ix ix_list (pv 10) (pv 11) (fun _ _ => rfl)) pe_int (fun _ _ => rfl)) pe_int) (pa_cons (pe_ix ix_tup (pe_ix ix_list (pv 10) (pv 11) (fun _ _ => rfl)) pe_int (fun _ _ => rfl)) pa_nil)))) (pg_sub (pv 10) (pv 11) set_list))))
  pss_nil)
  (pss_cons (ps_set (i := 12) sc_law.nd rfl (.inl rfl) (pe_call G__law_due (hr.mono (by decide)) (by rfl) D__law_due.g D__law_due.F.kp D__law_due.b .nil pass0 (pa_cons (pe_ix ix_list (pv 6) pe_int (fun _ _ => rfl)) (pa_cons (pe_ix ix_list (pv 6) pe_int (fun _ _ => rfl)) pa_nil))))
  (pss_cons (ps_set (i := 13) sc_law.nd rfl (.inl rfl) (pe_make (L_Log.make D_Log___init__) G_Log___init__ (hr.mono (by decide)) (by rfl) L_Log.g D_Log___init__.b .nil pass0 (pa_cons (pe_ix ix_tup (pe_ix ix_list (pv 6) pe_int (fun _ _ => rfl)) pe_int (fun _ _ => rfl)) (pa_cons (pe_ix ix_tup (pe_ix ix_list (pv 6) pe_int (fun _ _ => rfl)) pe_int (fun _ _ => rfl)) (pa_cons (pe_tupleOf (by rfl) T.tuple (pe_ix ix_tup (pe_ix ix_list (pv 6) pe_int (fun _ _ => rfl)) pe_int (fun _ _ => rfl))) pa_nil)))))
  (pss_cons (ps_set (i := 14) sc_law.nd rfl (.inl rfl) (pe_make (L_Log.make D_Log___init__) G_Log___init__ (hr.mono (by decide)) (by rfl) L_Log.g D_Log___init__.b .nil pass0 (pa_cons (pe_ix ix_tup (pe_ix ix_list (pv 6) pe_int (fun _ _ => rfl)) pe_int (fun _ _ => rfl)) (pa_cons (pe_ix ix_tup (pe_ix ix_list (pv 6) pe_int (fun _ _ => rfl)) pe_int (fun _ _ => rfl)) (pa_cons (pe_tupleOf (by rfl) T.tuple (pv 10)) pa_nil)))))
  (pss_cons (ps_for PassesOwn.never rfl (pi_list (pe_lst (pa_cons (pe_meth (pv 13) L_Log.cl D_Log_agrees.m G_Log_agrees (hr.mono (by decide)) D_Log_agrees.b .nil pass0 (pa_cons (pv 14) pa_nil)) (pa_cons (pe_meth (pv 14) L_Log.cl D_Log_agrees.m G_Log_agrees (hr.mono (by decide)) D_Log_agrees.b .nil pass0 (pa_cons (pv 13) pa_nil)) pa_nil)))) (pg_name (i := 15) sc_law.nd rfl (.inl rfl))
  (pss_one (ps_if (PW.pt (pw_or (pt_not (pt_val (pe_callB call_isi (by rfl) T.isinstance (by decide +kernel) (pa_cons (pv 15) (pa_cons (pe_bltn (v := .ty "bool") (u := .type "bool") (by rfl) T.bool (by decide +kernel) rfl) pa_nil))))) (pw_or1 (pt_cmpR op_ne (pv 15) (pv 12) (nomark _)))))
  (pss_one (ps_ret pe_bl))
  pss_nil)))
  (pss_one (ps_ret (pe_and (pe_cmpR op_is_bl (pe_meth (pv 13) L_Log.cl D_Log_agrees.m G_Log_agrees (hr.mono (by decide)) D_Log_agrees.b .nil pass0 (pa_cons (pv 13) pa_nil)) pe_bl (nomark _)) (pe_one (pe_cmpR op_is_bl (pe_meth (pv 14) L_Log.cl D_Log_agrees.m G_Log_agrees (hr.mono (by decide)) D_Log_agrees.b .nil pass0 (pa_cons (pv 14) pa_nil)) pe_bl (nomark _)))))))))))))))))))), ?_⟩
    refine q_stream rfl hS hn (by decide) fun ds l H1 hD hdl nl e1 hl => ?_
    have hL1 : SqL K H1 l (ds.map V.int) := sq_of hl
    refine' q_asg ?w1 (fun H2 e2 => ?_)
    case w1 => walk_at "ev"
    have hL2 := ex_l e2 hL1
    have d0 := drI_ok hD 0
    refine' q_cut (M := fun σ' H' => ∃ sz : Nat, σ' = [some (.ref a), some (.ref l), some (.int (sz : Int)), none, none, none, none, none, none, none, none, none, none, none, none, none] ∧ sz ≤ 60 ∧ Ex H2 H') ?cut (fun σ' H3 p => ?_)
    case cut =>
      refine' s_when ?w2 (fun _ H3 e3 => ?_) (fun _ H3 e3 => ?_)
      case w2 => walk_at "ev"
      · refine' s_asg (v := .int (((drI ds 0 / 40 % 61).toNat : Nat) : Int)) ?w3 (fun H4 e4 => ⟨_, rfl, by omega, e3.trans e4⟩)
        case w3 =>
          have hL3 := ex_l e3 hL2
          rw [show (((drI ds 0 / 40 % 61).toNat : Nat) : Int) = drI ds 0 / 40 % 61 by omega]
          walk_at "ev"
      · exact ⟨(drI ds 0 % 10).toNat, by rw [show (((drI ds 0 % 10).toNat : Nat) : Int) = drI ds 0 % 10 by omega]; rfl, by omega, e3⟩
    obtain ⟨sz, rfl, hsz, e3⟩ := p
    have hL3 := ex_l e3 hL2
    refine' q_asg ev_c (fun H4 e4 => ?_)
    have hL4 := ex_l e4 hL3
    refine' q_cut (M := fun σ' H' => ∃ b : Int, σ' = [some (.ref a), some (.ref l), some (.int (sz : Int)), some (.int b), none, none, none, none, none, none, none, none, none, none, none, none] ∧ Ex H4 H') ?cut2 (fun σ' H5 p => ?_)
    case cut2 =>
      refine' s_when ?w4 (fun _ H5 e5 => ?_) (fun _ H5 e5 => ?_)
      case w4 => walk_at "ev"
      · exact spLarge_use (K := K) (ea_cons (ev_var rfl) (ea_cons ev_c ea_nil)) (ex_l e5 hL4) (by decide) (fun c H6 h0 h1 e6 => ⟨c, rfl, e5.trans e6⟩)
      · exact ⟨_, rfl, e5⟩
    obtain ⟨b, rfl, e5⟩ := p
    have hL5 := ex_l e5 hL4
    refine' q_asgN (K := K) (en_lcR1 (K := K) (n := (sz : Int)) (fun _ => true) (fun i => recD ((drI ds (8 + (i : Int) % 8) + 97 * (i : Int)) % 5040)) (ea_cons (ev_var rfl) ea_nil) ⟨by omega, by omega⟩ (fun _ => rfl) (fun i hi => et_nil) (fun i hi _ => ?_)) (fun lh hxs H6 nh e6 h6 hd6 => ?_)
    · refine' ed_call (vs := [.int ((drI ds (8 + (i : Int) % 8) + 97 * (i : Int)) % 5040)]) ?w5 (spRec_d (Int.emod_nonneg _ (by decide)))
      case w5 => walk_at "ev"
    have hL6 := ex_l e6 hL5
    have shs : Rcs (givenD ((sz : Int)).toNat (fun _ => true) (fun i => recD ((drI ds (8 + (i : Int) % 8) + 97 * (i : Int)) % 5040))) := fun d hd => by
      obtain ⟨i, _, rfl⟩ := List.mem_map.mp hd
      exact ⟨_, _, _, rfl, (sds_deeds _).getD _⟩
    have hhl : (givenD ((sz : Int)).toNat (fun _ => true) (fun i => recD ((drI ds (8 + (i : Int) % 8) + 97 * (i : Int)) % 5040))).length ≤ 60 := Nat.le_trans (givenD_len _ _ _) hsz
    generalize givenD ((sz : Int)).toNat (fun _ => true) (fun i => recD ((drI ds (8 + (i : Int) % 8) + 97 * (i : Int)) % 5040)) = hs at *
    refine' q_asgL (xs := []) (el_lst ea_nil (by decide)) (fun lp H7 nlp e7 h7 => ?_)
    refine' q_forR1 (n := 2) (ea_cons ev_c ea_nil) (by decide) (fun i σ' H' => ∃ (y5 y7 y8 y9 : Option V), σ' = [some (.ref a), some (.ref l), some (.int (sz : Int)), some (.int b), some (.ref lh), y5, some (.ref lp), y7, y8, y9, none, none, none, none, none, none] ∧ Ex H6 H' ∧ PW K lp i H') (fun H8 e8 => ⟨none, none, none, none, rfl, e7.trans e8, [], e8 _ _ h7, .inl ⟨rfl, rfl⟩⟩) (fun i σ' H' hi hp => ?_) (fun σ' H' hp => ?_)
    · obtain ⟨y5, y7, y8, y9, rfl, e, hp⟩ := hp
      obtain ⟨vs, ps, hlp, hda, hpl, hpt⟩ := hp.all
      have hL7 := ex_l e hL6
      have g1 := drI_ok hD (1 + (i : Int))
      have g3 := drI_ok hD (3 + (i : Int))
      have m1 : 0 ≤ drI ds (1 + (i : Int)) % ((sz : Int) + 1) := Int.emod_nonneg _ (by omega)
      have m2 : drI ds (1 + (i : Int)) % ((sz : Int) + 1) < (sz : Int) + 1 := Int.emod_lt_of_pos _ (by omega)
      refine' q_asg (v := .int (drI ds (1 + (i : Int)) % ((sz : Int) + 1))) (ev_op ?w6 (ev_op (ev_var rfl) ev_c rv_I0) (rv_I (show (0 : Int) < (sz : Int) + 1 by omega))) (fun H8 e8 => ?_)
      case w6 => walk_at "ev"
      have hL8 := ex_l e8 hL7
      generalize drI ds (1 + (i : Int)) % ((sz : Int) + 1) = bs at *
      refine' q_asg (v := .int (bs + drI ds (3 + (i : Int)) % ((sz : Int) - bs + 1))) (ev_op (ev_var rfl) (ev_op ?w7 (ev_op (ev_op (ev_var rfl) (ev_var rfl) rv_I0) ev_c rv_I0) (rv_I (show (0 : Int) < (sz : Int) - bs + 1 by omega))) rv_I0) (fun H9 e9 => ?_)
      case w7 => walk_at "ev"
      generalize bs + drI ds (3 + (i : Int)) % ((sz : Int) - bs + 1) = ln at *
      have hL9 := ex_l e9 hL8
      have hlp9 := (e8.trans e9) _ _ hlp
      refine' q_asgDB (K := K) (B := wo H9 lp) (d := .tuple [.str "image", .int bs]) wo_ex (ed_tup (eds_cons ed_str (eds_cons (ed_int (ev_var rfl)) eds_nil)) (Nat.le_of_ble_eq_true rfl)) (fun v9 H10 e10 h10 => ?_)
      have h10 := dp_mono (ov_wo e10 hlp9) _ _ h10
      have hL10 := ex_l e10 hL9
      have hlp10 := e10 _ _ hlp9
      refine' q_cut (M := fun σ' H' => ∃ (v9 : V) (im : PyData), σ' = [some (.ref a), some (.ref l), some (.int (sz : Int)), some (.int b), some (.ref lh), some (.int (i : Int)), some (.ref lp), some (.int bs), some (.int ln), some v9, none, none, none, none, none, none] ∧ Dp K (wo H' lp) v9 im ∧ Sd 2 im ∧ Ex H10 H') ?cut3 (fun σ' H11 p => ?_)
      case cut3 =>
        refine' s_when ?w8 (fun _ H11 e11 => ?_) (fun _ H11 e11 => ?_)
        case w8 => walk_at "ev"
        · exact (ed_tup (K := K) (eds_cons ed_str (eds_cons (ed_int (ev_var rfl)) (eds_cons (ed_int (ev_var rfl)) eds_nil))) (Nat.le_of_ble_eq_true rfl)) H11 wo_ex _ fun v H12 e12 h12 => ⟨v, .tuple [.str "other", .int bs, .int (i : Int)], rfl, dp_mono (ov_wo e12 (e11 _ _ hlp10)) _ _ h12, (sd_tuple (n := 0) (sds_cons (sd_str (by decide +kernel)) (sds_cons sd_int (sds_cons sd_int sds_nil)))).up (by decide), e11.trans e12⟩
        · exact ⟨v9, _, rfl, dp_mono (wo_mono e11) _ _ h10, (sd_tuple (n := 0) (sds_cons (sd_str (by decide +kernel)) (sds_cons sd_int sds_nil))).up (by decide), e11⟩
      obtain ⟨v9, im, rfl, h11, sim, e11⟩ := p
      have hlp11 := e11 _ _ hlp10
      have eA := ((e8.trans e9).trans e10).trans e11
      have e611 := e.trans eA
      have hvl : vs.length < 100000 := by
        rw [dpa_len hda]
        omega
      refine s_appPart (K := K) (lh := lh) (hxs := hxs) (x := b + bs) (vi := v9) (lo := some bs) (hi := some ln) hlp11 (ev_var rfl) (ev_op (ev_var rfl) (ev_var rfl) rv_I0) (ev_var rfl) (ev_var rfl) (sq_of (e611 _ _ h6)) (eo_some (ev_var rfl)) (eo_some (ev_var rfl)) hvl (fun Hs p t eS np nt ntp => ?_)
      have hlpS := eS _ _ hlp11
      have nlp1 : lp ≠ p := ne_of_none hlpS np
      have nlp2 : lp ≠ t := ne_of_none hlpS nt
      have eG : Ex (wo Hs lp) (upd (upd (upd Hs p (.lst (cutV hxs (some bs) (some ln)))) t (.tup [.int (b + bs), v9, .ref p])) lp (.lst (vs ++ [.ref t]))) := fun c o hc => by
        obtain ⟨n1, hc⟩ := wo_some hc
        rw [upd_ne n1, upd_ne (ne_of_none hc nt), upd_ne (ne_of_none hc np)]
        exact hc
      refine ⟨_, _, _, _, rfl, ?_, _, upd_same, .inr ⟨wo Hs lp, vs, ps, t, p, b + bs, v9, im, cutV hxs (some bs) (some ln), cutA hs (some bs) (some ln), by rw [hpl], rfl, by rw [wo_ne nlp1.symm]; exact np, wo_self, eG, dpa_mono (wo_mono (eA.trans eS)) _ _ hda, dp_mono (wo_mono eS) _ _ h11, dpa_cut (dpa_mono (ex_wo (e611.trans eS) nlp) _ _ hd6), ntp, nlp2.symm, nlp1.symm, by rw [upd_ne nlp2.symm, upd_same], by rw [upd_ne nlp1.symm, upd_ne ntp.symm, upd_same], hpt, sim, fun d hd => shs d (List.mem_of_mem_drop (List.mem_of_mem_take hd)), ?_⟩⟩
      · exact (ex_wo (e611.trans eS) nlp).trans eG
      · refine Nat.le_trans ?_ hhl
        unfold cutA
        rw [List.length_take, List.length_drop]
        omega
    · obtain ⟨y5, y7, y8, y9, rfl, e, vs, hlp, ⟨h, _⟩ | ⟨G, vs0, ps0, t, lc, x, vi, im, xs, dc, hi2, rfl, ncl, nlp2, eG, d0', di, dx, ntl, ntp, nclp, ht, hlc, hpt, hc⟩⟩ := hp
      · cases h
      · obtain ⟨v0, p0, rfl, rfl, hv0⟩ : ∃ v0 p0, vs0 = [v0] ∧ ps0 = [p0] ∧ Dp K G v0 p0 := by
          cases d0' with
          | nil => cases hi2
          | cons h1 h2 => cases h2 with
            | nil => exact ⟨_, _, rfl, rfl, h1⟩
            | cons _ _ => cases hi2
        obtain ⟨x0, im0, ds0, rfl, hc0⟩ := hpt p0 (List.mem_singleton.mpr rfl)
        have hL7 := ex_l e hL6
        refine' q_asg (v := .ref lc) (ev_op (ev_op (ev_var rfl) ev_c (rv_ixL (sq_of hlp) rfl)) ev_c (rv_ixT (st_of ht) rfl)) (fun H8 e8 => ?_)
        have hL8 := ex_l e8 hL7
        have ht8 := e8 _ _ ht
        have hlc8 := e8 _ _ hlc
        have hlp8 := e8 _ _ hlp
        have eG8 := eG.trans e8
        refine' q_cut (M := fun σ' H' => ∃ (y11 : Option V) (dn : List PyData), σ' = [some (.ref a), some (.ref l), some (.int (sz : Int)), some (.int b), some (.ref lh), y5, some (.ref lp), y7, y8, y9, some (.ref lc), y11, none, none, none, none] ∧ Pc im dn ∧ Dp K H' (.ref lp) (.list [partD x0 im0 ds0, partD x im dn]) ∧ Dp K H' (.ref lc) (.list dn)) ?cut4 (fun σ' H9 p => ?_)
        case cut4 =>
          refine' s_when (b := decide (V.int (drI ds 5 % 2) = V.int 1) && decide ((xs.length : Int) > 0)) (et_and (a := decide (V.int (drI ds 5 % 2) = V.int 1)) (b := decide ((xs.length : Int) > 0)) ?w9 (fun _ => et_test (ev_op (ev_cb (ea_cons (ev_var rfl) ea_nil) (rc_len (K := K) (sq_of hlc8))) ev_c rv_I0))) (fun hb H9 e9 => ?_) (fun _ H9 e9 => ?_)
          case w9 => walk_at "ev"
          · have hx0 : (xs.length : Int) > 0 := of_decide_eq_true (Bool.and_eq_true_iff.mp hb).2
            have hL9 := ex_l e9 hL8
            have hlc9 := e9 _ _ hlc8
            have m1 : 0 ≤ drI ds 6 % (xs.length : Int) := Int.emod_nonneg _ (by omega)
            have m2 : drI ds 6 % (xs.length : Int) < (xs.length : Int) := Int.emod_lt_of_pos _ (by omega)
            refine' q_asg (v := .int (drI ds 6 % (xs.length : Int))) (ev_op ?w10 (ev_cb (ea_cons (ev_var rfl) ea_nil) (rc_len (K := K) (sq_of hlc9))) (rv_I (show (0 : Int) < (xs.length : Int) from hx0))) (fun H10 e10 => ?_)
            case w10 => walk_at "ev"
            obtain ⟨j, hj⟩ := Int.eq_ofNat_of_zero_le m1
            rw [hj] at m1 m2 ⊢
            have hjl : j < xs.length := by omega
            have hlc10 := e10 _ _ hlc9
            have ea := (e9.trans e10)
            obtain ⟨d, hdj, hdv⟩ := dpa_atV dx (List.getElem?_eq_getElem hjl)
            obtain ⟨m, n, ee, rfl, hse⟩ := hc.2.1 d (List.mem_of_getElem? hdj)
            have hit : atI xs ((j : Nat) : Int) = some xs[j] := atI_nat (List.getElem?_eq_getElem hjl)
            generalize xs[j] = it at *
            cases hdv with
            | @tup ta ys _ hs0 hda =>
              cases hda with
              | cons r1 r2 => cases r2 with
                | cons r3 r4 => cases r4 with
                  | cons r5 r6 =>
                    cases r6
                    cases r1
                    cases r3
                    rename_i w2
                    have hsT : SqT K H10 ta [.int m, .int n, w2] := ex_t (eG8.trans ea) hs0
                    have hcj : ∀ σ0 : L2.St, σ0[10]? = some (some (.ref lc)) → σ0[11]? = some (some (.int (j : Int))) → Ev (tOp (rIxL K) (tVar 10) (tVar 11)) σ0 H10 (.ref ta) := fun σ0 q0 q1 => ev_op (ev_var q0) (ev_var q1) (rv_ixL (sq_of hlc10) hit)
                    refine' s_setU (xs := xs) (j := j) (l := lc) hlc10 (ea_cons (ev_op (hcj _ rfl rfl) ev_c (rv_ixT hsT rfl)) (ea_cons (ev_op (ev_op (hcj _ rfl rfl) ev_c (rv_ixT hsT rfl)) ev_c rv_I0) (ea_cons (ev_op (hcj _ rfl rfl) ev_c (rv_ixT hsT rfl)) ea_nil))) (Nat.le_of_ble_eq_true rfl) (ev_var rfl) (ev_var rfl) hjl (fun H11 t2 H12 e11 nt2 e12 => ?_)
                    have e1012 : Ex H10 H12 := e11.trans ((Ex.new nt2).trans e12)
                    have eG12 : Ex G H12 := (eG8.trans ea).trans e1012
                    have hlc12 := e1012 _ _ hlc10
                    have nt2c : t2 ≠ lc := (ne_of_none (e11 _ _ hlc10) nt2).symm
                    have eW : Ex G (wo H12 lc) := ex_wo eG12 ncl
                    have hn : Dp K (wo H12 lc) (.ref t2) (.tuple [.int m, .int (n + 1), ee]) := .tup (st_of (by rw [wo_ne nt2c]; exact e12 _ _ upd_same)) (.cons (.int m) (.cons (.int _) (.cons (dp_mono eW _ _ r5) .nil)))
                    obtain ⟨k1, k2⟩ := two_parts (K := K) (H := upd H12 lc (.lst (xs.set j (.ref t2)))) (t := t) (l := lc) (lp := lp) (x := x) wo_upd (dp_mono eW _ _ hv0) (dp_mono eW _ _ di) (dpa_set j (dpa_mono eW _ _ dx) hn) (by rw [upd_ne ntl]; exact (ea.trans e1012) _ _ ht8) upd_same (by rw [upd_ne nclp.symm]; exact (ea.trans e1012) _ _ hlp8)
                    refine ⟨_, _, rfl, ⟨hc.1, fun d hd => ?_, by rw [List.length_set]; exact hc.2.2⟩, k1, k2⟩
                    rcases List.mem_or_eq_of_mem_set hd with q | q
                    · exact hc.2.1 d q
                    · exact ⟨m, n + 1, ee, q, hse⟩
          · obtain ⟨k1, k2⟩ := two_parts (K := K) (H := H9) (eG8.trans e9) hv0 di dx (e9 _ _ ht8) (e9 _ _ hlc8) (e9 _ _ hlp8)
            exact ⟨none, dc, rfl, hc, k1, k2⟩
        obtain ⟨y11, dn, rfl, hcn, hP, hC⟩ := p
        have a0 : ∀ (x : Int) (im : PyData) (ds : List PyData), atI [PyData.int x, im, .list ds] 0 = some (.int x) := fun _ _ _ => rfl
        have a1 : ∀ (x : Int) (im : PyData) (ds : List PyData), atI [PyData.int x, im, .list ds] 1 = some im := fun _ _ _ => rfl
        have a2 : ∀ (x : Int) (im : PyData) (ds : List PyData), atI [PyData.int x, im, .list ds] 2 = some (.list ds) := fun _ _ _ => rfl
        have b0 : atI [partD x0 im0 ds0, partD x im dn] 0 = some (partD x0 im0 ds0) := rfl
        have b1 : atI [partD x0 im0 ds0, partD x im dn] 1 = some (partD x im dn) := rfl
        refine' q_asg (v := .bl (dueB x0 im0 ds0 x im dn)) (ev_due (K := K) (eds_cons (ed_ixL (ed_var rfl hP) ev_c b0) (eds_cons (ed_ixL (ed_var rfl hP) ev_c b1) eds_nil)) hc0 hcn) (fun H10 e10 => ?_)
        have hP10 := dp_mono e10 _ _ hP
        have hC10 := dp_mono e10 _ _ hC
        refine q_mkLog (K := K) (B := H10) (vb := x0) (im := im0) (rs := ds0) (Ex.refl H10) (eds_cons (ed_ixT (ed_ixL (ed_var rfl hP10) ev_c b0) ev_c (a0 _ _ _)) (eds_cons (ed_ixT (ed_ixL (ed_var rfl hP10) ev_c b0) ev_c (a1 _ _ _)) (eds_cons (ed_tupOf (ed_ixT (ed_ixL (ed_var rfl hP10) ev_c b0) ev_c (a2 _ _ _))) eds_nil))) (fun p1 H11 np1 e11 l1 => ?_)
        have l1 : LogAt K C H11 p1 x0 im0 ds0 := l1.mono (ov_ex (Ex.refl H10) e11)
        have hP11 := dp_mono e11 _ _ hP10
        have hC11 := dp_mono e11 _ _ hC10
        refine q_mkLog (K := K) (B := H11) (vb := x) (im := im) (rs := dn) (Ex.refl H11) (eds_cons (ed_ixT (ed_ixL (ed_var rfl hP11) ev_c b1) ev_c (a0 _ _ _)) (eds_cons (ed_ixT (ed_ixL (ed_var rfl hP11) ev_c b1) ev_c (a1 _ _ _)) (eds_cons (ed_tupOf (ed_var rfl hC11)) eds_nil))) (fun p2 H12 np2 e12 l2 => ?_)
        have l2 : LogAt K C H12 p2 x im dn := l2.mono (ov_ex (Ex.refl H11) e12)
        have l1 := l1.mono e12
        have k1 := agB_due x0 im0 ds0 x im dn
        have k2 := (agB_comm x im dn x0 im0 ds0).trans k1
        have k3 := agB_self (b := x0) hc0.1 hc0.2.1.sds
        have k4 := agB_self (b := x) hcn.1 hcn.2.1.sds
        generalize dueB x0 im0 ds0 x im dn = due at *
        refine' q_forNLn (K := K) (xs := [.bl due, .bl due]) (el_lst (ea_cons (ev_is (ev_agr (K := K) (ev_var rfl) (ev_var rfl) l1 l2 hc0.1 hcn.1 hc0.2.1.sds hcn.2.1.sds) (by rw [k1])) (ea_cons (ev_is (ev_agr (K := K) (ev_var rfl) (ev_var rfl) l2 l1 hcn.1 hc0.1 hcn.2.1.sds hc0.2.1.sds) (by rw [k2])) ea_nil)) (Nat.le_of_ble_eq_true rfl)) (fun p i σ' H' => ∃ y15 : Option V, σ' = [some (.ref a), some (.ref l), some (.int (sz : Int)), some (.int b), some (.ref lh), y5, some (.ref lp), y7, y8, y9, some (.ref lc), y11, some (.bl due), some (.ref p1), some (.ref p2), y15] ∧ Ex H12 H' ∧ H' p = some (.lst [.bl due, .bl due])) (fun p H13 np e13 h13 => ⟨none, rfl, e13, h13⟩) (fun p i σ' H' _ hp => ?_) (fun p i y σ' H' hy hp => ?_) (fun p σ' H' hp => ?_)
        · obtain ⟨_, _, _, hp⟩ := hp
          exact sq_of hp
        · obtain ⟨y15, rfl, e13, hp⟩ := hp
          have hy : y = .bl due := by
            match i, hy with
            | 0, hy => exact (Option.some.inj hy).symm
            | 1, hy => exact (Option.some.inj hy).symm
            | _ + 2, hy => cases hy
          subst hy
          refine' s_when (b := false) (et_is (et_or (a := false) (b := false) (et_is (et_not (et_B (ev_cb (ea_cons (ev_var rfl) (ea_cons ev_c ea_nil)) (rc_isi (X := "bool") (b := true) (fun _ => .base (.bl _)) (by decide +kernel))))) rfl) (fun _ => et_test (ev_is (ev_op (ev_var rfl) (ev_var rfl) (rv_ne rfl)) (by simp)))) rfl) (fun hb => nomatch hb) (fun _ H14 e14 => ⟨_, rfl, e13.trans e14, e14 _ _ hp⟩)
        · obtain ⟨y15, rfl, e13, hp⟩ := hp
          have l1 := l1.mono e13
          have l2 := l2.mono e13
          have rt : ∀ H0 : Hp, RV (fun x y H Q => ∃ a b, x = .bl a ∧ y = .bl b ∧ Q (.bl (decide (a = b))) H) (.bl true) (.bl true) H0 (.bl true) := fun H0 H1 _ Q q => ⟨true, true, rfl, rfl, q H1 (Ex.refl H1)⟩
          refine s_ret (v := .bl true) (ev_is (ev_andV (a := true) (b := true) (ev_op (ev_is (ev_agr (K := K) (ev_var rfl) (ev_var rfl) l1 l1 hc0.1 hc0.1 hc0.2.1.sds hc0.2.1.sds) (by rw [k3])) ev_c (rt _)) (fun _ => ev_op (ev_is (ev_agr (K := K) (ev_var rfl) (ev_var rfl) l2 l2 hcn.1 hcn.1 hcn.2.1.sds hcn.2.1.sds) (by rw [k4])) ev_c (rt _))) rfl) (fun H15 _ => q H15)
end
end Ap
open PySem PySem.W PyProof.Rows
set_option maxHeartbeats 0 in
theorem PySem.Challenge.cw_appendhall_k19_logs_that_agree_holds : PySem.Challenge.rw_appendhall_k19_logs_that_agree.Holds := by
  w_on; o_law; k_head; (case hw => w_witness2)
  k_fill
  refine L2.walk_of (l := PySem.Challenge.rw_appendhall_k19_logs_that_agree) (n := 63) (k := 5) (x := "script") (CX := fun _ => L2.CX0) (sp := fun w => Ap.spLaw _) rfl (by decide) rfl ⟨rfl, by decide, by decide⟩ (fun w h Y => PySem.W.kIn_of Y) ?F (fun _ _ a ns hl _ hS => ⟨a, ns, rfl, hS, hl, fun _ => rfl⟩) (fun _ _ _ _ _ h => h)
  case F =>
    intro w mg fa h KX G hmg
    obtain ⟨C_Log, L_Log, n_Log_base, n_Log_image, n_Log_records, ⟨f_Log_length, fd_Log_length, D_Log_length⟩, ⟨f_Log___init__, fd_Log___init__, D_Log___init__⟩, ⟨f_Log_agrees, fd_Log_agrees, D_Log_agrees⟩, ⟨f_Log__between, fd_Log__between, D_Log__between⟩⟩ : ∃ C, Ap.Kl _ mg "Log" C ∧ L2.NoAttr _ C "base" ∧ L2.NoAttr _ C "image" ∧ L2.NoAttr _ C "records" ∧ (∃ f fd, Ap.Pr _ C "length" "Log.length" Ap.s_Log_length f fd) ∧ (∃ f fd, Ap.Dm _ C "__init__" "Log.__init__" Ap.s_Log___init__ ["self", "base", "image", "records"] f fd) ∧ (∃ f fd, Ap.Dm _ C "agrees" "Log.agrees" Ap.s_Log_agrees ["self", "other"] f fd) ∧ (∃ f fd, Ap.Dm _ C "_between" "Log._between" Ap.s_Log__between ["self", "low", "high"] f fd) := by
      refine' ⟨_, Ap.kl_mk KX G ?aC ?pg ?hd ?po ?sa ?mk ?kp, Ap.na_mk KX ?n_base, Ap.na_mk KX ?n_image, Ap.na_mk KX ?n_records, Ap.pr_mk KX ?a_length ?g_length ?t_length ?r_length ?l_length ?c_length ?k_length ?b_length, Ap.dm_mk KX ?a___init__ ?i___init__ ?l___init__ ?c___init__ ?k___init__ ?b___init__, Ap.dm_mk KX ?a_agrees ?i_agrees ?l_agrees ?c_agrees ?k_agrees ?b_agrees, Ap.dm_mk KX ?a__between ?i__between ?l__between ?c__between ?k__between ?b__between⟩
      (case aC => k_is); (case pg => k_is); (case hd => k_is); (case po => k_is); (case sa => k_is); (case mk => k_is); (case kp => k_is); (case n_base => k_is); (case n_image => k_is); (case n_records => k_is); (case a_length => k_is); (case g_length => k_is); (case t_length => k_is); (case r_length => k_is); (case l_length => k_is); (case c_length => k_is); (case k_length => k_is); (case a___init__ => k_is); (case i___init__ => k_is); (case l___init__ => k_is); (case c___init__ => k_is); (case k___init__ => k_is); (case a_agrees => k_is); (case i_agrees => k_is); (case l_agrees => k_is); (case c_agrees => k_is); (case k_agrees => k_is); (case a__between => k_is); (case i__between => k_is); (case l__between => k_is); (case c__between => k_is); (case k__between => k_is)
      (case b_length => exact fun _ _ _ _ _ _ us hl => match us, hl with | [_], _ => rfl)
      (case b___init__ => exact fun _ _ _ _ _ _ us hl => match us, hl with | [_, _, _, _], _ => rfl)
      (case b_agrees => exact fun _ _ _ _ _ _ us hl => match us, hl with | [_, _], _ => rfl)
      (case b__between => exact fun _ _ _ _ _ _ us hl => match us, hl with | [_, _, _], _ => rfl)
    obtain ⟨f__law_stream, fd__law_stream, D__law_stream⟩ : ∃ f fd, Ap.Df _ mg "_law_stream" Ap.s__law_stream ["script", "many"] f fd := by
      refine' Ap.df_mk KX G ?a ?l ?c ?k ?b
      (case a => k_is); (case l => k_is); (case c => k_is); (case k => k_is); (case b => exact fun _ _ _ _ _ _ us hl => match us, hl with | [_, _], _ => rfl)
    obtain ⟨f__law_draw, fd__law_draw, D__law_draw⟩ : ∃ f fd, Ap.Df _ mg "_law_draw" Ap.s__law_draw ["draws", "k"] f fd := by
      refine' Ap.df_mk KX G ?a ?l ?c ?k ?b
      (case a => k_is); (case l => k_is); (case c => k_is); (case k => k_is); (case b => exact fun _ _ _ _ _ _ us hl => match us, hl with | [_, _], _ => rfl)
    obtain ⟨f__law_large, fd__law_large, D__law_large⟩ : ∃ f fd, Ap.Df _ mg "_law_large" Ap.s__law_large ["draws", "k"] f fd := by
      refine' Ap.df_mk KX G ?a ?l ?c ?k ?b
      (case a => k_is); (case l => k_is); (case c => k_is); (case k => k_is); (case b => exact fun _ _ _ _ _ _ us hl => match us, hl with | [_, _], _ => rfl)
    obtain ⟨f__law_record, fd__law_record, D__law_record⟩ : ∃ f fd, Ap.Df _ mg "_law_record" Ap.s__law_record ["draw"] f fd := by
      refine' Ap.df_mk KX G ?a ?l ?c ?k ?b
      (case a => k_is); (case l => k_is); (case c => k_is); (case k => k_is); (case b => exact fun _ _ _ _ _ _ us hl => match us, hl with | [_], _ => rfl)
    obtain ⟨f__law_due, fd__law_due, D__law_due⟩ : ∃ f fd, Ap.Df _ mg "_law_due" Ap.s__law_due ["first", "second"] f fd := by
      refine' Ap.df_mk KX G ?a ?l ?c ?k ?b
      (case a => k_is); (case l => k_is); (case c => k_is); (case k => k_is); (case b => exact fun _ _ _ _ _ _ us hl => match us, hl with | [_, _], _ => rfl)
    obtain ⟨fd, hb, F⟩ : ∃ fd, (∀ (s : Shared) (v : Value), BindsTo s fd ⟨[v], []⟩ [("script", v)]) ∧ L2.Fun _ "law" "law" Ap.s_law fa fd := by
      refine' Ap.law_mk KX G hmg ?a ?l ?c ?k ?b
      (case a => k_is); (case l => k_is); (case c => k_is); (case k => k_is); (case b => exact fun _ _ _ _ _ _ _ _ => .of_eq rfl)
    refine ⟨fd, hb, fun base _ _ => Ap.ok_law F D__law_stream D__law_draw D__law_large D__law_record D__law_due L_Log ⟨L_Log.cl, n_Log_base, n_Log_image, n_Log_records⟩ D_Log___init__ D_Log_agrees D_Log_length D_Log__between ?T⟩
    refine' ⟨PySem.W.mg_none_of KX G ?z0, PySem.W.mg_none_of KX G ?z1, PySem.W.mg_none_of KX G ?z2, PySem.W.mg_none_of KX G ?z3, PySem.W.mg_none_of KX G ?z4, PySem.W.mg_none_of KX G ?z5, PySem.W.mg_none_of KX G ?z6, PySem.W.mg_none_of KX G ?z7⟩
    (case z0 => k_is); (case z1 => k_is); (case z2 => k_is); (case z3 => k_is); (case z4 => k_is); (case z5 => k_is); (case z6 => k_is); (case z7 => k_is)
#print axioms PySem.Challenge.cw_appendhall_k19_logs_that_agree_holds
