import PyProof.Rows.All
import Wide.All
import OpenK.AllK
import Wide.FinOn
import HandS.ForMost
import HandS.Evl
import HandS.Walk
import HandS.SortKw
import HandS.DictComp
import HandS.IsInst
import HandS.ForExc
import HandS.TupAny
import HandS.Conv
import HandS.Property
import HandS.ExcIs
import HandS.Deep
import PySem.Challenge.RW_appendhall_k47_least_epoch_of_a_manager
set_option Elab.async false
set_option linter.all false
set_option maxRecDepth 100000
namespace Ap
open PySem PySem.Spec PyProof.Rows L2 Evl

/-! ### more of what evaluates to what -/
section
variable {K : PySem.W.Frag} {σ : L2.St} {H H' : Hp} {ta tb tc te : TE} {t u : TT} {x y z v w : V} {r r' : R2}
theorem ev_chain {k m : Bool} (ha : Ev ta σ H x) (hb : Ev tb σ H y) (hr : RV r x y H (.bl k)) (hc : Ev tc σ H z) (hr' : RV r' y z H (.bl m)) : Ev (tChain r r' ta tb tc) σ H (.bl (k && m)) := fun H1 e Q q =>
  ha H1 e _ fun H2 e2 => hb H2 (e.trans e2) _ fun H3 e3 => hr H3 ((e.trans e2).trans e3) _ fun H4 e4 => ⟨k, rfl, by
    cases k with
    | true =>
      show tc σ H4 _
      exact hc H4 (((e.trans e2).trans e3).trans e4) _ fun H5 e5 => hr' H5 ((((e.trans e2).trans e3).trans e4).trans e5) Q fun H6 e6 => q H6 ((((e2.trans e3).trans e4).trans e5).trans e6)
    | false =>
      show Q (.bl false) H4
      exact q H4 ((e2.trans e3).trans e4)⟩
theorem rc_int {i : Int} : RC (fun xs H Q => (∃ i, xs = [.int i] ∧ Q (.int i) H) ∨ ∃ k, xs = [.bl k] ∧ Q (.int (if k then 1 else 0)) H) [.int i] H (.int i) := fun H1 _ _ q => Or.inl ⟨i, rfl, q H1 (Ex.refl H1)⟩
theorem rc_len {p : Addr} {xs : List V} (h : SqL K H p xs) : RC (fun xs H Q => ∃ p ys, xs = [.ref p] ∧ (SqL K H p ys ∨ SqT K H p ys) ∧ Q (.int ys.length) H) [.ref p] H (.int (xs.length : Int)) := fun H1 e _ q => ⟨p, xs, rfl, Or.inl (ex_l e h), q H1 (Ex.refl H1)⟩
theorem rc_lenT {p : Addr} {xs : List V} (h : SqT K H p xs) : RC (fun xs H Q => ∃ p ys, xs = [.ref p] ∧ (SqL K H p ys ∨ SqT K H p ys) ∧ Q (.int ys.length) H) [.ref p] H (.int (xs.length : Int)) := fun H1 e _ q => ⟨p, xs, rfl, Or.inr (ex_t e h), q H1 (Ex.refl H1)⟩
end


section
variable {K : PySem.W.Frag} {σ : L2.St} {H H' : Hp} {ta tb tc te td ty tv : TE} {t u : TT} {x y z v w : V} {D : Ends} {tz : TS}
theorem ev_dget {a : Addr} {kvs : List (Key × V)} {k : Key} (ha : Ev td σ H (.ref a)) (hk : Ev ty σ H (kV k)) (hr : Rd H a (.dK kvs)) (hv : valV kvs k = some v) : Ev (tDGet td ty) σ H v := fun H1 e Q q =>
  ha H1 e _ fun H2 e2 => hk H2 (e.trans e2) _ fun H3 e3 => ⟨a, v, rfl, .inl ⟨kvs, k, ex_rd ((e.trans e2).trans e3) hr, rfl, hv.symm⟩, q H3 (e2.trans e3)⟩
/-- isinstance(x, T) of a plain value -/
theorem rc_isi {x : V} {T X : String} {b : Bool} (ht : ∀ H, TyX K H x (.type X)) (hb : kitB X T = some b) : RC (rIsi K) [x, .ty T] H (.bl b) := fun H1 _ _ q => ⟨x, .ty T, .type X, .type T, b, rfl, .ty T, ht H1, kit_ty hb, q H1 (Ex.refl H1)⟩
/-- d[k] = e -/
theorem s_put {a : Addr} {kvs : List (Key × V)} {k : Key} (h : Ev tv σ H v) (ha : Ev td σ H (.ref a)) (hk : Ev ty σ H (kV k)) (hd : H a = some (.dK kvs)) (hl : kvs.length < 100000) (q : ∀ H1, Ex H H1 → D.nx σ (upd H1 a (.dK (putK kvs k v)))) : sDPut td ty tv D σ H :=
  h H (Ex.refl H) _ fun H1 e1 => ha H1 e1 _ fun H2 e2 => hk H2 (e1.trans e2) _ fun H3 e3 => ⟨a, _, rfl, DPut.k (((e1.trans e2).trans e3) a _ hd) (sz_lt hl), q H3 ((e1.trans e2).trans e3)⟩
theorem q_put {a : Addr} {kvs : List (Key × V)} {k : Key} (h : Ev tv σ H v) (ha : Ev td σ H (.ref a)) (hk : Ev ty σ H (kV k)) (hd : H a = some (.dK kvs)) (hl : kvs.length < 100000) (q : ∀ H1, Ex H H1 → tz D σ (upd H1 a (.dK (putK kvs k v)))) : tSeq (sDPut td ty tv) tz D σ H :=
  s_put (D := { D with nx := tz D }) h ha hk hd hl q
/-- within a lock, and out of it -/
theorem Ex.unlock {H H' : Hp} {d : Addr} {o : Obj} {u : HO} (hd : H d = some u) (e : Ex (upd H d (.frz o u)) H') : Ex H (upd H' d u) := fun a o' h => by
  by_cases q : a = d
  · subst q
    rw [upd_same, ← hd, h]
  · rw [upd_ne q]
    exact e a o' (by rw [upd_ne q]; exact h)
theorem SqL.locked {a d : Addr} {xs : List V} {o : Obj} {u : HO} (h : SqL K H a xs) (hn : H d = some u) (hu : ∀ l, u ≠ .lst l ∧ ∀ o, u ≠ .frz o (.lst l)) : SqL K (upd H d (.frz o u)) a xs := by
  rcases h with (h | ⟨o', h⟩) | h
  · have q : a ≠ d := fun e => by
      rw [e, hn] at h
      exact (hu xs).1 (Option.some.inj h)
    exact .inl (.inl (by rw [upd_ne q]; exact h))
  · have q : a ≠ d := fun e => by
      rw [e, hn] at h
      exact (hu xs).2 o' (Option.some.inj h)
    exact .inl (.inr ⟨o', by rw [upd_ne q]; exact h⟩)
  · exact .inr h
/-- y = [e for k in d if t] -/
theorem q_lcKeys {d : Addr} {kvs : List (Key × V)} {jd i j : Nat} {vs : List Nat} (hj : σ[jd]? = some (some (.ref d))) (hd : H d = some (.dK kvs)) (hz : kvs.length ≤ 40000) (f : Nat → Bool) (v : Nat → V) (hw : ∀ x, wipe ((wipe σ vs).set j (some x)) vs = wipe σ vs)
    (ht : ∀ (n : Nat) k x o, kvs[n]? = some (k, x) → EvT t ((wipe σ vs).set j (some (kV k))) (upd H d (.frz o (.dK kvs))) (f n))
    (he : ∀ (n : Nat) k x o, kvs[n]? = some (k, x) → f n = true → Ev te ((wipe σ vs).set j (some (kV k))) (upd H d (.frz o (.dK kvs))) (v n))
    (q : ∀ p H1, H p = none → Ex H H1 → H1 p = some (.lst (given kvs.length f v)) → tz D (σ.set i (some (.ref p))) H1) : tSeq (tLock (tAsg (tLc (iKeys (tVar jd)) (gName j) t te vs) (gName i))) tz D σ H := by
  refine ⟨d, .dK kvs, hd, trivial, fun od => ⟨.ref d, hj, d, od, rfl, .inl ⟨kvs, upd_same, fun Dl hD => ?_⟩⟩⟩
  have ne : Dl ≠ d := fun e => by
    rw [e, upd_same] at hD
    cases hD
  refine lc_it walk_keys (fun m H' => Cw (upd H d (.frz od (.dK kvs))) f v Dl m H') ⟨hD, Ex.new hD, upd_same⟩ (fun m H' _ p => p.2.1 d _ upd_same) (fun m x H1 H' hm p y => ?_) (fun H' p => ?_)
  · obtain ⟨rfl, k, x', hk, rfl⟩ := y
    exact ⟨hw _, cw_turn p (by omega) (ht m k x' od hk) (fun hf => he m k x' od hk hf)⟩
  · refine ⟨p.2.1 d _ upd_same, ?_⟩
    refine q Dl _ ?_ (Ex.unlock hd p.2.1) (by rw [upd_ne ne]; exact p.2.2)
    rw [upd_ne ne] at hD
    exact hD
/-- for k in d: body, the dict locked -/
theorem q_forKeys {d : Addr} {kvs : List (Key × V)} {jd j : Nat} {tu : TS} (hj : σ[jd]? = some (some (.ref d))) (hd : H d = some (.dK kvs)) (Pv : Obj → Nat → L2.St → Hp → Prop)
    (h0 : ∀ o, Pv o 0 σ (upd H d (.frz o (.dK kvs)))) (hG : ∀ o i σ' H', i ≤ kvs.length → Pv o i σ' H' → H' d = some (.frz o (.dK kvs)))
    (hs : ∀ o i k x σ' H' rt bk, kvs[i]? = some (k, x) → Pv o i σ' H' → tu ⟨Pv o (i + 1), rt, bk, Pv o (i + 1)⟩ (σ'.set j (some (kV k))) H')
    (q : ∀ o σ' H', Pv o kvs.length σ' H' → tz D σ' (upd H' d (.dK kvs))) : tSeq (tLock (tFor (iKeys (tVar jd)) (gName j) tu)) tz D σ H := by
  refine ⟨d, .dK kvs, hd, trivial, fun od => ⟨.ref d, hj, d, od, rfl, .inl ⟨kvs, upd_same, ?_⟩⟩⟩
  refine for_it walk_keys (Pv od) (h0 od) (fun i σ' H' hi p => hG od i σ' H' hi p) (fun i x σ' H1 H' hi p y => ?_) (fun σ' H' p => ⟨hG od _ σ' H' (Nat.le_refl _) p, q od σ' H' p⟩)
  obtain ⟨rfl, k, x', hk, rfl⟩ := y
  exact hs od i k x' σ' H' _ _ hk p
theorem q_dnew {i : Nat} (k : ∀ p H1, H p = none → Ex H H1 → H1 p = some (.dK []) → tz D (σ.set i (some (.ref p))) H1) : tSeq (tAsg tDNewK (gName i)) tz D σ H := fun p hp => k p _ hp (Ex.new hp) upd_same
theorem el_rep {ta : TA} {vs : List V} {n : Int} (h : EvA ta σ H vs) (hb : Ev tb σ H (.int n)) (hl : vs.length * n.toNat ≤ 100000) (hv : vs.length ≤ 100000) (hn : -100000 ≤ n ∧ n ≤ 100000) : EvL (tOp rRep (tLst ta) tb) σ H (List.replicate n.toNat vs).flatten := fun H1 e Q q =>
  h H1 e _ fun H2 e2 => ⟨sz_of hv, fun p hp => hb _ ((e.trans e2).trans (Ex.new hp)) _ fun H3 e3 => ⟨p, n, vs, rfl, rfl, e3 _ _ upd_same, by omega, by omega, sz_of hl, fun l hl2 => q l _ (fresh_back ((e2.trans (Ex.new hp)).trans e3) hl2) (((e2.trans (Ex.new hp)).trans e3).trans (Ex.new hl2)) upd_same⟩⟩
theorem q_call {sp : Sp} {dvs vs : List V} {E : XK} {ta : TA} {i : Nat} (h : EvA ta σ H vs) (k : ∀ H1, Ex H H1 → sp (vs ++ dvs) H1 (fun v H2 => tz D (σ.set i (some v)) H2) E) : tSeq (tAsg (tCall sp dvs E ta) (gName i)) tz D σ H := h H (Ex.refl H) _ fun H1 e => k H1 e
theorem s_retCall {sp : Sp} {dvs vs : List V} {E : XK} {ta : TA} (h : EvA ta σ H vs) (k : ∀ H1, Ex H H1 → sp (vs ++ dvs) H1 D.rt E) : tRet (tCall sp dvs E ta) D σ H := h H (Ex.refl H) _ fun H1 e => k H1 e
/-- for k in range(lo, hi), any small bounds -/
theorem q_forRng {ta : TA} {j : Nat} {lo n : Int} {tu : TS} (h : EvA ta σ H [.int lo, .int n]) (hn : -100000 ≤ lo ∧ lo ≤ 100000 ∧ -100000 ≤ n ∧ n ≤ 100000) (Pv : Nat → L2.St → Hp → Prop) (h0 : ∀ H1, Ex H H1 → Pv 0 σ H1)
    (hs : ∀ (i : Nat) σ' H', lo + (i : Int) < n → Pv i σ' H' → tu { D with nx := Pv (i + 1), ct := Pv (i + 1), bk := tz D } (σ'.set j (some (.int (lo + (i : Int))))) H') (hd : ∀ σ' H', Pv (n - lo).toNat σ' H' → tz D σ' H') : tSeq (tFor (iRng2 ta) (gName j) tu) tz D σ H :=
  h H (Ex.refl H) _ fun H1 e => ⟨lo, n, rfl, ⟨by omega, by omega, by omega, by omega⟩, for_range (lo := lo) (n := (n - lo).toNat) Pv (h0 H1 e) (fun i σ' H' hi p => hs i σ' H' (by omega) p) hd⟩
theorem given_eq {α : Type} (xs : List α) (d : α) (p : α → Bool) (g : α → V) : given xs.length (fun i => p (xs.getD i d)) (fun i => g (xs.getD i d)) = (xs.filter p).map g := by
  have e : (List.range xs.length).map (fun i => xs.getD i d) = xs := by
    refine List.ext_getElem (by simp) (fun i h1 h2 => ?_)
    rw [List.getElem_map, List.getElem_range, List.getD_eq_getElem?_getD, List.getElem?_eq_getElem h2]
    rfl
  unfold given
  conv => rhs; rw [← e]
  rw [List.filter_map, List.map_map]
  rfl
end
/-! ### draws: whole numbers below 5040 -/
def Dr (ds : List Int) : Prop := ∀ d ∈ ds, 0 ≤ d ∧ d < 5040
theorem Dr.nil : Dr [] := fun _ h => nomatch h
theorem Dr.app {ds : List Int} {d : Int} (h : Dr ds) (h0 : 0 ≤ d) (h1 : d < 5040) : Dr (ds ++ [d]) := fun e he => by
  rcases List.mem_append.mp he with he | he
  · exact h e he
  · rw [List.mem_singleton.mp he]
    exact ⟨h0, h1⟩
/-- a draw: the k-th one, 0 behind the last -/
def drw (ds : List Int) (k : Nat) : Int := ds.getD k 0
theorem drw_ok {ds : List Int} (h : Dr ds) (k : Nat) : 0 ≤ drw ds k ∧ drw ds k < 5040 := by
  unfold drw
  rw [List.getD_eq_getElem?_getD]
  cases e : ds[k]? with
  | none => exact ⟨Int.le_refl _, by show (0 : Int) < 5040; decide⟩
  | some d => exact h d (List.mem_of_getElem? e)
def spStream (K : PySem.W.Frag) : Sp := fun vs H Q _ => ∃ (a : Addr) (ns : List Int) (m : Nat), vs = [.ref a, .int (m : Int)] ∧ SqL K H a (ns.map V.int) ∧ ns.length ≤ 63 ∧ m ≤ 1000 ∧
  ∀ ds : List Int, Dr ds → ds.length ≤ m + 60 → RetL (ds.map V.int) H Q
def spDraw (K : PySem.W.Frag) : Sp := fun vs H Q _ => ∃ (a : Addr) (ds : List Int) (k : Nat), vs = [.ref a, .int (k : Int)] ∧ SqL K H a (ds.map V.int) ∧ RetV (.int (drw ds k)) H Q
theorem spDraw_v {K : PySem.W.Frag} {H : Hp} {a : Addr} {ds : List Int} {j : Int} {k : Nat} (h : SqL K H a (ds.map V.int)) (e : j = (k : Int)) : SpV (spDraw K) [.ref a, .int j] H (.int (drw ds k)) := fun H1 e1 Q q E =>
  ⟨a, ds, k, by rw [e], ex_l e1 h, fun H2 e2 => q H2 e2⟩
def drI (ds : List Int) (j : Int) : Int := drw ds j.toNat
theorem drI_ok {ds : List Int} (h : Dr ds) (j : Int) : 0 ≤ drI ds j ∧ drI ds j < 5040 := drw_ok h _
theorem spDrawI {K : PySem.W.Frag} {H : Hp} {a : Addr} {ds : List Int} {j : Int} (h : SqL K H a (ds.map V.int)) (e : 0 ≤ j) : SpV (spDraw K) [.ref a, .int j] H (.int (drI ds j)) := spDraw_v h (by omega)
theorem q_stream {K : PySem.W.Frag} {σ : L2.St} {H : Hp} {D : Ends} {tz : TS} {E : XK} {i : Nat} {a : Addr} {ns : List Int} {m : Int} (h0 : σ[0]? = some (some (.ref a))) (hS : SqL K H a (ns.map V.int)) (hn : ns.length ≤ 63) (hm : 0 ≤ m ∧ m ≤ 1000)
    (k : ∀ (ds : List Int) (l : Addr) (H1 : Hp), Dr ds → (ds.length : Int) ≤ m + 60 → H l = none → Ex H H1 → H1 l = some (.lst (ds.map V.int)) → tz D (σ.set i (some (.ref l))) H1) :
    tSeq (tAsg (tCall (spStream K) [] E (tCons (tVar 0) (tCons (tC (.int m)) tNil))) (gName i)) tz D σ H :=
  ⟨.ref a, h0, a, ns, m.toNat, by rw [show ((m.toNat : Nat) : Int) = m by omega]; rfl, hS, hn, by omega, fun ds hD hl l H1 n e h => k ds l H1 hD (by omega) n e h⟩

/-! ### a def of the text, its place and how it is called; the law's own end -/
structure Df (K : PySem.W.Frag) (mg : Str → Option Value) (x : Str) (st : Stmt) (ps : List Str) (f : Addr) (fd : FuncData) : Prop where
  F : Fun K x x st f fd
  b : Binds K fd ps []
  g : mg x = some (.ref f)
theorem df_mk {K : PySem.W.Frag} {mg : Str → Option Value} {h : Heap} (X : K.In h) (G : h.Ns mainGlobals mg) {x : Str} {st : Stmt} {ps : List Str} {f : Addr} {oc : Value} {od an : Option Addr} {sl : Array (Option Value)} {kV dc pm cd ct : Value}
    (a : PySem.W.nsIn K mainGlobals x = some (some (.ref f))) (l : K.lookup f = some ⟨oc, od, .func (PySem.W.fnOf x x (defArgs st) (defBody st) (defScope st) .none kV dc pm an cd ct), sl⟩) (c : PySem.W.codeIn K cd x = true) (k : PySem.W.keepIn K (.ref f) = true)
    (hb : ∀ (kV doc pm : Value) (an : Option Addr) (cdv ct : Value) (us : List Value), us.length = ps.length → bindArgs (PySem.W.fnOf x x (defArgs st) (defBody st) (defScope st) .none kV doc pm an cdv ct) ⟨us, []⟩ = pure (ps.zip us)) :
    ∃ f fd, Df K mg x st ps f fd := ⟨_, _, fun_mk l c k, (fun_mk l c k).binds hb, PySem.W.mg_of X G a⟩
theorem law_mk {K : PySem.W.Frag} {mg : Str → Option Value} {h : Heap} (X : K.In h) (G : h.Ns mainGlobals mg) {st : Stmt} {fa f : Addr} {oc : Value} {od an : Option Addr} {sl : Array (Option Value)} {kV dc pm cd ct : Value} (hfa : mg "law" = some (.ref fa))
    (a : PySem.W.nsIn K mainGlobals "law" = some (some (.ref f))) (l : K.lookup f = some ⟨oc, od, .func (PySem.W.fnOf "law" "law" (defArgs st) (defBody st) (defScope st) .none kV dc pm an cd ct), sl⟩) (c : PySem.W.codeIn K cd "law" = true) (k : PySem.W.keepIn K (.ref f) = true)
    (hb : ∀ (kV doc pm : Value) (an : Option Addr) (cdv ct : Value) (s : Shared) (v : Value), BindsTo s (PySem.W.fnOf "law" "law" (defArgs st) (defBody st) (defScope st) .none kV doc pm an cdv ct) ⟨[v], []⟩ [("script", v)]) :
    ∃ fd, (∀ (s : Shared) (v : Value), BindsTo s fd ⟨[v], []⟩ [("script", v)]) ∧ Fun K "law" "law" st fa fd := by
  have e := hfa.symm.trans (PySem.W.mg_of X G a)
  cases e
  exact ⟨_, fun s v => hb kV dc pm an cd ct s v, fun_mk l c k⟩
def spLaw (K : PySem.W.Frag) : Sp := fun vs H Q _ => ∃ (a : Addr) (ns : List Int), vs = [.ref a] ∧ SqL K H a (ns.map V.int) ∧ ns.length ≤ 63 ∧ ∀ H', Q (.bl true) H'
end Ap

set_option Elab.async false
set_option linter.all false
set_option maxRecDepth 100000
namespace Ap
open PySem PySem.Spec PyProof.Rows L2 Evl

/-! ### data: what a value stands for, whatever grows around it -/
section
variable {K : PySem.W.Frag} {H H' : Hp}
mutual
theorem dp_mono (e : Ex H H') : ∀ (d : PyData) (v : V), Dp K H v d → Dp K H' v d
  | .none, _, h => by cases h; exact .non
  | .bool b, _, h => by cases h; exact .bl b
  | .int i, _, h => by cases h; exact .int i
  | .str x, _, h => by cases h; exact .str x
  | .list ds, _, h => by
    cases h with
    | lst hs ha => exact .lst (ex_l e hs) (dpa_mono e ds _ ha)
  | .tuple ds, _, h => by
    cases h with
    | tup hs ha => exact .tup (ex_t e hs) (dpa_mono e ds _ ha)
  | .dict _, _, h => by cases h
theorem dpa_mono (e : Ex H H') : ∀ (ds : List PyData) (vs : List V), DpAll K H vs ds → DpAll K H' vs ds
  | [], _, h => by cases h; exact .nil
  | d :: ds, _, h => by
    cases h with
    | cons h1 h2 => exact .cons (dp_mono e d _ h1) (dpa_mono e ds _ h2)
end
theorem dpa_len : ∀ {vs : List V} {ds : List PyData}, DpAll K H vs ds → vs.length = ds.length
  | _, _, .nil => rfl
  | _, _, .cons _ h => by rw [List.length_cons, List.length_cons, dpa_len h]
theorem dpa_at : ∀ {vs : List V} {ds : List PyData} {i : Nat} {d : PyData}, DpAll K H vs ds → ds[i]? = some d → ∃ v, vs[i]? = some v ∧ Dp K H v d
  | _, _, i, d, .nil, h => by simp at h
  | _, _, 0, d, .cons h1 _, h => ⟨_, rfl, by
    have e := Option.some.inj (show some _ = some d from h)
    rw [← e]
    exact h1⟩
  | _, _, i + 1, d, .cons _ h2, h => by
    obtain ⟨v, e, q⟩ := dpa_at (i := i) h2 (by simpa using h)
    exact ⟨v, by simpa using e, q⟩
theorem dpa_atV : ∀ {vs : List V} {ds : List PyData} {i : Nat} {v : V}, DpAll K H vs ds → vs[i]? = some v → ∃ d, ds[i]? = some d ∧ Dp K H v d
  | _, _, i, v, .nil, h => by simp at h
  | _, _, 0, v, .cons h1 _, h => ⟨_, rfl, by
    have e := Option.some.inj (show some _ = some v from h)
    rw [← e]
    exact h1⟩
  | _, _, i + 1, v, .cons _ h2, h => by
    obtain ⟨d, e, q⟩ := dpa_atV (i := i) h2 (by simpa using h)
    exact ⟨d, by simpa using e, q⟩
theorem dpa_app : ∀ {vs ws : List V} {ds es : List PyData}, DpAll K H vs ds → DpAll K H ws es → DpAll K H (vs ++ ws) (ds ++ es)
  | _, _, _, _, .nil, h => h
  | _, _, _, _, .cons h1 h2, h => .cons h1 (dpa_app h2 h)
theorem dpa_one {v : V} {d : PyData} (h : Dp K H v d) : DpAll K H [v] [d] := .cons h .nil
theorem dpa_drop : ∀ {vs : List V} {ds : List PyData} (n : Nat), DpAll K H vs ds → DpAll K H (vs.drop n) (ds.drop n)
  | _, _, 0, h => h
  | _, _, n + 1, .nil => .nil
  | _, _, n + 1, .cons _ h2 => dpa_drop n h2
theorem dpa_take : ∀ {vs : List V} {ds : List PyData} (n : Nat), DpAll K H vs ds → DpAll K H (vs.take n) (ds.take n)
  | _, _, 0, _ => .nil
  | _, _, n + 1, .nil => .nil
  | _, _, n + 1, .cons h1 h2 => .cons h1 (dpa_take n h2)
theorem dpa_ints : ∀ (ns : List Int), DpAll K H (ns.map V.int) (ns.map PyData.int)
  | [] => .nil
  | n :: r => .cons (.int n) (dpa_ints r)
end

/-! ### data that == reads to its end: no dict, so deep at most -/
mutual
theorem eqv_self : ∀ d : PyData, d.canLay0 = true → PyData.eqv d d = true
  | .none, _ => by simp [PyData.eqv]
  | .bool b, _ => by simp [PyData.eqv]
  | .int i, _ => by simp [PyData.eqv]
  | .str x, _ => by simp [PyData.eqv]
  | .list ds, h => by
    show PyData.eqvAll ds ds = true
    exact eqvAll_self ds (by simpa [PyData.canLay0] using h)
  | .tuple ds, h => by
    show PyData.eqvAll ds ds = true
    exact eqvAll_self ds (by simpa [PyData.canLay0] using h)
  | .dict _, h => by simp [PyData.canLay0] at h
theorem eqvAll_self : ∀ ds : List PyData, PyData.canLayAll0 ds = true → PyData.eqvAll ds ds = true
  | [], _ => by simp [PyData.eqvAll]
  | d :: ds, h => by
    have h' : d.canLay0 = true ∧ PyData.canLayAll0 ds = true := by simpa [PyData.canLayAll0] using h
    simp [PyData.eqvAll, eqv_self d h'.1, eqvAll_self ds h'.2]
end
/-- no dict within, no text out of range, at most n deep -/
def Sd (n : Nat) (d : PyData) : Prop := d.canLay0 = true ∧ d.depth ≤ n
def Sds (n : Nat) (ds : List PyData) : Prop := ∀ d ∈ ds, Sd n d
theorem sds_lay : ∀ {n : Nat} {ds : List PyData}, Sds n ds → PyData.canLayAll0 ds = true ∧ PyData.depthAll ds ≤ n
  | _, [], _ => ⟨by simp [PyData.canLayAll0], by simp [PyData.depthAll]⟩
  | n, d :: ds, h => by
    have h1 := h d List.mem_cons_self
    have h2 := sds_lay (fun e he => h e (List.mem_cons_of_mem _ he))
    exact ⟨by simp [PyData.canLayAll0, h1.1, h2.1], by have := h1.2; have := h2.2; simp only [PyData.depthAll]; omega⟩
theorem sd_tuple {n : Nat} {ds : List PyData} (h : Sds n ds) : Sd (n + 1) (.tuple ds) := ⟨by simp [PyData.canLay0, (sds_lay h).1], by have := (sds_lay h).2; simp only [PyData.depth]; omega⟩
theorem sd_list {n : Nat} {ds : List PyData} (h : Sds n ds) : Sd (n + 1) (.list ds) := ⟨by simp [PyData.canLay0, (sds_lay h).1], by have := (sds_lay h).2; simp only [PyData.depth]; omega⟩
theorem sd_int {n : Nat} {i : Int} : Sd n (.int i) := ⟨by simp [PyData.canLay0], by simp [PyData.depth]⟩
theorem sd_bool {n : Nat} {b : Bool} : Sd n (.bool b) := ⟨by simp [PyData.canLay0], by simp [PyData.depth]⟩
theorem sd_none {n : Nat} : Sd n .none := ⟨by simp [PyData.canLay0], by simp [PyData.depth]⟩
theorem sd_str {n : Nat} {x : Str} (h : PyData.strOk x = true) : Sd n (.str x) := ⟨by simp [PyData.canLay0, h], by simp [PyData.depth]⟩
theorem Sd.up {n m : Nat} {d : PyData} (h : Sd n d) (l : n ≤ m) : Sd m d := ⟨h.1, Nat.le_trans h.2 l⟩
theorem sds_nil {n : Nat} : Sds n [] := fun _ h => nomatch h
theorem sds_cons {n : Nat} {d : PyData} {ds : List PyData} (h : Sd n d) (hs : Sds n ds) : Sds n (d :: ds) := fun e he => by
  rcases List.mem_cons.mp he with q | q
  · rw [q]; exact h
  · exact hs e q
theorem sds_app {n : Nat} {ds es : List PyData} (h : Sds n ds) (hs : Sds n es) : Sds n (ds ++ es) := fun e he => by
  rcases List.mem_append.mp he with q | q
  · exact h e q
  · exact hs e q
theorem Sds.drop {n : Nat} {ds : List PyData} (h : Sds n ds) (k : Nat) : Sds n (ds.drop k) := fun e he => h e (List.mem_of_mem_drop he)
theorem Sds.take {n : Nat} {ds : List PyData} (h : Sds n ds) (k : Nat) : Sds n (ds.take k) := fun e he => h e (List.mem_of_mem_take he)
theorem Sd.shaped {d : PyData} {n : Nat} (h : Sd n d) (l : n ≤ 64) : SeqAt.shaped d = true := by
  unfold SeqAt.shaped
  rw [h.1, decide_eq_true (Nat.le_trans h.2 l)]
  rfl
theorem Sd.self {d : PyData} {n : Nat} (h : Sd n d) : PyData.eqv d d = true := eqv_self d h.1

/-! ### the part of a heap that a base and what is new since a point make -/
def ov (H H1 H2 : Hp) : Hp := fun a => match H a with
  | some o => some o
  | none => match H1 a with
    | some _ => none
    | none => H2 a
theorem ov_ex {H H1 H2 : Hp} (e : Ex H H1) (e2 : Ex H1 H2) : Ex (ov H H1 H2) H2 := fun a o h => by
  unfold ov at h
  cases h0 : H a with
  | some o' =>
    rw [h0] at h
    rw [← h]
    exact e2 a o' (e a o' h0)
  | none =>
    rw [h0] at h
    cases h1 : H1 a with
    | some o' => rw [h1] at h; cases h
    | none => rw [h1] at h; exact h
theorem ov_base {H H1 H2 : Hp} : Ex H (ov H H1 H2) := fun a o h => by
  unfold ov
  rw [h]
theorem ov_none {H H1 H2 : Hp} {a : Addr} {o : HO} (h : H a = none) (h1 : H1 a = some o) : ov H H1 H2 a = none := by
  unfold ov
  rw [h, h1]
theorem ov_grow {H H1 H2 H3 : Hp} (e2 : Ex H2 H3) : Ex (ov H H1 H2) (ov H H1 H3) := fun a o h => by
  unfold ov at h ⊢
  cases h0 : H a with
  | some o' => rw [h0] at h; exact h
  | none =>
    rw [h0] at h
    cases h1 : H1 a with
    | some o' => rw [h1] at h; cases h
    | none =>
      rw [h1] at h
      exact e2 a o h
theorem ov_later {H H1 H2 H3 : Hp} (e1 : Ex H1 H2) : Ex (ov H H2 H3) (ov H H1 H3) := fun a o h => by
  unfold ov at h ⊢
  cases h0 : H a with
  | some o' => rw [h0] at h; exact h
  | none =>
    rw [h0] at h
    cases h2 : H2 a with
    | some o' => rw [h2] at h; cases h
    | none =>
      rw [h2] at h
      have h1 : H1 a = none := fresh_back e1 h2
      rw [h1]
      exact h
theorem ov_new {H H1 H2 : Hp} {p : Addr} (e : Ex H H1) (e2 : Ex H1 H2) (hp : H2 p = none) {u : HO} : ov H H1 (upd H2 p u) p = some u := by
  have h1 : H1 p = none := fresh_back e2 hp
  have h0 : H p = none := fresh_back e h1
  unfold ov
  rw [h0, h1]
  exact upd_same

/-! ### what evaluates to data -/
def EvD (K : PySem.W.Frag) (te : TE) (σ : L2.St) (H : Hp) (d : PyData) : Prop := ∀ H1, Ex H H1 → ∀ Q : VK, (∀ v H2, Ex H1 H2 → Dp K (ov H H1 H2) v d → Q v H2) → te σ H1 Q
def EvDs (K : PySem.W.Frag) (ta : TA) (σ : L2.St) (H : Hp) (ds : List PyData) : Prop := ∀ H1, Ex H H1 → ∀ Q : List V → Hp → Prop, (∀ vs H2, Ex H1 H2 → DpAll K (ov H H1 H2) vs ds → Q vs H2) → ta σ H1 Q
/-- a new list of data -/
def EvN (K : PySem.W.Frag) (te : TE) (σ : L2.St) (H : Hp) (ds : List PyData) : Prop := ∀ H1, Ex H H1 → ∀ Q : VK, (∀ p xs H2, H1 p = none → Ex H1 H2 → H2 p = some (.lst xs) → DpAll K (ov H H1 H2) xs ds → Q (.ref p) H2) → te σ H1 Q
section
variable {K : PySem.W.Frag} {σ : L2.St} {H H' : Hp} {ta tb tc te : TE} {t u : TT} {x y z v w : V} {d e : PyData} {ds es : List PyData} {r : R2}
theorem ed_of (h : Ev te σ H v) (hd : Dp K H v d) : EvD K te σ H d := fun H1 e Q q => h H1 e Q fun H2 e2 => q v H2 e2 (dp_mono ov_base d v hd)
theorem ed_var {i : Nat} (h : σ[i]? = some (some v)) (hd : Dp K H v d) : EvD K (tVar i) σ H d := ed_of (ev_var h) hd
theorem ed_int {i : Int} (h : Ev te σ H (.int i)) : EvD K te σ H (.int i) := ed_of h (.int i)
theorem ed_str {s : Str} : EvD K (tC (.str s)) σ H (.str s) := ed_of ev_c (.str s)
theorem ed_bool {b : Bool} (h : Ev te σ H (.bl b)) : EvD K te σ H (.bool b) := ed_of h (.bl b)
theorem ed_non : EvD K (tC .non) σ H .none := ed_of ev_c .non
theorem ed_is (h : EvD K te σ H d) (q : d = e) : EvD K te σ H e := q ▸ h
theorem EvD.mono (e : Ex H H') (h : EvD K te σ H d) : EvD K te σ H' d := fun H1 a Q q => h H1 (e.trans a) Q fun v H2 e2 hd => q v H2 e2 (dp_mono (fun b o hb => by
  unfold ov at hb ⊢
  cases h0 : H b with
  | some o' => rw [h0] at hb; rw [e b o' h0]; exact hb
  | none =>
    rw [h0] at hb
    cases h1 : H1 b with
    | some o' => rw [h1] at hb; cases hb
    | none =>
      rw [h1] at hb
      rw [fresh_back a h1]
      exact hb) d v hd)
theorem eds_nil : EvDs K tNil σ H [] := fun H1 _ _ q => q [] H1 (Ex.refl H1) .nil
theorem eds_cons {tr : TA} (h : EvD K te σ H d) (hr : EvDs K tr σ H ds) : EvDs K (tCons te tr) σ H (d :: ds) := fun H1 e Q q =>
  h H1 e _ fun v H2 e2 hv => hr H2 (e.trans e2) _ fun vs H3 e3 hs => q _ H3 (e2.trans e3) (.cons (dp_mono (ov_grow e3) d v hv) (dpa_mono (ov_later e2) ds vs hs))
theorem ed_tup {ta : TA} (h : EvDs K ta σ H ds) (hl : ds.length ≤ 100000) : EvD K (tTup ta) σ H (.tuple ds) := fun H1 e Q q =>
  h H1 e _ fun vs H2 e2 hs => ⟨by rw [dpa_len hs]; exact sz_of hl, fun p hp => q _ _ (e2.trans (Ex.new hp)) (.tup (st_of (ov_new e e2 hp)) (dpa_mono (ov_grow (Ex.new hp)) ds vs hs))⟩
theorem en_lst {ta : TA} (h : EvDs K ta σ H ds) (hl : ds.length ≤ 100000) : EvN K (tLst ta) σ H ds := fun H1 e Q q =>
  h H1 e _ fun vs H2 e2 hs => ⟨by rw [dpa_len hs]; exact sz_of hl, fun p hp => q p vs _ (fresh_back e2 hp) (e2.trans (Ex.new hp)) upd_same (dpa_mono (ov_grow (Ex.new hp)) ds vs hs)⟩
theorem ed_new (h : EvN K te σ H ds) : EvD K te σ H (.list ds) := fun H1 e Q q => h H1 e _ fun p xs H2 np e2 hp hs => q _ H2 e2 (.lst (sq_of (by
  have h1 := fresh_back e np
  unfold ov
  rw [h1, np]
  exact hp)) hs)
theorem atI_len {α β : Type} {xs : List α} {ys : List β} (h : xs.length = ys.length) {i : Int} {y : β} (hy : atI ys i = some y) : ∃ j : Nat, ys[j]? = some y ∧ ∀ x, xs[j]? = some x → atI xs i = some x := by
  unfold atI at hy ⊢
  cases e : ixN ys.length i with
  | none => rw [e] at hy; cases hy
  | some j =>
    rw [e] at hy
    refine ⟨j, hy, fun x hx => ?_⟩
    rw [h, e]
    exact hx
theorem ed_ixT {i : Int} (ha : EvD K ta σ H (.tuple ds)) (hb : Ev tb σ H (.int i)) (h : atI ds i = some d) : EvD K (tOp (rIxT K) ta tb) σ H d := fun H1 e Q q =>
  ha H1 e _ fun v H2 e2 hv => hb H2 (e.trans e2) _ fun H3 e3 => by
    cases hv with
    | tup hs hd =>
      obtain ⟨j, hj, hx⟩ := atI_len (dpa_len hd) h
      obtain ⟨x, ex, dx⟩ := dpa_at hd hj
      exact ⟨_, _, i, x, rfl, rfl, ex_t ((ov_ex e e2).trans e3) hs, hx x ex, q x H3 (e2.trans e3) (dp_mono (ov_grow e3) d x dx)⟩
theorem ed_ixL {i : Int} (ha : EvD K ta σ H (.list ds)) (hb : Ev tb σ H (.int i)) (h : atI ds i = some d) : EvD K (tOp (rIxL K) ta tb) σ H d := fun H1 e Q q =>
  ha H1 e _ fun v H2 e2 hv => hb H2 (e.trans e2) _ fun H3 e3 => by
    cases hv with
    | lst hs hd =>
      obtain ⟨j, hj, hx⟩ := atI_len (dpa_len hd) h
      obtain ⟨x, ex, dx⟩ := dpa_at hd hj
      exact ⟨_, _, i, x, rfl, rfl, ex_l ((ov_ex e e2).trans e3) hs, hx x ex, q x H3 (e2.trans e3) (dp_mono (ov_grow e3) d x dx)⟩
/-- the same part of two lists of one length -/
def cutA {α : Type} (xs : List α) (lo hi : Option Int) : List α := (xs.drop (HT.sIx xs.length 0 lo)).take (HT.sIx xs.length xs.length hi - HT.sIx xs.length 0 lo)
theorem dpa_cut {vs : List V} {lo hi : Option Int} (h : DpAll K H vs ds) : DpAll K H (cutV vs lo hi) (cutA ds lo hi) := by
  unfold cutV cutA
  rw [dpa_len h]
  exact dpa_take _ (dpa_drop _ h)
theorem ed_slT {tl th : TO} {lo hi : Option Int} (h : EvD K te σ H (.tuple ds)) (h1 : EvO tl σ H lo) (h2 : EvO th σ H hi) : EvD K (tSl (rSlA K) te tl th) σ H (.tuple (cutA ds lo hi)) := fun H1 e Q q =>
  h H1 e _ fun v H2 e2 hv => h1 H2 (e.trans e2) _ fun H3 e3 => h2 H3 ((e.trans e2).trans e3) _ fun H4 e4 => by
    have e24 := e2.trans (e3.trans e4)
    cases hv with
    | @tup a xs _ hs hd =>
      refine ⟨a, xs, rfl, ex_t ((ov_ex e e2).trans (e3.trans e4)) hs, fun hw => q _ H4 e24 (.tup (ex_t (ov_grow (e3.trans e4)) hs) ?_), fun _ p hp => q _ _ (e24.trans (Ex.new hp)) (.tup (st_of (ov_new e e24 hp)) (dpa_cut (dpa_mono (ov_grow ((e3.trans e4).trans (Ex.new hp))) ds xs hd)))⟩
      have ec : cutA ds lo hi = ds := by
        unfold cutA
        rw [← dpa_len hd, hw.1, hw.2, List.drop_zero, Nat.sub_zero, dpa_len hd, List.take_length]
      rw [ec]
      exact dpa_mono (ov_grow (e3.trans e4)) ds xs hd
theorem en_slL {tl th : TO} {lo hi : Option Int} (h : EvD K te σ H (.list ds)) (h1 : EvO tl σ H lo) (h2 : EvO th σ H hi) : EvN K (tSl (rSlL K) te tl th) σ H (cutA ds lo hi) := fun H1 e Q q =>
  h H1 e _ fun v H2 e2 hv => h1 H2 (e.trans e2) _ fun H3 e3 => h2 H3 ((e.trans e2).trans e3) _ fun H4 e4 => by
    have e24 := e2.trans (e3.trans e4)
    cases hv with
    | @lst a xs _ hs hd =>
      exact ⟨a, xs, rfl, ex_l ((ov_ex e e2).trans (e3.trans e4)) hs, fun p hp => q p _ _ (fresh_back e24 hp) (e24.trans (Ex.new hp)) upd_same (dpa_cut (dpa_mono (ov_grow ((e3.trans e4).trans (Ex.new hp))) ds xs hd))⟩
theorem ed_catT (ha : EvD K ta σ H (.tuple ds)) (hb : EvD K tb σ H (.tuple es)) (hl : ds.length + es.length ≤ 100000) : EvD K (tOp (rCatA K) ta tb) σ H (.tuple (ds ++ es)) := fun H1 e Q q =>
  ha H1 e _ fun v H2 e2 hv => hb H2 (e.trans e2) _ fun w H3 e3 hw => by
    have e13 := e2.trans e3
    cases hv with
    | @tup a xs _ hs hd =>
      cases hw with
      | @tup b ys _ ht he =>
        have hs3 := ex_t ((ov_ex e e2).trans e3) hs
        have ht3 := ex_t (ov_ex (e.trans e2) e3) ht
        have hd3 := dpa_mono (ov_grow e3) ds xs hd
        have he3 := dpa_mono (ov_later e2) es ys he
        have ld := dpa_len hd
        have le := dpa_len he
        refine ⟨a, b, xs, ys, rfl, rfl, hs3, ht3, sz_of (by omega), fun h0 => ?_, fun _ h0 => ?_, fun _ _ p hp => q _ _ (e13.trans (Ex.new hp)) (.tup (st_of (ov_new e e13 hp)) (dpa_app (dpa_mono (ov_grow (Ex.new hp)) ds xs hd3) (dpa_mono (ov_grow (Ex.new hp)) es ys he3)))⟩
        · have z : ds = [] := List.eq_nil_of_length_eq_zero (by rw [← ld, h0]; rfl)
          subst z
          exact q _ _ e13 (.tup (ex_t (ov_later e2) ht) he3)
        · have z : es = [] := List.eq_nil_of_length_eq_zero (by rw [← le, h0]; rfl)
          subst z
          exact q _ _ e13 (.tup (ex_t (ov_grow e3) hs) (by rw [List.append_nil]; exact hd3))
theorem en_cat (ha : EvN K ta σ H ds) (hb : EvN K tb σ H es) (hl : ds.length + es.length ≤ 100000) : EvN K (tOp rCat ta tb) σ H (ds ++ es) := fun H1 e Q q =>
  ha H1 e _ fun p xs H2 np e2 hp hs => hb H2 (e.trans e2) _ fun p' ys H3 np' e3 hp' ht =>
    ⟨p, p', xs, ys, rfl, rfl, e3 _ _ hp, hp', by rw [dpa_len hs, dpa_len ht]; exact sz_of hl, fun o ho => q o _ _ (fresh_back (e2.trans e3) ho) ((e2.trans e3).trans (Ex.new ho)) upd_same
      (dpa_app (dpa_mono (ov_grow (e3.trans (Ex.new ho))) ds xs hs) (dpa_mono ((ov_later e2).trans (ov_grow (Ex.new ho))) es ys ht))⟩
/-- a list that stands in the base, by its items -/
theorem en_tup {a : Addr} {xs : List V} (ha : Ev ta σ H (.ref a)) (hs : SqL K H a xs) (hd : DpAll K H xs ds) : EvD K (tThen ta (kTup K)) σ H (.tuple ds) := fun H1 e Q q =>
  ha H1 e _ fun H2 e2 => .inl ⟨a, xs, rfl, ex_l (e.trans e2) hs, fun p hp => q _ _ (e2.trans (Ex.new hp)) (.tup (st_of (ov_new e e2 hp)) (dpa_mono ov_base ds xs hd))⟩
theorem ed_tupOf (ha : EvD K ta σ H (.list ds)) : EvD K (tThen ta (kTup K)) σ H (.tuple ds) := fun H1 e Q q =>
  ha H1 e _ fun v H2 e2 hv => by
    cases hv with
    | @lst a xs _ hs hd => exact .inl ⟨a, xs, rfl, ex_l (ov_ex e e2) hs, fun p hp => q _ _ (e2.trans (Ex.new hp)) (.tup (st_of (ov_new e e2 hp)) (dpa_mono (ov_grow (Ex.new hp)) ds xs hd))⟩
theorem ev_eqD {n m : Nat} (ha : EvD K ta σ H d) (hb : EvD K tb σ H e) (sd : Sd n d) (se : Sd m e) (hn : n ≤ 64) (hm : m ≤ 64) : Ev (tOp (rEqD K) ta tb) σ H (.bl (PyData.eqv d e)) := fun H1 a Q q =>
  ha H1 a _ fun v H2 e2 hv => hb H2 (a.trans e2) _ fun w H3 e3 hw => ⟨d, e, dp_mono ((ov_ex a e2).trans e3) d v hv, dp_mono (ov_ex (a.trans e2) e3) e w hw, sd.shaped hn, se.shaped hm, q H3 (e2.trans e3)⟩
theorem ev_neD {n m : Nat} (ha : EvD K ta σ H d) (hb : EvD K tb σ H e) (sd : Sd n d) (se : Sd m e) (hn : n ≤ 64) (hm : m ≤ 64) : Ev (tOp (rNeD K) ta tb) σ H (.bl (!PyData.eqv d e)) := fun H1 a Q q =>
  ha H1 a _ fun v H2 e2 hv => hb H2 (a.trans e2) _ fun w H3 e3 hw => ⟨d, e, dp_mono ((ov_ex a e2).trans e3) d v hv, dp_mono (ov_ex (a.trans e2) e3) e w hw, sd.shaped hn, se.shaped hm, q H3 (e2.trans e3)⟩
/-- the two sides are one: != is False -/
theorem ev_neSelf {n : Nat} (ha : EvD K ta σ H d) (hb : EvD K tb σ H d) (sd : Sd n d) (hn : n ≤ 64) : Ev (tOp (rNeD K) ta tb) σ H (.bl false) := ev_is (ev_neD ha hb sd sd hn hn) (by rw [sd.self]; rfl)
theorem ev_eqSelf {n : Nat} (ha : EvD K ta σ H d) (hb : EvD K tb σ H d) (sd : Sd n d) (hn : n ≤ 64) : Ev (tOp (rEqD K) ta tb) σ H (.bl true) := ev_is (ev_eqD ha hb sd sd hn hn) (by rw [sd.self])
theorem ev_lenD (ha : EvD K ta σ H (.list ds)) : Ev (tCB (fun xs H Q => ∃ p ys, xs = [.ref p] ∧ (SqL K H p ys ∨ SqT K H p ys) ∧ Q (.int ys.length) H) (tCons ta tNil)) σ H (.int (ds.length : Int)) := fun H1 e Q q =>
  ha H1 e _ fun v H2 e2 hv => by
    cases hv with
    | @lst a xs _ hs hd => exact ⟨a, xs, rfl, .inl (ex_l (ov_ex e e2) hs), by rw [dpa_len hd]; exact q H2 e2⟩
theorem ev_lenDT (ha : EvD K ta σ H (.tuple ds)) : Ev (tCB (fun xs H Q => ∃ p ys, xs = [.ref p] ∧ (SqL K H p ys ∨ SqT K H p ys) ∧ Q (.int ys.length) H) (tCons ta tNil)) σ H (.int (ds.length : Int)) := fun H1 e Q q =>
  ha H1 e _ fun v H2 e2 hv => by
    cases hv with
    | @tup a xs _ hs hd => exact ⟨a, xs, rfl, .inr (ex_t (ov_ex e e2) hs), by rw [dpa_len hd]; exact q H2 e2⟩
theorem ed_if {b : Bool} (h : EvT t σ H b) (h1 : b = true → EvD K ta σ H d) (h2 : b = false → EvD K tb σ H d) : EvD K (tIf t ta tb) σ H d := fun H1 e Q q => h H1 e _ fun H2 e2 => by
  cases b with
  | true =>
    show ta σ H2 Q
    exact h1 rfl H2 (e.trans e2) Q fun v H3 e3 hv => q v H3 (e2.trans e3) (dp_mono (ov_later e2) d v hv)
  | false =>
    show tb σ H2 Q
    exact h2 rfl H2 (e.trans e2) Q fun v H3 e3 hv => q v H3 (e2.trans e3) (dp_mono (ov_later e2) d v hv)
/-- a promise that gives data, over a base that the caller names -/
def RetD (K : PySem.W.Frag) (B : Hp) (d : PyData) (H : Hp) (Q : VK) : Prop := ∀ v H2, Ex H H2 → Dp K (ov B H H2) v d → Q v H2
theorem ov_ov {B H H1 H2 : Hp} (e : Ex B H) (e1 : Ex H H1) (e2 : Ex H1 H2) : Ex (ov (ov B H H1) H1 H2) (ov B H H2) := fun a o h => by
  unfold ov at h ⊢
  cases h0 : B a with
  | some o' =>
    rw [h0] at h
    exact h
  | none =>
    rw [h0] at h
    cases h1 : H a with
    | some o' =>
      rw [h1, e1 a o' h1] at h
      cases h
    | none =>
      rw [h1] at h
      cases h3 : H1 a with
      | some o' =>
        rw [h3] at h
        rw [← h]
        exact e2 a o' h3
      | none =>
        rw [h3] at h
        exact h
def SpD (K : PySem.W.Frag) (sp : Sp) (vs : List V) (H : Hp) (d : PyData) : Prop := ∀ H1, Ex H H1 → ∀ Q : VK, (∀ v H2, Ex H1 H2 → Dp K (ov H H1 H2) v d → Q v H2) → ∀ E : XK, sp vs H1 Q E
theorem ed_call {sp : Sp} {dvs vs : List V} {E : XK} {ta : TA} (h : EvA ta σ H vs) (hs : SpD K sp (vs ++ dvs) H d) : EvD K (tCall sp dvs E ta) σ H d := fun H1 e Q q =>
  h H1 e _ fun H2 e2 => hs H2 (e.trans e2) Q (fun v H3 e3 hv => q v H3 (e2.trans e3) (dp_mono (ov_later e2) d v hv)) E
/-! ### statements -/
variable {D : Ends} {tz : TS} {i : Nat}
theorem dp_all {H2 : Hp} {v : V} {d : PyData} (e : Ex H H2) (h : Dp K (ov H H H2) v d) : Dp K H2 v d := dp_mono (ov_ex (Ex.refl H) e) d v h
theorem q_asgD (h : EvD K te σ H d) (k : ∀ v H1, Ex H H1 → Dp K H1 v d → tz D (σ.set i (some v)) H1) : tSeq (tAsg te (gName i)) tz D σ H := h H (Ex.refl H) _ fun v H1 e hv => k v H1 e (dp_mono (ov_ex (Ex.refl H) e) d v hv)
theorem s_asgD (h : EvD K te σ H d) (k : ∀ v H1, Ex H H1 → Dp K H1 v d → D.nx (σ.set i (some v)) H1) : tAsg te (gName i) D σ H := h H (Ex.refl H) _ fun v H1 e hv => k v H1 e (dp_mono (ov_ex (Ex.refl H) e) d v hv)
theorem q_asgN (h : EvN K te σ H ds) (k : ∀ p xs H1, H p = none → Ex H H1 → H1 p = some (.lst xs) → DpAll K H1 xs ds → tz D (σ.set i (some (.ref p))) H1) : tSeq (tAsg te (gName i)) tz D σ H :=
  h H (Ex.refl H) _ fun p xs H1 np e hp hs => k p xs H1 np e hp (dpa_mono (ov_ex (Ex.refl H) e) ds xs hs)
theorem q_asgDB {B : Hp} (eB : Ex B H) (h : EvD K te σ B d) (k : ∀ v H1, Ex H H1 → Dp K (ov B H H1) v d → tz D (σ.set i (some v)) H1) : tSeq (tAsg te (gName i)) tz D σ H := h H eB _ fun v H1 e hv => k v H1 e hv
theorem s_retDB {B : Hp} (eB : Ex B H) (h : EvD K te σ B d) (k : ∀ v H1, Ex H H1 → Dp K (ov B H H1) v d → D.rt v H1) : tRet te D σ H := h H eB _ k
theorem s_retD (h : EvD K te σ H d) (k : ∀ v H1, Ex H H1 → Dp K (ov H H H1) v d → D.rt v H1) : tRet te D σ H := h H (Ex.refl H) _ k
/-! ### a comprehension over a range, its items data -/
def givenD (n : Nat) (f : Nat → Bool) (g : Nat → PyData) : List PyData := ((List.range n).filter f).map g
theorem givenD_yes {n : Nat} {f : Nat → Bool} {g : Nat → PyData} (h : f n = true) : givenD (n + 1) f g = givenD n f g ++ [g n] := by
  unfold givenD
  rw [List.range_succ, List.filter_append, List.map_append, List.filter_cons, if_pos h]
  all_goals rfl
theorem givenD_no {n : Nat} {f : Nat → Bool} {g : Nat → PyData} (h : f n = false) : givenD (n + 1) f g = givenD n f g := by
  unfold givenD
  rw [List.range_succ, List.filter_append, List.map_append, List.filter_cons, if_neg (by rw [h]; decide)]
  show _ ++ [] = _
  rw [List.append_nil]
theorem givenD_len (n : Nat) (f : Nat → Bool) (g : Nat → PyData) : (givenD n f g).length ≤ n := by
  unfold givenD
  rw [List.length_map]
  have h := List.length_filter_le f (List.range n)
  rw [List.length_range] at h
  exact h
/-- the word of a comprehension over the base B, begun at H1: the items lean on the base and on what is new, not on the list itself -/
def CwD (K : PySem.W.Frag) (B H1 : Hp) (f : Nat → Bool) (g : Nat → PyData) (Dl : Addr) (i : Nat) (H' : Hp) : Prop := Ex B H' ∧ Ex H1 H' ∧ ∃ acc, H' Dl = some (.lst acc) ∧ DpAll K (ov B (upd H1 Dl (.lst [])) H') acc (givenD i f g)
theorem cwD_turn {B H1 H' : Hp} {f : Nat → Bool} {g : Nat → PyData} {Dl : Addr} {i : Nat} {σ2 : L2.St} (b1 : Ex B H1) (nD : H1 Dl = none) (p : CwD K B H1 f g Dl i H') (hi : i < 50000) (ht : EvT t σ2 B (f i)) (he : f i = true → EvD K te σ2 B (g i)) :
    t σ2 H' fun b H3 => if b = true then te σ2 H3 fun y H4 => ∃ acc, H4 Dl = some (.lst acc) ∧ acc.length < sizeLine ∧ CwD K B H1 f g Dl (i + 1) (upd H4 Dl (.lst (acc ++ [y]))) else CwD K B H1 f g Dl (i + 1) H3 := by
  obtain ⟨p1, p2, acc, p3, p4⟩ := p
  have nB : B Dl = none := fresh_back b1 nD
  refine ht H' p1 _ fun H3 e3 => ?_
  cases hf : f i with
  | true =>
    show te σ2 H3 fun y H4 => ∃ acc, H4 Dl = some (.lst acc) ∧ acc.length < sizeLine ∧ CwD K B H1 f g Dl (i + 1) (upd H4 Dl (.lst (acc ++ [y])))
    refine he hf H3 (p1.trans e3) _ fun y H4 e4 hy => ⟨acc, e4 Dl _ (e3 Dl _ p3), sz_lt (by rw [dpa_len p4]; have := givenD_len i f g; omega), Ex.mut ((p1.trans e3).trans e4) nB, Ex.mut ((p2.trans e3).trans e4) nD, _, upd_same, ?_⟩
    have k1 : Ex (ov B H3 H4) (ov B (upd H1 Dl (.lst [])) (upd H4 Dl (.lst (acc ++ [y])))) := fun a o ha => by
      unfold ov at ha ⊢
      cases h0 : B a with
      | some o' => rw [h0] at ha; exact ha
      | none =>
        rw [h0] at ha
        cases h3 : H3 a with
        | some o' => rw [h3] at ha; cases ha
        | none =>
          rw [h3] at ha
          have ne : a ≠ Dl := fun e => by
            rw [e, e3 Dl _ p3] at h3
            cases h3
          rw [upd_ne ne, fresh_back (p2.trans e3) h3]
          show upd H4 Dl _ a = some o
          rw [upd_ne ne]
          exact ha
    have k2 : Ex (ov B (upd H1 Dl (.lst [])) H') (ov B (upd H1 Dl (.lst [])) (upd H4 Dl (.lst (acc ++ [y])))) := fun a o ha => by
      unfold ov at ha ⊢
      cases h0 : B a with
      | some o' => rw [h0] at ha; exact ha
      | none =>
        rw [h0] at ha
        by_cases ne : a = Dl
        · rw [ne, upd_same] at ha
          cases ha
        · rw [upd_ne ne] at ha ⊢
          cases h1 : H1 a with
          | some o' => rw [h1] at ha; cases ha
          | none =>
            rw [h1] at ha
            show upd H4 Dl _ a = some o
            rw [upd_ne ne]
            exact e4 a o (e3 a o ha)
    rw [givenD_yes hf]
    exact dpa_app (dpa_mono k2 _ _ p4) (dpa_one (dp_mono k1 _ _ hy))
  | false =>
    show CwD K B H1 f g Dl (i + 1) H3
    refine ⟨p1.trans e3, p2.trans e3, acc, e3 Dl _ p3, ?_⟩
    rw [givenD_no hf]
    exact dpa_mono (ov_grow e3) _ _ p4
theorem cwD_start {B H1 : Hp} {f : Nat → Bool} {g : Nat → PyData} {Dl : Addr} (b1 : Ex B H1) (nD : H1 Dl = none) : CwD K B H1 f g Dl 0 (upd H1 Dl (.lst [])) := ⟨b1.trans (Ex.new nD), Ex.new nD, [], upd_same, .nil⟩
theorem cwD_end {B H1 H' : Hp} {f : Nat → Bool} {g : Nat → PyData} {Dl : Addr} {n : Nat} (p : CwD K B H1 f g Dl n H') : ∃ acc, H' Dl = some (.lst acc) ∧ DpAll K (ov B H1 H') acc (givenD n f g) := by
  obtain ⟨_, _, acc, p3, p4⟩ := p
  refine ⟨acc, p3, dpa_mono (fun a o ha => ?_) _ _ p4⟩
  unfold ov at ha ⊢
  cases h0 : B a with
  | some o' => rw [h0] at ha; exact ha
  | none =>
    rw [h0] at ha
    by_cases ne : a = Dl
    · rw [ne, upd_same] at ha
      cases ha
    · rw [upd_ne ne] at ha
      exact ha
theorem en_lcR1 {ta : TA} {j : Nat} {vs : List Nat} {n : Int} (f : Nat → Bool) (g : Nat → PyData) (h : EvA ta σ H [.int n]) (hn : 0 ≤ n ∧ n ≤ 40000) (hw : ∀ x, wipe ((wipe σ vs).set j (some x)) vs = wipe σ vs)
    (ht : ∀ i : Nat, (i : Int) < n → EvT t ((wipe σ vs).set j (some (.int (i : Int)))) H (f i)) (he : ∀ i : Nat, (i : Int) < n → f i = true → EvD K te ((wipe σ vs).set j (some (.int (i : Int)))) H (g i)) :
    EvN K (tLc (iRng1 ta) (gName j) t te vs) σ H (givenD n.toNat f g) := fun H0 e Q q => h H0 e _ fun H1 e1 => ⟨n, rfl, by omega, by omega, fun Dl hD =>
  lc_range (lo := 0) (n := n.toNat) (CwD K H H1 f g Dl) (cwD_start (e.trans e1) hD) (fun i H' hi p => by
    have e0 : (0 : Int) + (i : Int) = (i : Int) := Int.zero_add _
    show wipe ((wipe σ vs).set j (some (.int ((0 : Int) + (i : Int))))) vs = wipe σ vs ∧ t ((wipe σ vs).set j (some (.int ((0 : Int) + (i : Int))))) H' fun b H3 => if b = true then te ((wipe σ vs).set j (some (.int ((0 : Int) + (i : Int))))) H3 fun y H4 => ∃ acc, H4 Dl = some (.lst acc) ∧ acc.length < sizeLine ∧ CwD K H H1 f g Dl (i + 1) (upd H4 Dl (.lst (acc ++ [y]))) else CwD K H H1 f g Dl (i + 1) H3
    rw [e0]
    exact ⟨hw _, cwD_turn (e.trans e1) hD p (by omega) (ht i (by omega)) (fun hf => he i (by omega) hf)⟩) (fun H' p => by
      obtain ⟨acc, h1, h2⟩ := cwD_end p
      exact q Dl acc H' (fresh_back e1 hD) (e1.trans p.2.1) h1 (dpa_mono (ov_later e1) _ _ h2))⟩
theorem et_nil : EvT tYes σ H true := fun H1 _ _ q => q H1 (Ex.refl H1)
end
end Ap

set_option Elab.async false
set_option linter.all false
set_option maxRecDepth 100000
namespace Ap
open PySem PySem.Spec PyProof.Rows L2 Evl
/-! ### a method that may raise, called where the wish hangs on the slots -/
def tMX (C : Addr) (m : Str) (sp : Sp) (E : L2.St → XK) (ta : TE) (t : TA) : TE := fun σ H Q => ta σ H fun x G => ∃ a dx fs, x = .ref a ∧ G a = some (.ins C dx fs) ∧ fs.lookup m = none ∧ t σ G fun vs G2 => sp (x :: vs) G2 Q (E σ)
theorem pe_mx {X : Cx} {CX : CXT} {k : Nat} {f C : Addr} {fd : FuncData} {ps : List Str} {sp : Sp} {E : L2.St → XK} {m : Str} {pos apos : Pos} {e o : Expr} {es : List Expr} {ta : TE} {t : TA} {pl : Sem Bool}
    (he : PE X o ta) (c : Cls X.K C) (hm : Meth X.K C m f) (F : FnOk X.prog X.w X.K X.mg X.base CX k f fd ps sp) (hr : Room k X.A) (hb : Binds X.K fd ps []) (hx : ∀ σ, PassesAt CX X σ (E σ)) (ha : PA X (e :: es) t)
    (z1 : starEach (e :: es) X.env = (false, eval e X.env) :: starEach es X.env := by rfl) (z2 : (backTo pos (starEach es X.env)).any (·.1) = false := by rfl)
    (z3 : eval (.Call (.Attribute o m apos) (e :: es) [] pos) X.env = (do { let ov ← eval o X.env; standAt apos.atName; let (f, first) ← holding [ov] (getMethod ov m pl); callWith pos f first (backTo pos (starEach (e :: es) X.env)) (backToKw pos (keywordEach [] X.env)) }) := by rfl) :
    PE X (.Call (.Attribute o m apos) (e :: es) [] pos) (tMX C m sp E ta t) := ⟨fun pins s σ H Q I h => PySem.W.methodCall_KW (pl := pl) (thn (he.run pins s σ H _ I h) fun u s1 hh => by
  obtain ⟨x, G, J, rx, a, dx, fs, ex, ea, l, q⟩ := hh
  subst ex
  cases (show u = Value.ref a from rx)
  exact getmeth_ok J ea c hm l (PySem.W.callWith_K (first := [.ref a]) (h₀ := X.base) I.ok.mod.kin hm.kp (thn (ha.run pos pins s1 σ G _ J q) fun us s2 ⟨vs, G2, J2, r, q2⟩ => ⟨J2.kIn, run_fnS (us := .ref a :: us) (vs := .ref a :: vs) F hr hb (hx σ) J2 (.cons rfl r) q2⟩) z1 z2)) z3⟩
/-- a block under a proposition -/
theorem pss_guard {X : Cx} {b : List Stmt} {t : TS} {p : Prop} (h : p → PSs X b t) : PSs X b (fun D σ H => p ∧ t D σ H) := ⟨fun pins s σ H D I q => (h q.1).run pins s σ H D I q.2⟩
/-- try: .. except X as n: suite, the errors of the body of one own class without fields -/
theorem ps_try_own {X : Cx} {C : Addr} {x n : Str} {c : Value} {i : Nat} {body suite : List Stmt} {b₀ : Stmt} {np pos pos' : Pos} {tb : WX → TS} {ts : Addr → TS} {Wout : WX} (hs : X.stack = X.env :: X.outer) (hf : X.env.frame = some X.env.locals) (hN : X.N.Nodup) (hi : X.N[i]? = some n) (hln : X.env.kindOf n = some .local) (hc : Names X x c) (tk : Takes X Wout)
    (hb : ∀ (W : WX) (pn : List (Addr × Obj)) (xe : Value → Shared → Prop), Takes (X.tr pn xe) W → PSs (X.tr pn xe) body (tb W))
    (hsu : ∀ (a : Addr) (oe : Obj) (pn : List (Addr × Obj)), Zc (.ref C) none oe → (∃ vs, oe.data = .fields vs) → PSs (X.suite a ((a, oe) :: pn)) (b₀ :: suite) (ts a)) :
    PS X (.Try body [.ExceptHandler (some (.Name x np)) (some n) (b₀ :: suite) pos'] [] [] pos) (fun D σ H => tb (wAs X.K c i (fun a cls d D σ H => (cls = .ref C ∧ d = none) ∧ ts a D σ H) Wout D) D σ H) :=
  ps_try_as hs hf hN hi hln hc tk (fun W pn xe tk' _ => hb W pn xe tk') (fun a oe cls d pn hz hf => pss_guard fun h => by
    obtain ⟨h1, h2⟩ := h
    subst h1
    subst h2
    exact hsu a oe pn hz hf)
/-- the same without a name -/
theorem ps_try_ownN {X : Cx} {C : Addr} {x : Str} {c : Value} {body suite : List Stmt} {b₀ : Stmt} {np pos pos' : Pos} {tb : WX → TS} {ts : Addr → TS} {Wout : WX} (hs : X.stack = X.env :: X.outer) (hf : X.env.frame = some X.env.locals) (hc : Names X x c) (tk : Takes X Wout)
    (hb : ∀ (W : WX) (pn : List (Addr × Obj)) (xe : Value → Shared → Prop), Takes (X.tr pn xe) W → PSs (X.tr pn xe) body (tb W))
    (hsu : ∀ (a : Addr) (oe : Obj) (pn : List (Addr × Obj)), Zc (.ref C) none oe → (∃ vs, oe.data = .fields vs) → PSs (X.suite a ((a, oe) :: pn)) (b₀ :: suite) (ts a)) :
    PS X (.Try body [.ExceptHandler (some (.Name x np)) none (b₀ :: suite) pos'] [] [] pos) (fun D σ H => tb (wOnly X.K c (fun a cls d D σ H => (cls = .ref C ∧ d = none) ∧ ts a D σ H) Wout D) D σ H) :=
  ps_try_only hs hf hc tk (fun W pn xe tk' _ => hb W pn xe tk') (fun a oe cls d pn hz hf => pss_guard fun h => by
    obtain ⟨h1, h2⟩ := h
    subst h1
    subst h2
    exact hsu a oe pn hz hf)
/-- an own error class C over ValueError (through B), as the top left it -/
structure Err (K : PySem.W.Frag) (mg : Str → Option Value) (x : Str) (C B : Addr) : Prop where
  g : mg x = some (.ref C)
  kp : PySem.W.keepIn K (.ref C) = true
  ex : PySem.W.excIn K C [.type "ValueError", .type "Exception", .type "BaseException", .type "object"] "ValueError.__new__" = true
  bs : PySem.W.subIn K (.ref C) (.type "BaseException") = some true
  ty : PySem.W.typeIn K (.ref C) = some (.type "type")
  me : PySem.W.exmOne K (.ref C) (.ref C) = some true
  ec : ExcC K C
  k1 : PySem.W.kitOne K (.ref C) (.ref B) = some true
  k2 : PySem.W.kitOne K (.ref C) (.type "ValueError") = some true
theorem Err.mk' {X : Cx} {x m : Str} {C B : Addr} {j : Nat} {p p2 pos : Pos} (T : Err X.K X.mg x C B) (hg : Gl X x) (hdb : (x == ("__debug__" : Str)) = false := by decide) : PMk X (.Call (.Name x p) [.Constant (.str m) j p2] [] pos) (fun _ H Q => Q (.ref C) none H) :=
  pmk_own PySem.F.excBase_ValueError T.ex T.g T.kp (raises_own T.bs T.ty) hg hdb
/-- isinstance(e, T), e the error in hand -/
theorem ev_isE {K : PySem.W.Frag} {σ : L2.St} {H : Hp} {tx : TE} {D a : Addr} {i : Nat} {c : V} {cv : Value} {b : Bool} (h : σ[i]? = some (some (.ref a))) (hx : Ev tx σ H c) (hc : ∀ u, RelV c u → u = cv) (k : PySem.W.kitOne K (.ref D) cv = some b) : Ev (tCB (rIsE K D a) (tCons (tVar i) (tCons tx tNil))) σ H (.bl b) :=
  ev_cb (ea_cons (ev_var h) (ea_cons hx ea_nil)) fun H1 _ Q q => ⟨c, cv, b, rfl, hc, k, q H1 (Ex.refl H1)⟩
/-! ### slices and comprehensions of data -/
theorem cutA_from {α : Type} (xs : List α) (m : Nat) : cutA xs (some (m : Int)) none = xs.drop m := by
  unfold cutA
  rw [show HT.sIx xs.length 0 (some ((m : Nat) : Int)) = min m xs.length from HT.sIx_nat xs.length 0 m, HT.sIx_none]
  by_cases h : m ≤ xs.length
  · rw [Nat.min_eq_left h, ← List.length_drop, List.take_length]
  · rw [Nat.min_eq_right (by omega), List.drop_length, List.drop_eq_nil_of_le (by omega), List.take_nil]
theorem filter_from (m : Nat) : ∀ n : Nat, (List.range n).filter (fun k => decide (m ≤ k)) = (List.range n).drop m
  | 0 => by simp
  | n + 1 => by
    rw [List.range_succ, List.filter_append, filter_from m n]
    by_cases h : m ≤ n
    · rw [List.drop_append_of_le_length (by rw [List.length_range]; exact h), List.filter_cons, if_pos (by exact decide_eq_true h)]
      all_goals rfl
    · rw [List.filter_cons, if_neg (by rw [decide_eq_false h]; decide), List.filter_nil, List.append_nil, List.drop_eq_nil_of_le (by rw [List.length_range]; omega), List.drop_eq_nil_of_le (by rw [List.length_append, List.length_range, List.length_singleton]; omega)]
theorem range_getD {α : Type} (xs : List α) (d : α) : (List.range xs.length).map (fun i => xs.getD i d) = xs := by
  refine List.ext_getElem (by simp) (fun i h1 h2 => ?_)
  rw [List.getElem_map, List.getElem_range, List.getD_eq_getElem?_getD, List.getElem?_eq_getElem h2]
  rfl
theorem givenD_from (ds : List PyData) (m : Nat) (f : Nat → Bool) (hf : ∀ k, k < ds.length → f k = decide (m ≤ k)) : givenD ds.length f (fun k => ds.getD k .none) = ds.drop m := by
  unfold givenD
  have e : (List.range ds.length).filter f = (List.range ds.length).filter (fun k => decide (m ≤ k)) := List.filter_congr fun k hk => hf k (List.mem_range.mp hk)
  rw [e, filter_from, List.map_drop, range_getD]
theorem givenD_all (n : Nat) (g : Nat → PyData) : givenD n (fun _ => true) g = (List.range n).map g := by
  unfold givenD
  rw [List.filter_eq_self.mpr (fun _ _ => rfl)]
theorem atI_getD {α : Type} {xs : List α} {i : Int} {d : α} (h0 : 0 ≤ i) (h1 : i < (xs.length : Int)) : atI xs i = some (xs.getD i.toNat d) := by
  obtain ⟨j, rfl⟩ := Int.eq_ofNat_of_zero_le h0
  have hj : j < xs.length := by omega
  refine atI_nat ?_
  rw [show ((j : Int)).toNat = j from rfl, List.getD_eq_getElem?_getD, List.getElem?_eq_getElem hj]
  rfl
/-- range with great bounds -/
theorem q_forRngB {σ : L2.St} {H : Hp} {D : Ends} {tz : TS} {ta : TA} {j : Nat} {lo n : Int} {tu : TS} (h : EvA ta σ H [.int lo, .int n]) (hn : -(2 ^ 62) ≤ lo ∧ lo < 2 ^ 62 ∧ -(2 ^ 62) ≤ n ∧ n < 2 ^ 62) (Pv : Nat → L2.St → Hp → Prop) (h0 : ∀ H1, Ex H H1 → Pv 0 σ H1)
    (hs : ∀ (i : Nat) σ' H', lo + (i : Int) < n → Pv i σ' H' → tu { D with nx := Pv (i + 1), ct := Pv (i + 1), bk := tz D } (σ'.set j (some (.int (lo + (i : Int))))) H') (hd : ∀ σ' H', Pv (n - lo).toNat σ' H' → tz D σ' H') : tSeq (tFor (iRng2 ta) (gName j) tu) tz D σ H :=
  h H (Ex.refl H) _ fun H1 e => ⟨lo, n, rfl, hn, for_range (lo := lo) (n := (n - lo).toNat) Pv (h0 H1 e) (fun i σ' H' hi p => hs i σ' H' (by omega) p) hd⟩

/-! ### a method of the text, its class's own -/
structure Dm (K : PySem.W.Frag) (C : Addr) (x qual : Str) (st : Stmt) (ps : List Str) (f : Addr) (fd : FuncData) : Prop where
  F : Fun K x qual st f fd
  b : Binds K fd ps []
  m : Meth K C x f
theorem dm_mk {K : PySem.W.Frag} {h : Heap} (X : K.In h) {C : Addr} {x qual : Str} {st : Stmt} {ps : List Str} {f : Addr} {oc : Value} {od an : Option Addr} {sl : Array (Option Value)} {kV dc pm cd ct : Value}
    (a : PySem.W.findIn K (.ref C) x = some (some (.ref f))) (i : PySem.W.isFn K (.ref f) = true) (l : K.lookup f = some ⟨oc, od, .func (PySem.W.fnOf x qual (defArgs st) (defBody st) (defScope st) .none kV dc pm an cd ct), sl⟩) (c : PySem.W.codeIn K cd qual = true) (k : PySem.W.keepIn K (.ref f) = true)
    (hb : ∀ (kV doc pm : Value) (an : Option Addr) (cdv ct : Value) (us : List Value), us.length = ps.length → bindArgs (PySem.W.fnOf x qual (defArgs st) (defBody st) (defScope st) .none kV doc pm an cdv ct) ⟨us, []⟩ = pure (ps.zip us)) :
    ∃ f fd, Dm K C x qual st ps f fd := ⟨_, _, fun_mk l c k, (fun_mk l c k).binds hb, ⟨a, i, k⟩⟩
/-- a class of the text with an __init__ -/
structure Kl (K : PySem.W.Frag) (mg : Str → Option Value) (x : Str) (C : Addr) : Prop where
  cl : Cls K C
  g : mg x = some (.ref C)
  makes : PySem.W.makesIn K C = true
  kp : PySem.W.keepIn K (.ref C) = true
theorem Kl.make {K : PySem.W.Frag} {mg : Str → Option Value} {x : Str} {C f : Addr} {q : Str} {st : Stmt} {ps : List Str} {fd : FuncData} (L : Kl K mg x C) (D : Dm K C "__init__" q st ps f fd) : Mk K C f := ⟨L.makes, D.m.at_, D.m.fn, L.kp⟩
theorem kl_mk {K : PySem.W.Frag} {h : Heap} {mg : Str → Option Value} {x : Str} {C : Addr} (X : K.In h) (G : h.Ns mainGlobals mg) (a : PySem.W.nsIn K mainGlobals x = some (some (.ref C))) (pg : PySem.W.plainGet K C Str.empty = true) (hd : PySem.W.hasDictIn K C = true) (po : PySem.W.plainOver K C = true)
    (sa : PySem.W.findIn K (.ref C) "__setattr__" = some (some (.builtin "object.__setattr__"))) (mk : PySem.W.makesIn K C = true) (kp : PySem.W.keepIn K (.ref C) = true) : Kl K mg x C := ⟨⟨pg, hd, po, sa⟩, PySem.W.mg_of X G a, mk, kp⟩
theorem na_mk {K : PySem.W.Frag} {h : Heap} {C : Addr} {f : Str} (X : K.In h) (a : PySem.W.findIn K (.ref C) f = some none) : NoAttr K C f := a
/-- a property of an own class: its getter -/
structure Pr (K : PySem.W.Frag) (C : Addr) (x qual : Str) (st : Stmt) (f : Addr) (fd : FuncData) : Prop where
  F : Fun K x qual st f fd
  b : Binds K fd ["self"] []
  p : ∃ p, PropOf K C x p f
theorem pr_mk {K : PySem.W.Frag} {h : Heap} (X : K.In h) {C : Addr} {x qual : Str} {st : Stmt} {f p : Addr} {rest : List Value} {oc : Value} {od an : Option Addr} {sl : Array (Option Value)} {kV dc pm cd ct : Value}
    (a : PySem.W.findIn K (.ref C) x = some (some (.ref p))) (g : PySem.W.specialIn K (.ref p) "__get__" = some (some (.builtin "property.__get__"))) (t : PySem.W.takesIn K (.ref p) = some true) (r : PySem.W.recIn K p "property" = some (.ref f :: rest))
    (l : K.lookup f = some ⟨oc, od, .func (PySem.W.fnOf x qual (defArgs st) (defBody st) (defScope st) .none kV dc pm an cd ct), sl⟩) (c : PySem.W.codeIn K cd qual = true) (k : PySem.W.keepIn K (.ref f) = true)
    (hb : ∀ (kV doc pm : Value) (an : Option Addr) (cdv ct : Value) (us : List Value), us.length = (["self"] : List Str).length → bindArgs (PySem.W.fnOf x qual (defArgs st) (defBody st) (defScope st) .none kV doc pm an cdv ct) ⟨us, []⟩ = pure ((["self"] : List Str).zip us)) :
    ∃ f fd, Pr K C x qual st f fd := ⟨_, _, fun_mk l c k, (fun_mk l c k).binds hb, p, ⟨a, g, t, rest, r⟩⟩
theorem pe_pr {X : Cx} {CX : CXT} {k : Nat} {C g : Addr} {f : Str} {fd : FuncData} {sp : Sp} {E : XK} {e : Expr} {pos : Pos} {ta : TE} {q : Str} {st : Stmt} (he : PE X e ta) (c : Cls X.K C) (hp : Pr X.K C f q st g fd) (F : FnOk X.prog X.w X.K X.mg X.base CX k g fd ["self"] sp) (hr : Room (k + 1) X.A) (hx : Passes CX X.nox E)
    (hab : attributeBase e f X.env (eval e X.env) = eval e X.env) : PE X (.Attribute e f pos) (tProp C sp [] E ta) := by
  obtain ⟨p, hp'⟩ := hp.p
  exact pe_prop he c hp' F hr hp.b .nil hx hab
section
variable {K : PySem.W.Frag} {σ : L2.St} {H H' : Hp} {ta tb te : TE} {ds es : List PyData}
theorem en_catV {a : Addr} {xs : List V} (ha : Ev ta σ H (.ref a)) (h : H a = some (.lst xs)) (hd : DpAll K H xs ds) (hb : EvN K tb σ H es) (hl : ds.length + es.length ≤ 100000) : EvN K (tOp rCat ta tb) σ H (ds ++ es) := fun H1 e Q q =>
  ha H1 e _ fun H2 e2 => hb H2 (e.trans e2) _ fun p' ys H3 np' e3 hp' ht =>
    ⟨a, p', xs, ys, rfl, rfl, ((e.trans e2).trans e3) _ _ h, hp', by rw [dpa_len hd, dpa_len ht]; exact sz_of hl, fun o ho => q o _ _ (fresh_back (e2.trans e3) ho) ((e2.trans e3).trans (Ex.new ho)) upd_same
      (dpa_app (dpa_mono ov_base ds xs hd) (dpa_mono ((ov_later e2).trans (ov_grow (Ex.new ho))) es ys ht))⟩
theorem el_cat {xs ys : List V} (ha : EvL ta σ H xs) (hb : EvL tb σ H ys) (hl : xs.length + ys.length ≤ 100000) : EvL (tOp rCat ta tb) σ H (xs ++ ys) := fun H1 e Q q =>
  ha H1 e _ fun p H2 np e2 hp => hb H2 (e.trans e2) _ fun p' H3 np' e3 hp' => ⟨p, p', xs, ys, rfl, rfl, e3 _ _ hp, hp', sz_of hl, fun o ho => q o _ (fresh_back (e2.trans e3) ho) ((e2.trans e3).trans (Ex.new ho)) upd_same⟩
theorem el_rg2 {a b : Int} (ha : Ev ta σ H (.int a)) (hb : Ev tb σ H (.int b)) (ok : RgOk a b) : EvL (tLstRg (tRg2 ta tb)) σ H (rgV a b) := fun H1 e Q q =>
  ha H1 e _ fun H2 e2 => hb H2 (e.trans e2) _ fun H3 e3 => ⟨a, b, rfl, rfl, ok, fun p hp => q p _ (fresh_back (e2.trans e3) hp) ((e2.trans e3).trans (Ex.new hp)) upd_same⟩
theorem rc_max2 {i j : Int} : RC (fun xs H Q => ∃ i j, xs = [.int i, .int j] ∧ Q (.int (if j > i then j else i)) H) [.int i, .int j] H (.int (if j > i then j else i)) := fun H1 _ Q q => ⟨i, j, rfl, q H1 (Ex.refl H1)⟩
theorem rc_min2 {i j : Int} : RC (fun xs H Q => ∃ i j, xs = [.int i, .int j] ∧ Q (.int (if j < i then j else i)) H) [.int i, .int j] H (.int (if j < i then j else i)) := fun H1 _ Q q => ⟨i, j, rfl, q H1 (Ex.refl H1)⟩
end
theorem q_forRng3 {σ : L2.St} {H : Hp} {D : Ends} {tz : TS} {ta : TA} {j : Nat} {lo hi c : Int} {n : Nat} {tu : TS} (h : EvA ta σ H [.int lo, .int hi, .int c]) (hn : RgC lo hi c n) (Pv : Nat → L2.St → Hp → Prop) (h0 : ∀ H1, Ex H H1 → Pv 0 σ H1)
    (hs : ∀ (i : Nat) σ' H', i < n → Pv i σ' H' → tu { D with nx := Pv (i + 1), ct := Pv (i + 1), bk := tz D } (σ'.set j (some (.int (lo + (i : Int) * c)))) H') (hd : ∀ σ' H', Pv n σ' H' → tz D σ' H') : tSeq (tFor (iRng3 ta) (gName j) tu) tz D σ H :=
  h H (Ex.refl H) _ fun H1 e => ⟨lo, hi, c, n, rfl, hn, for_it walk_rangeC Pv (h0 H1 e) (fun _ _ _ _ _ => trivial) (fun i x σ' H1 H' hi p y => by
    obtain ⟨rfl, rfl⟩ := y
    exact hs i σ' _ hi p) hd⟩
/-- the part of a list from lo to hi -/
def rng {α : Type} (xs : List α) (lo hi : Nat) : List α := (xs.drop lo).take (hi - lo)
theorem rng_drop {α : Type} (xs : List α) (lo hi k : Nat) : (rng xs lo hi).drop k = rng xs (lo + k) hi := by
  unfold rng
  rw [List.drop_take, List.drop_drop, Nat.sub_sub]
theorem rng_nil {α : Type} (xs : List α) {lo hi : Nat} (h : hi ≤ lo) : rng xs lo hi = [] := by
  unfold rng
  rw [Nat.sub_eq_zero_of_le h, List.take_zero]
theorem rng_app {α : Type} (xs : List α) {a b c : Nat} (h1 : a ≤ b) (h2 : b ≤ c) : rng xs a b ++ rng xs b c = rng xs a c := by
  unfold rng
  have e : c - a = (b - a) + (c - b) := by omega
  rw [e, List.take_add, List.drop_drop, show a + (b - a) = b by omega]
theorem rng_len {α : Type} (xs : List α) {lo hi : Nat} (h1 : lo ≤ hi) (h2 : hi ≤ xs.length) : (rng xs lo hi).length = hi - lo := by
  unfold rng
  rw [List.length_take, List.length_drop]
  omega
theorem rng_all {α : Type} (xs : List α) (lo : Nat) : rng xs lo xs.length = xs.drop lo := by
  unfold rng
  rw [← List.length_drop, List.take_length]
theorem cutA_rng {α : Type} (xs : List α) {lo hi : Nat} (h : lo ≤ xs.length) : cutA xs (some (lo : Int)) (some (hi : Int)) = rng xs lo (min hi xs.length) := by
  unfold cutA rng
  rw [HT.sIx_nat, HT.sIx_nat, Nat.min_eq_left h]
theorem Sds.rng {n : Nat} {ds : List PyData} (h : Sds n ds) (a b : Nat) : Sds n (Ap.rng ds a b) := (h.drop _).take _
section
variable {σ : L2.St} {H : Hp} {ta : TE} {p : Addr}
theorem et_isY (h : Ev ta σ H .non) : EvT (tTest (tOp (fun x y H Q => y = .non ∧ Q (.bl (decide (x = .non))) H) ta (tC .non))) σ H true := et_test (ev_is (ev_op h ev_c (fun G _ _ q => ⟨rfl, q G (Ex.refl G)⟩)) (by rfl))
theorem et_isR (h : Ev ta σ H (.ref p)) : EvT (tTest (tOp (fun x y H Q => y = .non ∧ Q (.bl (decide (x = .non))) H) ta (tC .non))) σ H false := et_test (ev_is (v := .bl (decide (V.ref p = .non))) (ev_op h ev_c (fun G _ _ q => ⟨rfl, q G (Ex.refl G)⟩)) (by rw [decide_eq_false (fun h => nomatch h)]))
theorem et_notY (h : Ev ta σ H .non) : EvT (tTest (tOp (fun x y H Q => y = .non ∧ Q (.bl (!decide (x = .non))) H) ta (tC .non))) σ H false := et_test (ev_is (ev_op h ev_c (fun G _ _ q => ⟨rfl, q G (Ex.refl G)⟩)) (by rfl))
theorem et_notR (h : Ev ta σ H (.ref p)) : EvT (tTest (tOp (fun x y H Q => y = .non ∧ Q (.bl (!decide (x = .non))) H) ta (tC .non))) σ H true := et_test (ev_is (v := .bl (!decide (V.ref p = .non))) (ev_op h ev_c (fun G _ _ q => ⟨rfl, q G (Ex.refl G)⟩)) (by rw [decide_eq_false (fun h => nomatch h)]; rfl))
end
theorem kit_own {K : PySem.W.Frag} {t : Value} {B : Addr} (hd : PySem.W.hasDictIn K B = true) (ht : PySem.W.typeIn K (.ref B) = some (.type "type")) (hs : PySem.W.subIn K t (.ref B) = some true) : PySem.W.kitOne K t (.ref B) = some true := by
  obtain ⟨cd, hc, _⟩ := PySem.W.any_some hd
  unfold PySem.W.kitOne
  split
  · rfl
  · show (if ((PySem.W.clsIn K B).isSome && PySem.W.typeIn K (.ref B) == some (.type "type")) = true then PySem.W.subIn K t (.ref B) else none) = some true
    rw [hc, ht, if_pos (by rfl)]
    exact hs
theorem kit_blt {K : PySem.W.Frag} {t : Value} {n : String} (hm : PySem.W.kitMeta n = true) (hs : PySem.W.subIn K t (.type n) = some true) : PySem.W.kitOne K t (.type n) = some true := by
  unfold PySem.W.kitOne
  split
  · rfl
  · show (if PySem.W.kitMeta n = true then PySem.W.subIn K t (.type n) else none) = some true
    rw [if_pos hm]
    exact hs
theorem err_mk {K : PySem.W.Frag} {h : Heap} {mg : Str → Option Value} {x y : Str} {C B : Addr} (X : K.In h) (G : h.Ns mainGlobals mg) (a : PySem.W.nsIn K mainGlobals x = some (some (.ref C))) (b : PySem.W.nsIn K mainGlobals y = some (some (.ref B))) (kp : PySem.W.keepIn K (.ref C) = true)
    (ex : PySem.W.excIn K C [.type "ValueError", .type "Exception", .type "BaseException", .type "object"] "ValueError.__new__" = true) (bs : PySem.W.subIn K (.ref C) (.type "BaseException") = some true) (ty : PySem.W.typeIn K (.ref C) = some (.type "type")) (ss : PySem.W.subIn K (.ref C) (.ref C) = some true)
    (hg : PySem.W.findIn K (.ref C) "__getattribute__" = some (some (.builtin "BaseException.__getattribute__"))) (hk : PySem.W.findIn K (.ref C) "__getattr__" = some none) (hd : PySem.W.hasDictIn K C = true) (ha : PySem.W.findIn K (.ref C) "__class__" = some (some (.builtin "object.__class__")))
    (hn : PySem.W.specialIn K (.builtin "object.__class__") "__get__" = some (some (.builtin "getset_descriptor.__get__"))) (ht : PySem.W.takesIn K (.builtin "object.__class__") = some true) (hm : PySem.W.mroIn K C (.type "object") = some true)
    (dB : PySem.W.hasDictIn K B = true) (tB : PySem.W.typeIn K (.ref B) = some (.type "type")) (sb : PySem.W.subIn K (.ref C) (.ref B) = some true) (sv : PySem.W.subIn K (.ref C) (.type "ValueError") = some true) : Err K mg x C B ∧ mg y = some (.ref B) :=
  ⟨⟨PySem.W.mg_of X G a, kp, ex, bs, ty, PySem.W.exm_ref bs hd ty ss, ⟨hg, hk, bs, hd, ha, hn, ht, hm⟩, kit_own dB tB sb, kit_blt (by decide +kernel) sv⟩, PySem.W.mg_of X G b⟩
end Ap

set_option Elab.async false
set_option linter.all false
set_option maxRecDepth 100000
namespace Ap
open PySem PySem.Spec PyProof.Rows L2 Evl
section
variable {K : PySem.W.Frag} {σ : L2.St} {H H' : Hp} {ta tb tc te : TE} {t u : TT} {x y z v w : V}
theorem et_orF (h1 : EvT t σ H false) (h2 : EvT u σ H false) : EvT (tOr t u) σ H false := et_or (a := false) (b := false) h1 (fun _ => h2)
theorem et_orL (h1 : EvT t σ H true) : EvT (tOr t u) σ H true := fun H1 e Q q => h1 H1 e _ fun H2 e2 => (q H2 e2 : Q true H2)
theorem et_orR (h1 : EvT t σ H false) (h2 : EvT u σ H true) : EvT (tOr t u) σ H true := et_or (a := false) (b := true) h1 (fun _ => h2)
theorem et_andT (h1 : EvT t σ H true) (h2 : EvT u σ H true) : EvT (tAnd t u) σ H true := et_and (a := true) (b := true) h1 (fun _ => h2)
theorem et_andL (h1 : EvT t σ H false) : EvT (tAnd t u) σ H false := fun H1 e Q q => h1 H1 e _ fun H2 e2 => (q H2 e2 : Q false H2)
theorem et_andR (h1 : EvT t σ H true) (h2 : EvT u σ H false) : EvT (tAnd t u) σ H false := et_and (a := true) (b := false) h1 (fun _ => h2)
theorem et_nt (h : EvT t σ H true) : EvT (tNot t) σ H false := et_not h
theorem et_nf (h : EvT t σ H false) : EvT (tNot t) σ H true := et_not h
theorem ev_andT (h1 : Ev ta σ H (.bl true)) (h2 : Ev tb σ H (.bl true)) : Ev (tAndV ta tb) σ H (.bl true) := ev_andV (a := true) (b := true) h1 (fun _ => h2)
theorem ev_andL (h1 : Ev ta σ H (.bl false)) : Ev (tAndV ta tb) σ H (.bl false) := fun H1 e Q q => h1 H1 e _ fun H2 e2 => ⟨false, rfl, (q H2 e2 : Q (.bl false) H2)⟩
theorem ev_andR {b : Bool} (h1 : Ev ta σ H (.bl true)) (h2 : Ev tb σ H (.bl b)) : Ev (tAndV ta tb) σ H (.bl b) := by
  have h := ev_andV (a := true) (b := b) h1 (fun _ => h2)
  rwa [Bool.true_and] at h
theorem ev_orF (h1 : Ev ta σ H (.bl false)) (h2 : Ev tb σ H (.bl false)) : Ev (tOrV ta tb) σ H (.bl false) := ev_orV (a := false) (b := false) h1 (fun _ => h2)
theorem ev_nt (h : Ev ta σ H (.bl true)) : Ev (tNotV ta) σ H (.bl false) := ev_notV h
theorem ev_nf (h : Ev ta σ H (.bl false)) : Ev (tNotV ta) σ H (.bl true) := ev_notV h
theorem rc_isiI : RC (rIsi K) [.int x', .ty "int"] H (.bl true) := rc_isi (X := "int") (fun _ => .base (.int _)) (by decide +kernel)
theorem rc_isiIB : RC (rIsi K) [.int x', .ty "bool"] H (.bl false) := rc_isi (X := "int") (fun _ => .base (.int _)) (by decide +kernel)
theorem rc_isiB : RC (rIsi K) [.bl x', .ty "bool"] H (.bl true) := rc_isi (X := "bool") (fun _ => .base (.bl _)) (by decide +kernel)
theorem rc_isiBI : RC (rIsi K) [.bl x', .ty "int"] H (.bl true) := rc_isi (X := "bool") (fun _ => .base (.bl _)) (by decide +kernel)
theorem rv_eqI {i j : Int} : RV rEq (.int i) (.int j) H (.bl (decide (i = j))) := by
  have h := rv_eq (x := .int i) (y := .int j) (H := H) rfl
  have e : decide (V.int i = V.int j) = decide (i = j) := by
    by_cases q : i = j
    · rw [decide_eq_true q, decide_eq_true (by rw [q])]
    · rw [decide_eq_false q, decide_eq_false (fun h => q (V.int.inj h))]
  rwa [e] at h
theorem rv_neI {i j : Int} : RV rNe (.int i) (.int j) H (.bl (!decide (i = j))) := by
  have h := rv_ne (x := .int i) (y := .int j) (H := H) rfl
  have e : decide (V.int i = V.int j) = decide (i = j) := by
    by_cases q : i = j
    · rw [decide_eq_true q, decide_eq_true (by rw [q])]
    · rw [decide_eq_false q, decide_eq_false (fun h => q (V.int.inj h))]
  rwa [e] at h
end
end Ap

set_option Elab.async false
set_option linter.all false
set_option maxRecDepth 100000
set_option maxHeartbeats 4000000
namespace Ap
open PySem PySem.Spec PyProof.Rows L2 Evl
local macro_rules | `(tactic| walk_at "sq") => `(tactic| first | assumption | (refine Evl.ex_l (by assumption) ?_; walk_at "sq"))
local macro_rules | `(tactic| walk_at "st") => `(tactic| first | assumption | (refine Evl.ex_t (by assumption) ?_; walk_at "st"))
local macro_rules | `(tactic| walk_at "ev") => `(tactic| (repeat' (first
  | (with_reducible first
    | exact ev_c
    | refine' ev_var ?_
    | exact ea_nil
    | refine' ea_cons ?_ ?_
    | refine' ev_op ?_ ?_ ?_
    | refine' ev_chain ?_ ?_ ?_ ?_ ?_
    | refine' ev_un ?_ ?_
    | exact rv_I0
    | refine' rv_I ?_
    | refine' ev_cb ?_ ?_
    | refine' ev_call ?_ ?_
    | exact rc_int
    | exact rc_max2
    | exact rc_min2
    | exact ru_neg
    | exact rc_isiI
    | exact rc_isiIB
    | exact rc_isiB
    | exact rc_isiBI
    | exact rv_eqI
    | exact rv_neI
    | refine' et_test ?_
    | refine' et_B ?_)
  | ((with_reducible show _ = _); rfl)
  | ((with_reducible show SqL _ _ _ _); walk_at "sq")
  | ((with_reducible show SqT _ _ _ _); walk_at "st")
  | ((with_reducible show CPow _ _); exact ⟨by decide, by decide, by decide⟩)
  | ((with_reducible show CDiv _ _); first | exact ⟨by decide, by decide⟩ | exact ⟨by omega, by omega⟩)
  | ((with_reducible show CMul _ _); first | exact .inr (by decide) | exact .inl (by decide) | exact .inr ⟨by omega, by omega⟩ | exact .inl ⟨by omega, by omega⟩)
  | ((with_reducible show SpV (spDraw _) _ _ _); refine' spDrawI ?_ ?_)
  | ((with_reducible show SpV _ _ _ _); walk_at "sp")
  | ((with_reducible show RC _ _ _ _); refine' rc_len ?_)
  | ((with_reducible show RV _ _ _ _ _); first | exact rv_eq rfl | exact rv_ne rfl)
  | ((with_reducible show _ ≤ _); first | decide | omega)
  | ((with_reducible show _ < _); first | decide | omega)
  | decide)))
local macro_rules | `(tactic| walk_at "bo") => `(tactic| first | rfl | exact decide_eq_true (by omega) | exact decide_eq_false (by omega) | (rw [decide_eq_true (by omega)]; done) | (rw [decide_eq_false (by omega)]; done) | (simp; omega) | (simp; done))
local macro_rules | `(tactic| walk_at "tf") => `(tactic| first
  | ((with_reducible refine' et_orF ?_ ?_) <;> walk_at "tf")
  | ((with_reducible refine' et_andT ?_ ?_) <;> walk_at "tf")
  | ((with_reducible refine' et_nt ?_) <;> walk_at "tf")
  | ((with_reducible refine' et_nf ?_) <;> walk_at "tf")
  | (refine' et_is ?c ?d; (case c => walk_at "ev"); (case d => walk_at "bo")))
local macro_rules | `(tactic| walk_at "vt") => `(tactic| first
  | ((with_reducible refine' ev_andT ?_ ?_) <;> walk_at "vt")
  | ((with_reducible refine' ev_orF ?_ ?_) <;> walk_at "vt")
  | ((with_reducible refine' ev_nt ?_) <;> walk_at "vt")
  | ((with_reducible refine' ev_nf ?_) <;> walk_at "vt")
  | (refine' ev_is ?c ?d; (case c => walk_at "ev"); (case d => first | rfl | (refine congrArg V.bl ?_; walk_at "bo"))))

def topS (i : Nat) : Stmt := PySem.Challenge.pw_appendhall_k47_least_epoch_of_a_manager.main.body.getD i (.Pass ⟨0, 0, 0, 0⟩)
abbrev s_owner : Stmt := topS 1
abbrev N_owner : List Str := ["epoch", "managers"]
theorem sc_owner : FnScope N_owner ["epoch", "managers"] (defScope s_owner) := ⟨rfl, rfl, rfl, by decide +kernel, rfl, by decide +kernel, by decide +kernel⟩
abbrev s_next_epoch : Stmt := topS 2
abbrev N_next_epoch : List Str := ["seen", "number", "managers", "least"]
theorem sc_next_epoch : FnScope N_next_epoch ["seen", "number", "managers"] (defScope s_next_epoch) := ⟨rfl, rfl, rfl, by decide +kernel, rfl, by decide +kernel, by decide +kernel⟩
abbrev s__law_stream : Stmt := topS 4
abbrev N__law_stream : List Str := ["script", "many", "draws", "cell", "rest", "k", "mixed"]
theorem sc__law_stream : FnScope N__law_stream ["script", "many"] (defScope s__law_stream) := ⟨rfl, rfl, rfl, by decide +kernel, rfl, by decide +kernel, by decide +kernel⟩
abbrev s__law_draw : Stmt := topS 5
abbrev N__law_draw : List Str := ["draws", "k"]
theorem sc__law_draw : FnScope N__law_draw ["draws", "k"] (defScope s__law_draw) := ⟨rfl, rfl, rfl, by decide +kernel, rfl, by decide +kernel, by decide +kernel⟩
abbrev s__law_integer : Stmt := topS 6
abbrev N__law_integer : List Str := ["thing", "due"]
theorem sc__law_integer : FnScope N__law_integer ["thing", "due"] (defScope s__law_integer) := ⟨rfl, rfl, rfl, by decide +kernel, rfl, by decide +kernel, by decide +kernel⟩
abbrev s__law_is_least : Stmt := topS 7
abbrev N__law_is_least : List Str := ["epoch", "seen", "number", "many", "other"]
theorem sc__law_is_least : FnScope N__law_is_least ["epoch", "seen", "number", "many"] (defScope s__law_is_least) := ⟨rfl, rfl, rfl, by decide +kernel, rfl, by decide +kernel, by decide +kernel⟩
abbrev s_law : Stmt := topS 8
abbrev N_law : List Str := ["script", "draws", "many", "seen", "k", "epochs", "number", "epoch"]
theorem sc_law : FnScope N_law ["script"] (defScope s_law) := ⟨rfl, rfl, rfl, by decide +kernel, rfl, by decide +kernel, by decide +kernel⟩
section
variable {P : Program} {w : World} {K : PySem.W.Frag} {mg : Str → Option Value} {base : Heap}
structure Glo (mg : Str → Option Value) : Prop where
  len : mg "len" = none
  int : mg "int" = none
  range : mg "range" = none
  max : mg "max" = none
  min : mg "min" = none
  isinstance : mg "isinstance" = none
  bool : mg "bool" = none
theorem ok_draw {f : Addr} {fd : FuncData} {k : Nat} (F : Fun K "_law_draw" "_law_draw" s__law_draw f fd) (T : Glo mg) : FnOk P w K mg base CX0 (k + 1) f fd ["draws", "k"] (spDraw K) := by
  refine F.ok sc__law_draw (fun vs H Q E h => ?_) (fun cdv A outer s H vs Q E hr h => ?_)
  · obtain ⟨a, ds, k, rfl, _⟩ := h
    rfl
  · obtain ⟨a, ds, k, rfl, hS, q⟩ := h
    refine ⟨_, (pss_cons (ps_if (pt_cmpR op_lt (pv 1) (pe_callB call_len_seq (by rfl) T.len PySem.boot_len (pa_cons (pv 0) pa_nil)) (nomark _))
  (pss_one (ps_ret (pe_ix ix_list (pv 0) (pv 1) (fun _ _ => rfl))))
  pss_nil)
  (pss_one (ps_ret pe_int))), ?_⟩
    refine' q_when ?c (fun hb H1 e1 => ?_) (fun hb H1 e1 => ?_)
    case c => walk_at "ev"
    · have hb := of_decide_eq_true hb
      rw [List.length_map] at hb
      have hk : k < ds.length := by omega
      refine s_ret (v := .int (drw ds k)) (ev_op (ev_var rfl) (ev_var rfl) (rv_ixL (ex_l e1 hS) ?_)) fun H2 e2 => q _ (e1.trans e2)
      have e0 : (ds.map V.int)[k]? = some (.int (drw ds k)) := by
        rw [List.getElem?_map, List.getElem?_eq_getElem hk]
        unfold drw
        rw [List.getD_eq_getElem?_getD, List.getElem?_eq_getElem hk]
        rfl
      exact atI_nat e0
    · have hb := of_decide_eq_false hb
      rw [List.length_map] at hb
      refine s_ret ev_c fun H2 e2 => ?_
      have e0 : drw ds k = 0 := by
        unfold drw
        rw [List.getD_eq_getElem?_getD, List.getElem?_eq_none (by omega)]
        rfl
      rw [← e0]
      exact q _ (e1.trans e2)


/-! the draws' list: what stands between two turns -/
def DW (H0 : Hp) (l : Addr) (m : Nat) (H' : Hp) : Prop := H0 l = none ∧ Ex H0 H' ∧ ∃ ds : List Int, H' l = some (.lst (ds.map V.int)) ∧ Dr ds ∧ ds.length ≤ m
theorem pow18 : (10 : Int) ^ (18 : Int).toNat = 1000000000000000000 := by decide
theorem DW.app {H0 H1 H2 : Hp} {l : Addr} {m : Nat} {ds : List Int} {d : Int} (n : H0 l = none) (e : Ex H0 H1) (D : Dr ds) (hl : ds.length ≤ m) (h0 : 0 ≤ d) (h1 : d < 5040) (e2 : Ex H1 H2) : DW H0 l (m + 1) (upd H2 l (.lst (ds.map V.int ++ [V.int d]))) :=
  ⟨n, Ex.mut (e.trans e2) n, ds ++ [d], by rw [upd_same, List.map_append]; rfl, D.app h0 h1, by rw [List.length_append, List.length_singleton]; omega⟩
theorem ok_stream {f : Addr} {fd : FuncData} {k : Nat} (F : Fun K "_law_stream" "_law_stream" s__law_stream f fd) (T : Glo mg) : FnOk P w K mg base CX0 (k + 1) f fd ["script", "many"] (spStream K) := by
  refine F.ok sc__law_stream (fun vs H Q E h => ?_) (fun cdv A outer s H vs Q E hr h => ?_)
  · obtain ⟨a, ns, m, rfl, _⟩ := h
    rfl
  · obtain ⟨a, ns, m, rfl, hS, hn, hm, q⟩ := h
    refine ⟨_, (pss_cons (ps_set (i := 2) sc__law_stream.nd rfl (.inl rfl) (pe_lst pa_nil))
  (pss_cons (ps_for PassesOwn.never rfl (pi_list (pv 0)) (pg_name (i := 3) sc__law_stream.nd rfl (.inl rfl))
  (pss_cons (ps_if (pt_cmpR op_ge (pe_callB call_len_seq (by rfl) T.len PySem.boot_len (pa_cons (pv 2) pa_nil)) (pv 1) (nomark _))
  (pss_one ps_break)
  pss_nil)
  (pss_one (ps_if (pt_cmpR op_ge (pv 3) (pe_op op_pow pe_int pe_int) (nomark _))
  (pss_cons (ps_set (i := 4) sc__law_stream.nd rfl (.inl rfl) (pv 3))
  (pss_one (ps_for PassesOwn.never rfl (pi_range1 (by rfl) T.range (pa_cons pe_int pa_nil)) (pg_name (i := 5) sc__law_stream.nd rfl (.inl rfl))
  (pss_one (ps_if (pt_cmpR op_gt (pv 4) pe_int (nomark _))
  (pss_cons (ps_expr (pe_bm PySem.F.plainAttrs_list PySem.F.slot_list_append PySem.F.type_list_append mt_append (pv 2) (pa_cons (pe_op op_mod (pe_callTy call_int1 (by rfl) T.int (by decide +kernel) (pa_cons (pv 4) pa_nil)) pe_int) pa_nil)))
  (pss_one (ps_set (i := 4) sc__law_stream.nd rfl (.inl rfl) (pe_op op_fdiv (pv 4) pe_int))))
  pss_nil)))))
  (pss_cons (ps_set (i := 6) sc__law_stream.nd rfl (.inl rfl) (pe_op op_mod (pe_callTy call_int1 (by rfl) T.int (by decide +kernel) (pa_cons (pe_op op_add (pe_op op_add (pe_op op_mul (pv 3) pe_int) (pe_op op_mul (pe_callB call_len_seq (by rfl) T.len PySem.boot_len (pa_cons (pv 2) pa_nil)) pe_int)) pe_int) pa_nil)) pe_int))
  (pss_one (ps_for PassesOwn.never rfl (pi_range1 (by rfl) T.range (pa_cons pe_int pa_nil)) (pg_name (i := 5) sc__law_stream.nd rfl (.inl rfl))
  (pss_cons (ps_set (i := 6) sc__law_stream.nd rfl (.inl rfl) (pe_op op_mod (pe_callTy call_int1 (by rfl) T.int (by decide +kernel) (pa_cons (pe_op op_add (pe_op op_add (pe_op op_mul (pv 6) pe_int) (pe_op op_mul pe_int (pv 5))) pe_int) pa_nil)) pe_int))
  (pss_one (ps_expr (pe_bm PySem.F.plainAttrs_list PySem.F.slot_list_append PySem.F.type_list_append mt_append (pv 2) (pa_cons (pe_op op_mod (pe_callTy call_int1 (by rfl) T.int (by decide +kernel) (pa_cons (pe_op op_fdiv (pv 6) pe_int) pa_nil)) pe_int) pa_nil))))))))))))
  (pss_one (ps_ret (pv 2))))), ?_⟩
    refine' q_asgL (xs := []) (el_lst ea_nil (by decide)) (fun l H1 nl e1 h1 => ?_)
    have hS1 : SqL K H1 a (ns.map V.int) := ex_l e1 hS
    refine' q_forLn (a := a) (xs := ns.map V.int) (ev_var rfl) hS1 (fun i σ' H' => ∃ y3 y4 y5 y6, σ' = [some (.ref a), some (.int (m : Int)), some (.ref l), y3, y4, y5, y6] ∧ DW H l (m + 60) H') (fun H2 e2 => ?_) (fun i σ' H' _ p => ?_) (fun i x σ' H' hx p => ?_) (fun σ' H' p => ?_)
    · exact ⟨none, none, none, none, rfl, nl, e1.trans e2, [], e2 l _ h1, Dr.nil, Nat.zero_le _⟩
    · obtain ⟨_, _, _, _, _, _, e, _⟩ := p
      exact ex_l e hS
    · obtain ⟨y3, y4, y5, y6, rfl, n, e, ds, hd, D, hl⟩ := p
      obtain ⟨c, rfl⟩ : ∃ c, x = V.int c := by
        rw [List.getElem?_map] at hx
        cases h : ns[i]? with
        | none => rw [h] at hx; cases hx
        | some c => rw [h] at hx; exact ⟨c, (Option.some.inj hx).symm⟩
      have hL : SqL K H' l (ds.map V.int) := sq_of hd
      refine' q_when ?c (fun hb H2 e2 => ?_) (fun hb H2 e2 => ?_)
      case c => walk_at "ev"
      · -- break
        refine s_ret (ev_var rfl) fun H3 e3 => ?_
        exact q ds D hl l H3 n ((e.trans e2).trans e3) (e3 l _ (e2 l _ hd))
      · have hb := of_decide_eq_false hb
        rw [List.length_map] at hb
        have hlt : ds.length < m := by omega
        have hd2 := e2 l _ hd
        have E2 := e.trans e2
        refine' s_if ?c (fun hc H3 e3 => ?_) (fun hc H3 e3 => ?_)
        case c => walk_at "ev"
        · -- a great one
          refine' q_asg (ev_var rfl) (fun H4 e4 => ?_)
          refine' s_forR1 (n := 60) (ea_cons ev_c ea_nil) (by decide) (fun i σ' H' => ∃ (r : Int) (y5 : Option V), σ' = [some (.ref a), some (.int (m : Int)), some (.ref l), some (.int c), some (.int r), y5, y6] ∧ DW H l (m + i) H') (fun H5 e5 => ⟨c, _, rfl, n, ((E2.trans e3).trans e4).trans e5, ds, e5 l _ (e4 l _ (e3 l _ hd2)), D, by omega⟩) (fun i σ' H' hi p => ?_) (fun σ' H' p => ?_)
          · obtain ⟨r, z5, rfl, n', e', ds', hd', D', hl'⟩ := p
            have hL' : SqL K H' l (ds'.map V.int) := sq_of hd'
            refine' s_when ?c (fun hb H6 e6 => ?_) (fun hb H6 e6 => ?_)
            case c => walk_at "ev"
            · refine' q_app (l := l) (xs := ds'.map V.int) (v := .int (r % 5040)) (e6 l _ hd') (ev_var rfl) ?c (by rw [List.length_map]; omega) (fun H7 e7 => ?_)
              case c => walk_at "ev"
              refine' s_asg (v := .int (r / 5040)) ?c (fun H8 e8 => ?_)
              case c => exact ev_op (ev_var rfl) ev_c (rv_I ⟨by decide, by decide⟩)
              obtain ⟨_, k2, k3⟩ := DW.app n' (e'.trans e6) D' hl' (Int.emod_nonneg r (by decide)) (Int.emod_lt_of_pos r (by decide)) e7
              obtain ⟨ds8, k4, k5, k6⟩ := k3
              exact ⟨r / 5040, _, rfl, n', k2.trans e8, ds8, e8 l _ k4, k5, k6⟩
            · exact ⟨r, _, rfl, n', e'.trans e6, ds', e6 l _ hd', D', by omega⟩
          · obtain ⟨r, z5, rfl, w⟩ := p
            exact ⟨_, _, _, _, rfl, w⟩
        · -- a plain one
          refine' q_asg ?c (fun H4 e4 => ?_)
          case c =>
            have hL3 : SqL K H3 l (ds.map V.int) := sq_of (e3 l _ hd2)
            refine' ev_op (ev_cb (ea_cons (ev_op (ev_op (ev_op (ev_var rfl) ev_c (rv_I (.inr (by decide)))) (ev_op (ev_cb (ea_cons (ev_var rfl) ea_nil) (rc_len hL3)) ev_c (rv_I (.inr (by decide)))) rv_I0) ev_c rv_I0) ea_nil) rc_int) ev_c (rv_I (by decide))
          refine' s_forR1 (n := 4) (ea_cons ev_c ea_nil) (by decide) (fun i σ' H' => ∃ (r : Int) (y5 : Option V), σ' = [some (.ref a), some (.int (m : Int)), some (.ref l), some (.int c), y4, y5, some (.int r)] ∧ DW H l (m + i) H') (fun H5 e5 => ⟨_, _, rfl, n, ((E2.trans e3).trans e4).trans e5, ds, e5 l _ (e4 l _ (e3 l _ hd2)), D, by omega⟩) (fun i σ' H' hi p => ?_) (fun σ' H' p => ?_)
          · obtain ⟨r, z5, rfl, n', e', ds', hd', D', hl'⟩ := p
            refine' q_asg ?c (fun H6 e6 => ?_)
            case c =>
              refine' ev_op (ev_cb (ea_cons (ev_op (ev_op (ev_op (ev_var rfl) ev_c (rv_I (.inr (by decide)))) (ev_op ev_c (ev_var rfl) (rv_I (.inl (by decide)))) rv_I0) ev_c rv_I0) ea_nil) rc_int) ev_c (rv_I (by decide))
            refine' s_app (l := l) (xs := ds'.map V.int) (e6 l _ hd') (ev_var rfl) ?c (by rw [List.length_map]; omega) (fun H7 e7 => ?_)
            case c =>
              refine' ev_op (ev_cb (ea_cons (ev_op (ev_var rfl) ev_c (rv_I ⟨by decide, by decide⟩)) ea_nil) rc_int) ev_c (rv_I (by decide))
            exact ⟨_, _, rfl, DW.app n' (e'.trans e6) D' hl' (Int.emod_nonneg _ (by decide)) (Int.emod_lt_of_pos _ (by decide)) e7⟩
          · obtain ⟨r, z5, rfl, n', e', ds', hd', D', hl'⟩ := p
            exact ⟨_, _, _, _, rfl, n', e', ds', hd', D', by have : (4 : Int).toNat = 4 := rfl; omega⟩
    · obtain ⟨y3, y4, y5, y6, rfl, n, e, ds, hd, D, hl⟩ := p
      refine s_ret (ev_var rfl) fun H3 e3 => ?_
      exact q ds D hl l H3 n (e.trans e3) (e3 l _ hd)

def spOwner : Sp := fun vs H Q _ => ∃ e m : Int, vs = [.int e, .int m] ∧ 0 < m ∧ RetV (.int (e % m)) H Q
theorem ok_owner {f : Addr} {fd : FuncData} (F : Fun K "owner" "owner" s_owner f fd) : FnOk P w K mg base CX0 1 f fd ["epoch", "managers"] spOwner := by
  refine F.ok sc_owner (fun vs H Q E h => ?_) (fun cdv A outer s H vs Q E hr h => ?_)
  · obtain ⟨e, m, rfl, _⟩ := h
    rfl
  · obtain ⟨e, m, rfl, hm, q⟩ := h
    refine ⟨_, (pss_one (ps_ret (pe_op op_mod (pv 0) (pv 1)))), ?_⟩
    refine' s_ret ?c (fun H1 e1 => q H1 e1)
    case c => walk_at "ev"
theorem spOwner_v {H : Hp} {e m : Int} (hm : 0 < m) : SpV spOwner [.int e, .int m] H (.int (e % m)) := fun H1 _ Q q _ => ⟨e, m, rfl, hm, fun H2 e2 => q H2 e2⟩
def nxE (s n m : Int) : Int := s + 1 + (n - (s + 1)) % m
def spNext : Sp := fun vs H Q _ => ∃ s n m : Int, vs = [.int s, .int n, .int m] ∧ 0 < m ∧ RetV (.int (nxE s n m)) H Q
theorem ok_next {f : Addr} {fd : FuncData} (F : Fun K "next_epoch" "next_epoch" s_next_epoch f fd) : FnOk P w K mg base CX0 1 f fd ["seen", "number", "managers"] spNext := by
  refine F.ok sc_next_epoch (fun vs H Q E h => ?_) (fun cdv A outer s H vs Q E hr h => ?_)
  · obtain ⟨e, n, m, rfl, _⟩ := h
    rfl
  · obtain ⟨s, n, m, rfl, hm, q⟩ := h
    refine ⟨_, (pss_cons (ps_set (i := 3) sc_next_epoch.nd rfl (.inl rfl) (pe_op op_add (pv 0) pe_int))
  (pss_one (ps_ret (pe_op op_add (pv 3) (pe_op op_mod (pe_op op_sub (pv 1) (pv 3)) (pv 2)))))), ?_⟩
    refine' q_asg ?c (fun H1 e1 => ?_)
    case c => walk_at "ev"
    refine' s_ret (ev_is (v := .int (s + 1 + (n - (s + 1)) % m)) ?c rfl) (fun H2 e2 => q H2 (e1.trans e2))
    case c => walk_at "ev"
theorem spNext_v {H : Hp} {s n m : Int} (hm : 0 < m) : SpV spNext [.int s, .int n, .int m] H (.int (nxE s n m)) := fun H1 _ Q q _ => ⟨s, n, m, rfl, hm, fun H2 e2 => q H2 e2⟩
def spInt : Sp := fun vs H Q _ => ∃ x y : Int, vs = [.int x, .int y] ∧ RetV (.bl (decide (x = y))) H Q
theorem ok_integer {f : Addr} {fd : FuncData} (F : Fun K "_law_integer" "_law_integer" s__law_integer f fd) (T : Glo mg) : FnOk P w K mg base CX0 1 f fd ["thing", "due"] spInt := by
  refine F.ok sc__law_integer (fun vs H Q E h => ?_) (fun cdv A outer s H vs Q E hr h => ?_)
  · obtain ⟨x, y, rfl, _⟩ := h
    rfl
  · obtain ⟨x, y, rfl, q⟩ := h
    refine ⟨_, (pss_one (ps_ret (pe_and (pe_callB call_isi (by rfl) T.isinstance (by decide +kernel) (pa_cons (pv 0) (pa_cons (pe_bltn (v := .ty "int") (u := .type "int") (by rfl) T.int (by decide +kernel) rfl) pa_nil))) (pe_and (pe_not (pe_callB call_isi (by rfl) T.isinstance (by decide +kernel) (pa_cons (pv 0) (pa_cons (pe_bltn (v := .ty "bool") (u := .type "bool") (by rfl) T.bool (by decide +kernel) rfl) pa_nil)))) (pe_one (pe_cmpR op_eq (pv 0) (pv 1) (nomark _))))))), ?_⟩
    refine' s_ret ?c (fun H1 e1 => q H1 e1)
    case c =>
      refine' ev_andR ?c1 (ev_andR (ev_nf ?c2) ?c3)
      case c1 => walk_at "ev"
      case c2 => walk_at "ev"
      case c3 => walk_at "ev"
theorem spInt_v {H : Hp} {x y : Int} : SpV spInt [.int x, .int y] H (.bl (decide (x = y))) := fun H1 _ Q q _ => ⟨x, y, rfl, fun H2 e2 => q H2 e2⟩
local macro_rules | `(tactic| walk_at "sp") => `(tactic| first | exact spOwner_v (by omega) | exact spNext_v (by omega) | exact spInt_v)
def spLeast : Sp := fun vs H Q _ => ∃ e s n m : Int, vs = [.int e, .int s, .int n, .int m] ∧ 0 ≤ s ∧ s < 2 ^ 60 ∧ 0 < m ∧ m ≤ 6000 ∧ s < e ∧ e ≤ s + m ∧ e % m = n ∧ RetV (.bl true) H Q
theorem ne_mod {e o m s : Int} (hm : 0 < m) (h1 : s < o) (h2 : o < e) (h3 : e ≤ s + m) : ¬ o % m = e % m := fun h => by
  have a := Int.emod_add_mul_ediv o m
  have b := Int.emod_add_mul_ediv e m
  have c : e - o = m * (e / m - o / m) := by rw [Int.mul_sub]; omega
  have d : 0 < e / m - o / m := by
    rcases Int.lt_or_le 0 (e / m - o / m) with k | k
    · exact k
    · have := Int.mul_le_mul_of_nonneg_left k (Int.le_of_lt hm)
      rw [Int.mul_zero] at this
      omega
  have f := Int.mul_le_mul_of_nonneg_left (show 1 ≤ e / m - o / m from d) (Int.le_of_lt hm)
  rw [Int.mul_one] at f
  omega
theorem ok_least {f f1 f2 : Addr} {fd fd1 fd2 : FuncData} (F : Fun K "_law_is_least" "_law_is_least" s__law_is_least f fd) (D_owner : Df K mg "owner" s_owner ["epoch", "managers"] f1 fd1) (D__law_integer : Df K mg "_law_integer" s__law_integer ["thing", "due"] f2 fd2) (T : Glo mg) : FnOk P w K mg base CX0 2 f fd ["epoch", "seen", "number", "many"] spLeast := by
  have G_owner : FnOk P w K mg base CX0 1 f1 fd1 _ _ := ok_owner D_owner.F
  have G__law_integer : FnOk P w K mg base CX0 1 f2 fd2 _ _ := ok_integer D__law_integer.F T
  refine F.ok sc__law_is_least (fun vs H Q E h => ?_) (fun cdv A outer s H vs Q E hr h => ?_)
  · obtain ⟨e, s, n, m, rfl, _⟩ := h
    rfl
  · obtain ⟨e, s, n, m, rfl, hs0, hs1, hm0, hm1, he0, he1, rfl, q⟩ := h
    refine ⟨_, (pss_cons (ps_if (PW.pt (pw_or (pt_not (pt_val (pe_callB call_isi (by rfl) T.isinstance (by decide +kernel) (pa_cons (pv 0) (pa_cons (pe_bltn (v := .ty "int") (u := .type "int") (by rfl) T.int (by decide +kernel) rfl) pa_nil))))) (pw_or1 (pt_val (pe_callB call_isi (by rfl) T.isinstance (by decide +kernel) (pa_cons (pv 0) (pa_cons (pe_bltn (v := .ty "bool") (u := .type "bool") (by rfl) T.bool (by decide +kernel) rfl) pa_nil)))))))
  (pss_one (ps_ret pe_bl))
  pss_nil)
  (pss_cons (ps_if (PW.pt (pw_or (pt_not (pt_chain op_lt op_le (pv 1) (pv 0) (pe_op op_add (pv 1) (pv 3)))) (pw_or1 (pt_cmpR op_ne (pe_op op_mod (pe_callTy call_int1 (by rfl) T.int (by decide +kernel) (pa_cons (pv 0) pa_nil)) (pv 3)) (pv 2) (nomark _)))))
  (pss_one (ps_ret pe_bl))
  pss_nil)
  (pss_cons (ps_if (pt_not (pt_val (pe_call G__law_integer (hr.mono (by decide)) (by rfl) D__law_integer.g D__law_integer.F.kp D__law_integer.b .nil pass0 (pa_cons (pe_call G_owner (hr.mono (by decide)) (by rfl) D_owner.g D_owner.F.kp D_owner.b .nil pass0 (pa_cons (pv 0) (pa_cons (pv 3) pa_nil))) (pa_cons (pv 2) pa_nil)))))
  (pss_one (ps_ret pe_bl))
  pss_nil)
  (pss_cons (ps_for PassesOwn.never rfl (pi_range2 (by rfl) T.range (pa_cons (pe_callB (call_max2 rfl) (by rfl) T.max (by decide +kernel) (pa_cons (pe_op op_add (pv 1) pe_int) (pa_cons (pe_op op_sub (pv 0) pe_int) pa_nil))) (pa_cons (pv 0) pa_nil))) (pg_name (i := 4) sc__law_is_least.nd rfl (.inl rfl))
  (pss_one (ps_if (PW.pt (pw_or (pt_not (pt_val (pe_call G__law_integer (hr.mono (by decide)) (by rfl) D__law_integer.g D__law_integer.F.kp D__law_integer.b .nil pass0 (pa_cons (pe_call G_owner (hr.mono (by decide)) (by rfl) D_owner.g D_owner.F.kp D_owner.b .nil pass0 (pa_cons (pv 4) (pa_cons (pv 3) pa_nil))) (pa_cons (pe_op op_mod (pe_callTy call_int1 (by rfl) T.int (by decide +kernel) (pa_cons (pv 4) pa_nil)) (pv 3)) pa_nil))))) (pw_or1 (pt_cmpR op_eq (pe_op op_mod (pe_callTy call_int1 (by rfl) T.int (by decide +kernel) (pa_cons (pv 4) pa_nil)) (pv 3)) (pv 2) (nomark _)))))
  (pss_one (ps_ret pe_bl))
  pss_nil)))
  (pss_one (ps_ret pe_bl)))))), ?_⟩
    refine' q_when (b := false) ?c (fun hb => nomatch hb) (fun _ H1 e1 => ?_)
    case c => walk_at "tf"
    refine' q_when (b := false) ?c (fun hb => nomatch hb) (fun _ H2 e2 => ?_)
    case c =>
      refine' et_orF (et_nt (et_is ?c1 ?c2)) ?c3
      case c1 => walk_at "ev"
      case c2 => rw [decide_eq_true he0, decide_eq_true he1]; rfl
      case c3 => walk_at "tf"
    refine' q_when (b := false) ?c (fun hb => nomatch hb) (fun _ H3 e3 => ?_)
    case c => walk_at "tf"
    refine' q_forRngB (lo := if e - 9 > s + 1 then e - 9 else s + 1) (n := e) ?c (by split <;> omega) (fun i σ' H' => ∃ y4 : Option V, σ' = [some (.int e), some (.int s), some (.int (e % m)), some (.int m), y4] ∧ Ex H H') (fun H4 e4 => ⟨none, rfl, ((e1.trans e2).trans e3).trans e4⟩) (fun i σ' H' hi p => ?_) (fun σ' H' p => ?_)
    case c => walk_at "ev"
    · obtain ⟨y4, rfl, e4⟩ := p
      have ho : s + 1 ≤ (if e - 9 > s + 1 then e - 9 else s + 1) := by split <;> omega
      have ho2 : s + 1 ≤ (if e - 9 > s + 1 then e - 9 else s + 1) + (i : Int) := by omega
      clear ho
      generalize (if e - 9 > s + 1 then e - 9 else s + 1) + (i : Int) = o at *
      have hne := ne_mod (o := o) hm0 (show s < o by omega) hi he1
      refine' s_when (b := false) ?c (fun hb => nomatch hb) (fun _ H5 e5 => ⟨_, rfl, e4.trans e5⟩)
      case c => walk_at "tf"
    · obtain ⟨y4, rfl, e4⟩ := p
      refine' s_ret ?c (fun H5 e5 => q H5 (e4.trans e5))
      case c => walk_at "ev"
theorem nx_ok {s n m : Int} (hm : 0 < m) (h0 : 0 ≤ n) (h1 : n < m) : s < nxE s n m ∧ nxE s n m ≤ s + m ∧ nxE s n m % m = n := by
  unfold nxE
  have a := Int.emod_nonneg (n - (s + 1)) (show m ≠ 0 by omega)
  have b := Int.emod_lt_of_pos (n - (s + 1)) hm
  refine ⟨by omega, by omega, ?_⟩
  rw [Int.add_emod, Int.emod_emod, ← Int.add_emod, show s + 1 + (n - (s + 1)) = n by omega, Int.emod_eq_of_lt h0 h1]
theorem spLeast_v {H : Hp} {s n m : Int} (hs0 : 0 ≤ s) (hs1 : s < 2 ^ 60) (hm : 0 < m) (hm1 : m ≤ 6000) (h0 : 0 ≤ n) (h1 : n < m) : SpV spLeast [.int (nxE s n m), .int s, .int n, .int m] H (.bl true) := fun H1 _ Q q _ =>
  ⟨_, s, n, m, rfl, hs0, hs1, hm, hm1, (nx_ok hm h0 h1).1, (nx_ok hm h0 h1).2.1, (nx_ok hm h0 h1).2.2, fun H2 e2 => q H2 e2⟩
local macro_rules | `(tactic| walk_at "sp") => `(tactic| first | exact spOwner_v (by omega) | exact spNext_v (by omega) | exact spInt_v | exact spLeast_v (by omega) (by omega) (by omega) (by omega) (by omega) (by omega))
theorem nx_inj {s n n' m : Int} (hm : 0 < m) (h0 : 0 ≤ n) (h1 : n < m) (h0' : 0 ≤ n') (h1' : n' < m) (h : nxE s n m = nxE s n' m) : n = n' := by
  rw [← (nx_ok (s := s) hm h0 h1).2.2, h, (nx_ok (s := s) hm h0' h1').2.2]
theorem ok_law {f f1 f2 f3 f4 f5 f6 : Addr} {fd fd1 fd2 fd3 fd4 fd5 fd6 : FuncData} (F : Fun K "law" "law" s_law f fd) (D_owner : Df K mg "owner" s_owner ["epoch", "managers"] f1 fd1) (D_next_epoch : Df K mg "next_epoch" s_next_epoch ["seen", "number", "managers"] f2 fd2)
    (D__law_stream : Df K mg "_law_stream" s__law_stream ["script", "many"] f3 fd3) (D__law_draw : Df K mg "_law_draw" s__law_draw ["draws", "k"] f4 fd4) (D__law_integer : Df K mg "_law_integer" s__law_integer ["thing", "due"] f5 fd5) (D__law_is_least : Df K mg "_law_is_least" s__law_is_least ["epoch", "seen", "number", "many"] f6 fd6) (T : Glo mg) : FnOk P w K mg base CX0 3 f fd ["script"] (spLaw K) := by
  have G_next_epoch : FnOk P w K mg base CX0 1 f2 fd2 _ _ := ok_next D_next_epoch.F
  have G__law_stream : FnOk P w K mg base CX0 1 f3 fd3 _ _ := ok_stream D__law_stream.F T
  have G__law_draw : FnOk P w K mg base CX0 1 f4 fd4 _ _ := ok_draw D__law_draw.F T
  have G__law_integer : FnOk P w K mg base CX0 1 f5 fd5 _ _ := ok_integer D__law_integer.F T
  have G__law_is_least : FnOk P w K mg base CX0 2 f6 fd6 _ _ := ok_least D__law_is_least.F D_owner D__law_integer T
  refine F.ok sc_law (fun vs H Q E h => ?_) (fun cdv A outer s H vs Q E hr h => ?_)
  · obtain ⟨a, ns, rfl, _⟩ := h
    rfl
  · obtain ⟨a, ns, rfl, hS, hn, q⟩ := h
    refine ⟨_, (pss_cons (ps_set (i := 1) sc_law.nd rfl (.inl rfl) (pe_call G__law_stream (hr.mono (by decide)) (by rfl) D__law_stream.g D__law_stream.F.kp D__law_stream.b .nil pass0 (pa_cons (pv 0) (pa_cons pe_int pa_nil))))
  (pss_cons (ps_set (i := 2) sc_law.nd rfl (.inl rfl) (pe_op op_add pe_int (pe_op op_mod (pe_callTy call_int1 (by rfl) T.int (by decide +kernel) (pa_cons (pe_call G__law_draw (hr.mono (by decide)) (by rfl) D__law_draw.g D__law_draw.F.kp D__law_draw.b .nil pass0 (pa_cons (pv 1) (pa_cons pe_int pa_nil))) pa_nil)) pe_int)))
  (pss_cut (ps_if (pt_cmpR op_eq (pe_op op_mod (pe_callTy call_int1 (by rfl) T.int (by decide +kernel) (pa_cons (pe_op op_fdiv (pe_call G__law_draw (hr.mono (by decide)) (by rfl) D__law_draw.g D__law_draw.F.kp D__law_draw.b .nil pass0 (pa_cons (pv 1) (pa_cons pe_int pa_nil))) pe_int) pa_nil)) pe_int) pe_int (nomark _))
  (pss_one (ps_set (i := 2) sc_law.nd rfl (.inl rfl) (pe_op op_add pe_int (pe_call G__law_draw (hr.mono (by decide)) (by rfl) D__law_draw.g D__law_draw.F.kp D__law_draw.b .nil pass0 (pa_cons (pv 1) (pa_cons pe_int pa_nil))))))
  pss_nil)
  (pss_cons (ps_set (i := 3) sc_law.nd rfl (.inl rfl) (pe_op op_mod (pe_callTy call_int1 (by rfl) T.int (by decide +kernel) (pa_cons (pe_call G__law_draw (hr.mono (by decide)) (by rfl) D__law_draw.g D__law_draw.F.kp D__law_draw.b .nil pass0 (pa_cons (pv 1) (pa_cons pe_int pa_nil))) pa_nil)) pe_int))
  (pss_cut (ps_if (pt_cmpR op_eq (pe_op op_mod (pe_callTy call_int1 (by rfl) T.int (by decide +kernel) (pa_cons (pe_op op_fdiv (pe_call G__law_draw (hr.mono (by decide)) (by rfl) D__law_draw.g D__law_draw.F.kp D__law_draw.b .nil pass0 (pa_cons (pv 1) (pa_cons pe_int pa_nil))) pe_int) pa_nil)) pe_int) pe_int (nomark _))
  (pss_cons (ps_for PassesOwn.never rfl (pi_range1 (by rfl) T.range (pa_cons pe_int pa_nil)) (pg_name (i := 4) sc_law.nd rfl (.inl rfl))
  (pss_one (ps_set (i := 3) sc_law.nd rfl (.inl rfl) (pe_op op_add (pe_op op_mul (pv 3) pe_int) (pe_call G__law_draw (hr.mono (by decide)) (by rfl) D__law_draw.g D__law_draw.F.kp D__law_draw.b .nil pass0 (pa_cons (pv 1) (pa_cons (pe_op op_add pe_int (pv 4)) pa_nil)))))))
  (pss_one (ps_set (i := 3) sc_law.nd rfl (.inl rfl) (pe_op op_mod (pe_callTy call_int1 (by rfl) T.int (by decide +kernel) (pa_cons (pv 3) pa_nil)) (pe_op op_pow pe_int pe_int)))))
  pss_nil)
  (pss_cons (ps_set (i := 5) sc_law.nd rfl (.inl rfl) (pe_lst pa_nil))
  (pss_cons (ps_for PassesOwn.never rfl (pi_range1 (by rfl) T.range (pa_cons (pe_callB (call_min2 rfl) (by rfl) T.min (by decide +kernel) (pa_cons (pv 2) (pa_cons pe_int pa_nil))) pa_nil)) (pg_name (i := 6) sc_law.nd rfl (.inl rfl))
  (pss_cons (ps_set (i := 7) sc_law.nd rfl (.inl rfl) (pe_call G_next_epoch (hr.mono (by decide)) (by rfl) D_next_epoch.g D_next_epoch.F.kp D_next_epoch.b .nil pass0 (pa_cons (pv 3) (pa_cons (pv 6) (pa_cons (pv 2) pa_nil)))))
  (pss_cons (ps_if (PW.pt (pw_or (pt_not (pt_val (pe_call G__law_is_least (hr.mono (by decide)) (by rfl) D__law_is_least.g D__law_is_least.F.kp D__law_is_least.b .nil pass0 (pa_cons (pv 7) (pa_cons (pv 3) (pa_cons (pv 6) (pa_cons (pv 2) pa_nil))))))) (pw_or1 (pt_cmpR (show OpR _ _ (rIn K false) from op_in_seq) (pv 7) (pv 5) (by rfl)))))
  (pss_one (ps_ret pe_bl))
  pss_nil)
  (pss_one (ps_expr (pe_bm PySem.F.plainAttrs_list PySem.F.slot_list_append PySem.F.type_list_append mt_append (pv 5) (pa_cons (pv 7) pa_nil)))))))
  (pss_cons (ps_for PassesOwn.never rfl (pi_range1 (by rfl) T.range (pa_cons pe_int pa_nil)) (pg_name (i := 4) sc_law.nd rfl (.inl rfl))
  (pss_cons (ps_set (i := 6) sc_law.nd rfl (.inl rfl) (pe_op op_mod (pe_callTy call_int1 (by rfl) T.int (by decide +kernel) (pa_cons (pe_call G__law_draw (hr.mono (by decide)) (by rfl) D__law_draw.g D__law_draw.F.kp D__law_draw.b .nil pass0 (pa_cons (pv 1) (pa_cons (pe_op op_add pe_int (pv 4)) pa_nil))) pa_nil)) (pv 2)))
  (pss_cons (ps_set (i := 7) sc_law.nd rfl (.inl rfl) (pe_call G_next_epoch (hr.mono (by decide)) (by rfl) D_next_epoch.g D_next_epoch.F.kp D_next_epoch.b .nil pass0 (pa_cons (pv 3) (pa_cons (pv 6) (pa_cons (pv 2) pa_nil)))))
  (pss_cons (ps_if (pt_not (pt_val (pe_call G__law_is_least (hr.mono (by decide)) (by rfl) D__law_is_least.g D__law_is_least.F.kp D__law_is_least.b .nil pass0 (pa_cons (pv 7) (pa_cons (pv 3) (pa_cons (pv 6) (pa_cons (pv 2) pa_nil)))))))
  (pss_one (ps_ret pe_bl))
  pss_nil)
  (pss_cons (ps_if (pt_not (pt_val (pe_call G__law_integer (hr.mono (by decide)) (by rfl) D__law_integer.g D__law_integer.F.kp D__law_integer.b .nil pass0 (pa_cons (pe_call G_next_epoch (hr.mono (by decide)) (by rfl) D_next_epoch.g D_next_epoch.F.kp D_next_epoch.b .nil pass0 (pa_cons (pv 3) (pa_cons (pv 6) (pa_cons (pv 2) pa_nil)))) (pa_cons (pv 7) pa_nil)))))
  (pss_one (ps_ret pe_bl))
  pss_nil)
  (pss_one (ps_set (i := 3) sc_law.nd rfl (.inl rfl) (pv 7))))))))
  (pss_one (ps_ret pe_bl)))))))))), ?_⟩
    refine q_stream rfl hS hn (by decide) fun ds l H1 hD hdl nl e1 hl => ?_
    have hL1 : SqL K H1 l (ds.map V.int) := sq_of hl
    refine' q_asg ?c (fun H2 e2 => ?_)
    case c => walk_at "ev"
    have hL2 := ex_l e2 hL1
    refine' q_cut (M := fun σ' H' => ∃ m : Int, σ' = [some (.ref a), some (.ref l), some (.int m), none, none, none, none, none] ∧ 1 ≤ m ∧ m ≤ 5040 ∧ Ex H2 H') ?cut (fun σ' H3 p => ?_)
    case cut =>
      refine' s_when ?w2 (fun _ H3 e3 => ?_) (fun _ H3 e3 => ?_)
      case w2 => walk_at "ev"
      · have d1 := drI_ok hD 1
        refine' s_asg (v := .int (1 + drI ds 1)) ?w3 (fun H4 e4 => ⟨_, rfl, by omega, by omega, e3.trans e4⟩)
        case w3 => walk_at "ev"
      · have d0 := drI_ok hD 0
        exact ⟨_, rfl, by omega, by omega, e3⟩
    obtain ⟨m, rfl, hm1, hm2, e3⟩ := p
    refine' q_asg ?c (fun H4 e4 => ?_)
    case c => walk_at "ev"
    have d2 := drI_ok hD 2
    have hL4 := ex_l e4 (ex_l e3 hL2)
    refine' q_cut (M := fun σ' H' => ∃ (s : Int) (y4 : Option V), σ' = [some (.ref a), some (.ref l), some (.int m), some (.int s), y4, none, none, none] ∧ 0 ≤ s ∧ s < 10 ^ 17 ∧ Ex H4 H') ?cut (fun σ' H5 p => ?_)
    case cut =>
      refine' s_when ?w2 (fun _ H5 e5 => ?_) (fun _ H5 e5 => ?_)
      case w2 => walk_at "ev"
      · refine' q_forR1 (n := 5) (ea_cons ev_c ea_nil) (by decide) (fun i σ' H' => ∃ (s : Int) (y4 : Option V), σ' = [some (.ref a), some (.ref l), some (.int m), some (.int s), y4, none, none, none] ∧ Ex H5 H') (fun H6 e6 => ⟨_, none, rfl, e6⟩) (fun i σ' H' hi p => ?_) (fun σ' H' p => ?_)
        · obtain ⟨s, y4, rfl, e6⟩ := p
          refine' s_asg ?w3 (fun H7 e7 => ?_)
          case w3 => walk_at "ev"
          exact ⟨_, _, rfl, e6.trans e7⟩
        · obtain ⟨s, y4, rfl, e6⟩ := p
          refine' s_asg ?w3 (fun H7 e7 => ?_)
          case w3 => walk_at "ev"
          exact ⟨_, _, rfl, Int.emod_nonneg _ (by decide), Int.emod_lt_of_pos _ (by decide), (e5.trans e6).trans e7⟩
      · exact ⟨_, none, rfl, by omega, by omega, e5⟩
    obtain ⟨s, y4, rfl, hs0, hs1, e5⟩ := p
    have hL5 := ex_l e5 hL4
    refine' q_asgL (xs := []) (el_lst ea_nil (by decide)) (fun le H6 nle e6 h6 => ?_)
    have hL6 := ex_l e6 hL5
    have hmin : (if (9 : Int) < m then (9 : Int) else m) ≤ m ∧ (if (9 : Int) < m then (9 : Int) else m) ≤ 9 ∧ 0 ≤ (if (9 : Int) < m then (9 : Int) else m) := by split <;> omega
    refine' q_forR1 (n := if (9 : Int) < m then (9 : Int) else m) ?c (by omega) (fun i σ' H' => ∃ (y6 y7 : Option V), σ' = [some (.ref a), some (.ref l), some (.int m), some (.int s), y4, some (.ref le), y6, y7] ∧ Ex H5 H' ∧ H' le = some (.lst ((List.range i).map fun j : Nat => V.int (nxE s (j : Int) m)))) (fun H7 e7 => ⟨none, none, rfl, e6.trans e7, e7 _ _ h6⟩) (fun i σ' H' hi p => ?_) (fun σ' H' p => ?_)
    case c => walk_at "ev"
    · obtain ⟨y6, y7, rfl, e7, h7⟩ := p
      refine' q_asg ?c (fun H8 e8 => ?_)
      case c => walk_at "ev"
      have h8 := e8 _ _ h7
      have hfl : ((List.range i).map fun j : Nat => V.int (nxE s (j : Int) m)).all flatV = true := by
        rw [List.all_map]
        exact List.all_eq_true.mpr fun _ _ => rfl
      have hni : inV (V.int (nxE s (i : Int) m)) ((List.range i).map fun j : Nat => V.int (nxE s (j : Int) m)) = false := by
        unfold inV
        rw [List.any_map, List.any_eq_false]
        intro j hj
        have hj := List.mem_range.mp hj
        show ¬ ((nxE s (j : Int) m) == (nxE s (i : Int) m)) = true
        rw [beq_iff_eq]
        intro h
        have := nx_inj (by omega) (by omega) (by omega) (by omega) (by omega) h
        omega
      refine' q_when (b := false) ?c (fun hb => nomatch hb) (fun _ H9 e9 => ?_)
      case c =>
        refine' et_orF ?c1 ?c2
        case c1 => walk_at "tf"
        case c2 => exact et_test (ev_is (ev_op (ev_var rfl) (ev_var rfl) (rv_isL (K := K) (sq_of h8) rfl hfl)) (by rw [hni]))
      refine' s_app (l := le) (e9 _ _ h8) (ev_var rfl) (ev_var rfl) (by rw [List.length_map, List.length_range]; omega) (fun H10 e10 => ?_)
      refine ⟨_, _, rfl, Ex.mut (((e7.trans e8).trans e9).trans e10) nle, ?_⟩
      rw [upd_same, List.range_succ, List.map_append]
      rfl
    · obtain ⟨y6, y7, rfl, e7, h7⟩ := p
      have hL7 := ex_l e7 hL5
      refine' q_forR1 (n := 12) (ea_cons ev_c ea_nil) (by decide) (fun i σ' H8 => ∃ (s : Int) (y4 y6 y7 : Option V), σ' = [some (.ref a), some (.ref l), some (.int m), some (.int s), y4, some (.ref le), y6, y7] ∧ 0 ≤ s ∧ s < 10 ^ 17 + 6000 * (i : Int) ∧ Ex H' H8) (fun H8 e8 => ⟨s, _, _, _, rfl, hs0, by omega, e8⟩) (fun i σ' H8 hi p => ?_) (fun σ' H8 p => ?_)
      · obtain ⟨s, y4, y6, y7, rfl, hs0, hs1, e8⟩ := p
        have hL8 := ex_l e8 hL7
        refine' q_asg ?c (fun H9 e9 => ?_)
        case c => walk_at "ev"
        have k0 := Int.emod_nonneg (drI ds (8 + (i : Int))) (show m ≠ 0 by omega)
        have k1 := Int.emod_lt_of_pos (drI ds (8 + (i : Int))) (show 0 < m by omega)
        generalize drI ds (8 + (i : Int)) % m = n at *
        have hk := nx_ok (s := s) (show 0 < m by omega) k0 k1
        refine' q_asg ?c (fun H10 e10 => ?_)
        case c => walk_at "ev"
        refine' q_when (b := false) ?c (fun hb => nomatch hb) (fun _ H11 e11 => ?_)
        case c => walk_at "tf"
        refine' q_when (b := false) ?c (fun hb => nomatch hb) (fun _ H12 e12 => ?_)
        case c => walk_at "tf"
        refine' s_asg ?c (fun H13 e13 => ?_)
        case c => walk_at "ev"
        exact ⟨nxE s n m, _, _, _, rfl, by omega, by omega, ((((e8.trans e9).trans e10).trans e11).trans e12).trans e13⟩
      · refine s_ret (v := .bl true) ev_c fun H9 e9 => q H9
end
end Ap
open PySem PySem.W PyProof.Rows
set_option maxHeartbeats 0 in
theorem PySem.Challenge.cw_appendhall_k47_least_epoch_of_a_manager_holds : PySem.Challenge.rw_appendhall_k47_least_epoch_of_a_manager.Holds := by
  w_on; o_law; k_head; (case hw => w_witness2)
  k_fill
  refine L2.walk_of (l := PySem.Challenge.rw_appendhall_k47_least_epoch_of_a_manager) (n := 63) (k := 3) (x := "script") (CX := fun _ => L2.CX0) (sp := fun w => Ap.spLaw _) rfl (by decide) rfl ⟨rfl, by decide, by decide⟩ (fun w h Y => PySem.W.kIn_of Y) ?F (fun _ _ a ns hl _ hS => ⟨a, ns, rfl, hS, hl, fun _ => rfl⟩) (fun _ _ _ _ _ h => h)
  case F =>
    intro w mg fa h KX G hmg
    obtain ⟨f_owner, fd_owner, D_owner⟩ : ∃ f fd, Ap.Df _ mg "owner" Ap.s_owner ["epoch", "managers"] f fd := by
      refine' Ap.df_mk KX G ?a ?l ?c ?k ?b
      (case a => k_is); (case l => k_is); (case c => k_is); (case k => k_is); (case b => exact fun _ _ _ _ _ _ us hl => match us, hl with | [_, _], _ => rfl)
    obtain ⟨f_next_epoch, fd_next_epoch, D_next_epoch⟩ : ∃ f fd, Ap.Df _ mg "next_epoch" Ap.s_next_epoch ["seen", "number", "managers"] f fd := by
      refine' Ap.df_mk KX G ?a ?l ?c ?k ?b
      (case a => k_is); (case l => k_is); (case c => k_is); (case k => k_is); (case b => exact fun _ _ _ _ _ _ us hl => match us, hl with | [_, _, _], _ => rfl)
    obtain ⟨f__law_stream, fd__law_stream, D__law_stream⟩ : ∃ f fd, Ap.Df _ mg "_law_stream" Ap.s__law_stream ["script", "many"] f fd := by
      refine' Ap.df_mk KX G ?a ?l ?c ?k ?b
      (case a => k_is); (case l => k_is); (case c => k_is); (case k => k_is); (case b => exact fun _ _ _ _ _ _ us hl => match us, hl with | [_, _], _ => rfl)
    obtain ⟨f__law_draw, fd__law_draw, D__law_draw⟩ : ∃ f fd, Ap.Df _ mg "_law_draw" Ap.s__law_draw ["draws", "k"] f fd := by
      refine' Ap.df_mk KX G ?a ?l ?c ?k ?b
      (case a => k_is); (case l => k_is); (case c => k_is); (case k => k_is); (case b => exact fun _ _ _ _ _ _ us hl => match us, hl with | [_, _], _ => rfl)
    obtain ⟨f__law_integer, fd__law_integer, D__law_integer⟩ : ∃ f fd, Ap.Df _ mg "_law_integer" Ap.s__law_integer ["thing", "due"] f fd := by
      refine' Ap.df_mk KX G ?a ?l ?c ?k ?b
      (case a => k_is); (case l => k_is); (case c => k_is); (case k => k_is); (case b => exact fun _ _ _ _ _ _ us hl => match us, hl with | [_, _], _ => rfl)
    obtain ⟨f__law_is_least, fd__law_is_least, D__law_is_least⟩ : ∃ f fd, Ap.Df _ mg "_law_is_least" Ap.s__law_is_least ["epoch", "seen", "number", "many"] f fd := by
      refine' Ap.df_mk KX G ?a ?l ?c ?k ?b
      (case a => k_is); (case l => k_is); (case c => k_is); (case k => k_is); (case b => exact fun _ _ _ _ _ _ us hl => match us, hl with | [_, _, _, _], _ => rfl)
    obtain ⟨fd, hb, F⟩ : ∃ fd, (∀ (s : Shared) (v : Value), BindsTo s fd ⟨[v], []⟩ [("script", v)]) ∧ L2.Fun _ "law" "law" Ap.s_law fa fd := by
      refine' Ap.law_mk KX G hmg ?a ?l ?c ?k ?b
      (case a => k_is); (case l => k_is); (case c => k_is); (case k => k_is); (case b => exact fun _ _ _ _ _ _ _ _ => .of_eq rfl)
    refine ⟨fd, hb, fun base _ _ => Ap.ok_law F D_owner D_next_epoch D__law_stream D__law_draw D__law_integer D__law_is_least ?T⟩
    refine' ⟨PySem.W.mg_none_of KX G ?z0, PySem.W.mg_none_of KX G ?z1, PySem.W.mg_none_of KX G ?z2, PySem.W.mg_none_of KX G ?z3, PySem.W.mg_none_of KX G ?z4, PySem.W.mg_none_of KX G ?z5, PySem.W.mg_none_of KX G ?z6⟩
    (case z0 => k_is); (case z1 => k_is); (case z2 => k_is); (case z3 => k_is); (case z4 => k_is); (case z5 => k_is); (case z6 => k_is)
#print axioms PySem.Challenge.cw_appendhall_k47_least_epoch_of_a_manager_holds
