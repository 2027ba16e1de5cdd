import PyProof.Rows.All
import Wide.All
import OpenK.AllK
import Wide.FinOn
import HandS.ForMost
import HandS.Evl
import HandS.Walk
import HandS.SortKw
import HandS.DictComp
import HandS.IsInst
import HandS.ForExc
import HandS.TupAny
import HandS.Conv
import HandS.Property
import HandS.ExcIs
import HandS.Deep
import HandS.ClsMeth
import OpenK.KDescr
import HandS.TupLe
import PySem.Challenge.RW_appendhall_k20_values_of_logs
set_option Elab.async false
set_option linter.all false
set_option maxRecDepth 100000
namespace Ap
open PySem PySem.Spec PyProof.Rows L2 Evl

/-! ### more of what evaluates to what -/
section
variable {K : PySem.W.Frag} {σ : L2.St} {H H' : Hp} {ta tb tc te : TE} {t u : TT} {x y z v w : V} {r r' : R2}
theorem ev_chain {k m : Bool} (ha : Ev ta σ H x) (hb : Ev tb σ H y) (hr : RV r x y H (.bl k)) (hc : Ev tc σ H z) (hr' : RV r' y z H (.bl m)) : Ev (tChain r r' ta tb tc) σ H (.bl (k && m)) := fun H1 e Q q =>
  ha H1 e _ fun H2 e2 => hb H2 (e.trans e2) _ fun H3 e3 => hr H3 ((e.trans e2).trans e3) _ fun H4 e4 => ⟨k, rfl, by
    cases k with
    | true =>
      show tc σ H4 _
      exact hc H4 (((e.trans e2).trans e3).trans e4) _ fun H5 e5 => hr' H5 ((((e.trans e2).trans e3).trans e4).trans e5) Q fun H6 e6 => q H6 ((((e2.trans e3).trans e4).trans e5).trans e6)
    | false =>
      show Q (.bl false) H4
      exact q H4 ((e2.trans e3).trans e4)⟩
theorem rc_int {i : Int} : RC (fun xs H Q => (∃ i, xs = [.int i] ∧ Q (.int i) H) ∨ ∃ k, xs = [.bl k] ∧ Q (.int (if k then 1 else 0)) H) [.int i] H (.int i) := fun H1 _ _ q => Or.inl ⟨i, rfl, q H1 (Ex.refl H1)⟩
theorem rc_len {p : Addr} {xs : List V} (h : SqL K H p xs) : RC (fun xs H Q => ∃ p ys, xs = [.ref p] ∧ (SqL K H p ys ∨ SqT K H p ys) ∧ Q (.int ys.length) H) [.ref p] H (.int (xs.length : Int)) := fun H1 e _ q => ⟨p, xs, rfl, Or.inl (ex_l e h), q H1 (Ex.refl H1)⟩
theorem rc_lenT {p : Addr} {xs : List V} (h : SqT K H p xs) : RC (fun xs H Q => ∃ p ys, xs = [.ref p] ∧ (SqL K H p ys ∨ SqT K H p ys) ∧ Q (.int ys.length) H) [.ref p] H (.int (xs.length : Int)) := fun H1 e _ q => ⟨p, xs, rfl, Or.inr (ex_t e h), q H1 (Ex.refl H1)⟩
end


section
variable {K : PySem.W.Frag} {σ : L2.St} {H H' : Hp} {ta tb tc te td ty tv : TE} {t u : TT} {x y z v w : V} {D : Ends} {tz : TS}
theorem ev_dget {a : Addr} {kvs : List (Key × V)} {k : Key} (ha : Ev td σ H (.ref a)) (hk : Ev ty σ H (kV k)) (hr : Rd H a (.dK kvs)) (hv : valV kvs k = some v) : Ev (tDGet td ty) σ H v := fun H1 e Q q =>
  ha H1 e _ fun H2 e2 => hk H2 (e.trans e2) _ fun H3 e3 => ⟨a, v, rfl, .inl ⟨kvs, k, ex_rd ((e.trans e2).trans e3) hr, rfl, hv.symm⟩, q H3 (e2.trans e3)⟩
/-- isinstance(x, T) of a plain value -/
theorem rc_isi {x : V} {T X : String} {b : Bool} (ht : ∀ H, TyX K H x (.type X)) (hb : kitB X T = some b) : RC (rIsi K) [x, .ty T] H (.bl b) := fun H1 _ _ q => ⟨x, .ty T, .type X, .type T, b, rfl, .ty T, ht H1, kit_ty hb, q H1 (Ex.refl H1)⟩
/-- d[k] = e -/
theorem s_put {a : Addr} {kvs : List (Key × V)} {k : Key} (h : Ev tv σ H v) (ha : Ev td σ H (.ref a)) (hk : Ev ty σ H (kV k)) (hd : H a = some (.dK kvs)) (hl : kvs.length < 100000) (q : ∀ H1, Ex H H1 → D.nx σ (upd H1 a (.dK (putK kvs k v)))) : sDPut td ty tv D σ H :=
  h H (Ex.refl H) _ fun H1 e1 => ha H1 e1 _ fun H2 e2 => hk H2 (e1.trans e2) _ fun H3 e3 => ⟨a, _, rfl, DPut.k (((e1.trans e2).trans e3) a _ hd) (sz_lt hl), q H3 ((e1.trans e2).trans e3)⟩
theorem q_put {a : Addr} {kvs : List (Key × V)} {k : Key} (h : Ev tv σ H v) (ha : Ev td σ H (.ref a)) (hk : Ev ty σ H (kV k)) (hd : H a = some (.dK kvs)) (hl : kvs.length < 100000) (q : ∀ H1, Ex H H1 → tz D σ (upd H1 a (.dK (putK kvs k v)))) : tSeq (sDPut td ty tv) tz D σ H :=
  s_put (D := { D with nx := tz D }) h ha hk hd hl q
/-- within a lock, and out of it -/
theorem Ex.unlock {H H' : Hp} {d : Addr} {o : Obj} {u : HO} (hd : H d = some u) (e : Ex (upd H d (.frz o u)) H') : Ex H (upd H' d u) := fun a o' h => by
  by_cases q : a = d
  · subst q
    rw [upd_same, ← hd, h]
  · rw [upd_ne q]
    exact e a o' (by rw [upd_ne q]; exact h)
theorem SqL.locked {a d : Addr} {xs : List V} {o : Obj} {u : HO} (h : SqL K H a xs) (hn : H d = some u) (hu : ∀ l, u ≠ .lst l ∧ ∀ o, u ≠ .frz o (.lst l)) : SqL K (upd H d (.frz o u)) a xs := by
  rcases h with (h | ⟨o', h⟩) | h
  · have q : a ≠ d := fun e => by
      rw [e, hn] at h
      exact (hu xs).1 (Option.some.inj h)
    exact .inl (.inl (by rw [upd_ne q]; exact h))
  · have q : a ≠ d := fun e => by
      rw [e, hn] at h
      exact (hu xs).2 o' (Option.some.inj h)
    exact .inl (.inr ⟨o', by rw [upd_ne q]; exact h⟩)
  · exact .inr h
/-- y = [e for k in d if t] -/
theorem q_lcKeys {d : Addr} {kvs : List (Key × V)} {jd i j : Nat} {vs : List Nat} (hj : σ[jd]? = some (some (.ref d))) (hd : H d = some (.dK kvs)) (hz : kvs.length ≤ 40000) (f : Nat → Bool) (v : Nat → V) (hw : ∀ x, wipe ((wipe σ vs).set j (some x)) vs = wipe σ vs)
    (ht : ∀ (n : Nat) k x o, kvs[n]? = some (k, x) → EvT t ((wipe σ vs).set j (some (kV k))) (upd H d (.frz o (.dK kvs))) (f n))
    (he : ∀ (n : Nat) k x o, kvs[n]? = some (k, x) → f n = true → Ev te ((wipe σ vs).set j (some (kV k))) (upd H d (.frz o (.dK kvs))) (v n))
    (q : ∀ p H1, H p = none → Ex H H1 → H1 p = some (.lst (given kvs.length f v)) → tz D (σ.set i (some (.ref p))) H1) : tSeq (tLock (tAsg (tLc (iKeys (tVar jd)) (gName j) t te vs) (gName i))) tz D σ H := by
  refine ⟨d, .dK kvs, hd, trivial, fun od => ⟨.ref d, hj, d, od, rfl, .inl ⟨kvs, upd_same, fun Dl hD => ?_⟩⟩⟩
  have ne : Dl ≠ d := fun e => by
    rw [e, upd_same] at hD
    cases hD
  refine lc_it walk_keys (fun m H' => Cw (upd H d (.frz od (.dK kvs))) f v Dl m H') ⟨hD, Ex.new hD, upd_same⟩ (fun m H' _ p => p.2.1 d _ upd_same) (fun m x H1 H' hm p y => ?_) (fun H' p => ?_)
  · obtain ⟨rfl, k, x', hk, rfl⟩ := y
    exact ⟨hw _, cw_turn p (by omega) (ht m k x' od hk) (fun hf => he m k x' od hk hf)⟩
  · refine ⟨p.2.1 d _ upd_same, ?_⟩
    refine q Dl _ ?_ (Ex.unlock hd p.2.1) (by rw [upd_ne ne]; exact p.2.2)
    rw [upd_ne ne] at hD
    exact hD
/-- for k in d: body, the dict locked -/
theorem q_forKeys {d : Addr} {kvs : List (Key × V)} {jd j : Nat} {tu : TS} (hj : σ[jd]? = some (some (.ref d))) (hd : H d = some (.dK kvs)) (Pv : Obj → Nat → L2.St → Hp → Prop)
    (h0 : ∀ o, Pv o 0 σ (upd H d (.frz o (.dK kvs)))) (hG : ∀ o i σ' H', i ≤ kvs.length → Pv o i σ' H' → H' d = some (.frz o (.dK kvs)))
    (hs : ∀ o i k x σ' H' rt bk, kvs[i]? = some (k, x) → Pv o i σ' H' → tu ⟨Pv o (i + 1), rt, bk, Pv o (i + 1)⟩ (σ'.set j (some (kV k))) H')
    (q : ∀ o σ' H', Pv o kvs.length σ' H' → tz D σ' (upd H' d (.dK kvs))) : tSeq (tLock (tFor (iKeys (tVar jd)) (gName j) tu)) tz D σ H := by
  refine ⟨d, .dK kvs, hd, trivial, fun od => ⟨.ref d, hj, d, od, rfl, .inl ⟨kvs, upd_same, ?_⟩⟩⟩
  refine for_it walk_keys (Pv od) (h0 od) (fun i σ' H' hi p => hG od i σ' H' hi p) (fun i x σ' H1 H' hi p y => ?_) (fun σ' H' p => ⟨hG od _ σ' H' (Nat.le_refl _) p, q od σ' H' p⟩)
  obtain ⟨rfl, k, x', hk, rfl⟩ := y
  exact hs od i k x' σ' H' _ _ hk p
theorem q_dnew {i : Nat} (k : ∀ p H1, H p = none → Ex H H1 → H1 p = some (.dK []) → tz D (σ.set i (some (.ref p))) H1) : tSeq (tAsg tDNewK (gName i)) tz D σ H := fun p hp => k p _ hp (Ex.new hp) upd_same
theorem el_rep {ta : TA} {vs : List V} {n : Int} (h : EvA ta σ H vs) (hb : Ev tb σ H (.int n)) (hl : vs.length * n.toNat ≤ 100000) (hv : vs.length ≤ 100000) (hn : -100000 ≤ n ∧ n ≤ 100000) : EvL (tOp rRep (tLst ta) tb) σ H (List.replicate n.toNat vs).flatten := fun H1 e Q q =>
  h H1 e _ fun H2 e2 => ⟨sz_of hv, fun p hp => hb _ ((e.trans e2).trans (Ex.new hp)) _ fun H3 e3 => ⟨p, n, vs, rfl, rfl, e3 _ _ upd_same, by omega, by omega, sz_of hl, fun l hl2 => q l _ (fresh_back ((e2.trans (Ex.new hp)).trans e3) hl2) (((e2.trans (Ex.new hp)).trans e3).trans (Ex.new hl2)) upd_same⟩⟩
theorem q_call {sp : Sp} {dvs vs : List V} {E : XK} {ta : TA} {i : Nat} (h : EvA ta σ H vs) (k : ∀ H1, Ex H H1 → sp (vs ++ dvs) H1 (fun v H2 => tz D (σ.set i (some v)) H2) E) : tSeq (tAsg (tCall sp dvs E ta) (gName i)) tz D σ H := h H (Ex.refl H) _ fun H1 e => k H1 e
theorem s_retCall {sp : Sp} {dvs vs : List V} {E : XK} {ta : TA} (h : EvA ta σ H vs) (k : ∀ H1, Ex H H1 → sp (vs ++ dvs) H1 D.rt E) : tRet (tCall sp dvs E ta) D σ H := h H (Ex.refl H) _ fun H1 e => k H1 e
/-- for k in range(lo, hi), any small bounds -/
theorem q_forRng {ta : TA} {j : Nat} {lo n : Int} {tu : TS} (h : EvA ta σ H [.int lo, .int n]) (hn : -100000 ≤ lo ∧ lo ≤ 100000 ∧ -100000 ≤ n ∧ n ≤ 100000) (Pv : Nat → L2.St → Hp → Prop) (h0 : ∀ H1, Ex H H1 → Pv 0 σ H1)
    (hs : ∀ (i : Nat) σ' H', lo + (i : Int) < n → Pv i σ' H' → tu { D with nx := Pv (i + 1), ct := Pv (i + 1), bk := tz D } (σ'.set j (some (.int (lo + (i : Int))))) H') (hd : ∀ σ' H', Pv (n - lo).toNat σ' H' → tz D σ' H') : tSeq (tFor (iRng2 ta) (gName j) tu) tz D σ H :=
  h H (Ex.refl H) _ fun H1 e => ⟨lo, n, rfl, ⟨by omega, by omega, by omega, by omega⟩, for_range (lo := lo) (n := (n - lo).toNat) Pv (h0 H1 e) (fun i σ' H' hi p => hs i σ' H' (by omega) p) hd⟩
theorem given_eq {α : Type} (xs : List α) (d : α) (p : α → Bool) (g : α → V) : given xs.length (fun i => p (xs.getD i d)) (fun i => g (xs.getD i d)) = (xs.filter p).map g := by
  have e : (List.range xs.length).map (fun i => xs.getD i d) = xs := by
    refine List.ext_getElem (by simp) (fun i h1 h2 => ?_)
    rw [List.getElem_map, List.getElem_range, List.getD_eq_getElem?_getD, List.getElem?_eq_getElem h2]
    rfl
  unfold given
  conv => rhs; rw [← e]
  rw [List.filter_map, List.map_map]
  rfl
end
/-! ### draws: whole numbers below 5040 -/
def Dr (ds : List Int) : Prop := ∀ d ∈ ds, 0 ≤ d ∧ d < 5040
theorem Dr.nil : Dr [] := fun _ h => nomatch h
theorem Dr.app {ds : List Int} {d : Int} (h : Dr ds) (h0 : 0 ≤ d) (h1 : d < 5040) : Dr (ds ++ [d]) := fun e he => by
  rcases List.mem_append.mp he with he | he
  · exact h e he
  · rw [List.mem_singleton.mp he]
    exact ⟨h0, h1⟩
/-- a draw: the k-th one, 0 behind the last -/
def drw (ds : List Int) (k : Nat) : Int := ds.getD k 0
theorem drw_ok {ds : List Int} (h : Dr ds) (k : Nat) : 0 ≤ drw ds k ∧ drw ds k < 5040 := by
  unfold drw
  rw [List.getD_eq_getElem?_getD]
  cases e : ds[k]? with
  | none => exact ⟨Int.le_refl _, by show (0 : Int) < 5040; decide⟩
  | some d => exact h d (List.mem_of_getElem? e)
def spStream (K : PySem.W.Frag) : Sp := fun vs H Q _ => ∃ (a : Addr) (ns : List Int) (m : Nat), vs = [.ref a, .int (m : Int)] ∧ SqL K H a (ns.map V.int) ∧ ns.length ≤ 63 ∧ m ≤ 1000 ∧
  ∀ ds : List Int, Dr ds → ds.length ≤ m + 60 → RetL (ds.map V.int) H Q
def spDraw (K : PySem.W.Frag) : Sp := fun vs H Q _ => ∃ (a : Addr) (ds : List Int) (k : Nat), vs = [.ref a, .int (k : Int)] ∧ SqL K H a (ds.map V.int) ∧ RetV (.int (drw ds k)) H Q
theorem spDraw_v {K : PySem.W.Frag} {H : Hp} {a : Addr} {ds : List Int} {j : Int} {k : Nat} (h : SqL K H a (ds.map V.int)) (e : j = (k : Int)) : SpV (spDraw K) [.ref a, .int j] H (.int (drw ds k)) := fun H1 e1 Q q E =>
  ⟨a, ds, k, by rw [e], ex_l e1 h, fun H2 e2 => q H2 e2⟩
def drI (ds : List Int) (j : Int) : Int := drw ds j.toNat
theorem drI_ok {ds : List Int} (h : Dr ds) (j : Int) : 0 ≤ drI ds j ∧ drI ds j < 5040 := drw_ok h _
theorem spDrawI {K : PySem.W.Frag} {H : Hp} {a : Addr} {ds : List Int} {j : Int} (h : SqL K H a (ds.map V.int)) (e : 0 ≤ j) : SpV (spDraw K) [.ref a, .int j] H (.int (drI ds j)) := spDraw_v h (by omega)
theorem q_stream {K : PySem.W.Frag} {σ : L2.St} {H : Hp} {D : Ends} {tz : TS} {E : XK} {i : Nat} {a : Addr} {ns : List Int} {m : Int} (h0 : σ[0]? = some (some (.ref a))) (hS : SqL K H a (ns.map V.int)) (hn : ns.length ≤ 63) (hm : 0 ≤ m ∧ m ≤ 1000)
    (k : ∀ (ds : List Int) (l : Addr) (H1 : Hp), Dr ds → (ds.length : Int) ≤ m + 60 → H l = none → Ex H H1 → H1 l = some (.lst (ds.map V.int)) → tz D (σ.set i (some (.ref l))) H1) :
    tSeq (tAsg (tCall (spStream K) [] E (tCons (tVar 0) (tCons (tC (.int m)) tNil))) (gName i)) tz D σ H :=
  ⟨.ref a, h0, a, ns, m.toNat, by rw [show ((m.toNat : Nat) : Int) = m by omega]; rfl, hS, hn, by omega, fun ds hD hl l H1 n e h => k ds l H1 hD (by omega) n e h⟩

/-! ### a def of the text, its place and how it is called; the law's own end -/
structure Df (K : PySem.W.Frag) (mg : Str → Option Value) (x : Str) (st : Stmt) (ps : List Str) (f : Addr) (fd : FuncData) : Prop where
  F : Fun K x x st f fd
  b : Binds K fd ps []
  g : mg x = some (.ref f)
theorem df_mk {K : PySem.W.Frag} {mg : Str → Option Value} {h : Heap} (X : K.In h) (G : h.Ns mainGlobals mg) {x : Str} {st : Stmt} {ps : List Str} {f : Addr} {oc : Value} {od an : Option Addr} {sl : Array (Option Value)} {kV dc pm cd ct : Value}
    (a : PySem.W.nsIn K mainGlobals x = some (some (.ref f))) (l : K.lookup f = some ⟨oc, od, .func (PySem.W.fnOf x x (defArgs st) (defBody st) (defScope st) .none kV dc pm an cd ct), sl⟩) (c : PySem.W.codeIn K cd x = true) (k : PySem.W.keepIn K (.ref f) = true)
    (hb : ∀ (kV doc pm : Value) (an : Option Addr) (cdv ct : Value) (us : List Value), us.length = ps.length → bindArgs (PySem.W.fnOf x x (defArgs st) (defBody st) (defScope st) .none kV doc pm an cdv ct) ⟨us, []⟩ = pure (ps.zip us)) :
    ∃ f fd, Df K mg x st ps f fd := ⟨_, _, fun_mk l c k, (fun_mk l c k).binds hb, PySem.W.mg_of X G a⟩
theorem law_mk {K : PySem.W.Frag} {mg : Str → Option Value} {h : Heap} (X : K.In h) (G : h.Ns mainGlobals mg) {st : Stmt} {fa f : Addr} {oc : Value} {od an : Option Addr} {sl : Array (Option Value)} {kV dc pm cd ct : Value} (hfa : mg "law" = some (.ref fa))
    (a : PySem.W.nsIn K mainGlobals "law" = some (some (.ref f))) (l : K.lookup f = some ⟨oc, od, .func (PySem.W.fnOf "law" "law" (defArgs st) (defBody st) (defScope st) .none kV dc pm an cd ct), sl⟩) (c : PySem.W.codeIn K cd "law" = true) (k : PySem.W.keepIn K (.ref f) = true)
    (hb : ∀ (kV doc pm : Value) (an : Option Addr) (cdv ct : Value) (s : Shared) (v : Value), BindsTo s (PySem.W.fnOf "law" "law" (defArgs st) (defBody st) (defScope st) .none kV doc pm an cdv ct) ⟨[v], []⟩ [("script", v)]) :
    ∃ fd, (∀ (s : Shared) (v : Value), BindsTo s fd ⟨[v], []⟩ [("script", v)]) ∧ Fun K "law" "law" st fa fd := by
  have e := hfa.symm.trans (PySem.W.mg_of X G a)
  cases e
  exact ⟨_, fun s v => hb kV dc pm an cd ct s v, fun_mk l c k⟩
def spLaw (K : PySem.W.Frag) : Sp := fun vs H Q _ => ∃ (a : Addr) (ns : List Int), vs = [.ref a] ∧ SqL K H a (ns.map V.int) ∧ ns.length ≤ 63 ∧ ∀ H', Q (.bl true) H'
end Ap

set_option Elab.async false
set_option linter.all false
set_option maxRecDepth 100000
namespace Ap
open PySem PySem.Spec PyProof.Rows L2 Evl

/-! ### data: what a value stands for, whatever grows around it -/
section
variable {K : PySem.W.Frag} {H H' : Hp}
mutual
theorem dp_mono (e : Ex H H') : ∀ (d : PyData) (v : V), Dp K H v d → Dp K H' v d
  | .none, _, h => by cases h; exact .non
  | .bool b, _, h => by cases h; exact .bl b
  | .int i, _, h => by cases h; exact .int i
  | .str x, _, h => by cases h; exact .str x
  | .list ds, _, h => by
    cases h with
    | lst hs ha => exact .lst (ex_l e hs) (dpa_mono e ds _ ha)
  | .tuple ds, _, h => by
    cases h with
    | tup hs ha => exact .tup (ex_t e hs) (dpa_mono e ds _ ha)
  | .dict _, _, h => by cases h
theorem dpa_mono (e : Ex H H') : ∀ (ds : List PyData) (vs : List V), DpAll K H vs ds → DpAll K H' vs ds
  | [], _, h => by cases h; exact .nil
  | d :: ds, _, h => by
    cases h with
    | cons h1 h2 => exact .cons (dp_mono e d _ h1) (dpa_mono e ds _ h2)
end
theorem dpa_len : ∀ {vs : List V} {ds : List PyData}, DpAll K H vs ds → vs.length = ds.length
  | _, _, .nil => rfl
  | _, _, .cons _ h => by rw [List.length_cons, List.length_cons, dpa_len h]
theorem dpa_at : ∀ {vs : List V} {ds : List PyData} {i : Nat} {d : PyData}, DpAll K H vs ds → ds[i]? = some d → ∃ v, vs[i]? = some v ∧ Dp K H v d
  | _, _, i, d, .nil, h => by simp at h
  | _, _, 0, d, .cons h1 _, h => ⟨_, rfl, by
    have e := Option.some.inj (show some _ = some d from h)
    rw [← e]
    exact h1⟩
  | _, _, i + 1, d, .cons _ h2, h => by
    obtain ⟨v, e, q⟩ := dpa_at (i := i) h2 (by simpa using h)
    exact ⟨v, by simpa using e, q⟩
theorem dpa_atV : ∀ {vs : List V} {ds : List PyData} {i : Nat} {v : V}, DpAll K H vs ds → vs[i]? = some v → ∃ d, ds[i]? = some d ∧ Dp K H v d
  | _, _, i, v, .nil, h => by simp at h
  | _, _, 0, v, .cons h1 _, h => ⟨_, rfl, by
    have e := Option.some.inj (show some _ = some v from h)
    rw [← e]
    exact h1⟩
  | _, _, i + 1, v, .cons _ h2, h => by
    obtain ⟨d, e, q⟩ := dpa_atV (i := i) h2 (by simpa using h)
    exact ⟨d, by simpa using e, q⟩
theorem dpa_app : ∀ {vs ws : List V} {ds es : List PyData}, DpAll K H vs ds → DpAll K H ws es → DpAll K H (vs ++ ws) (ds ++ es)
  | _, _, _, _, .nil, h => h
  | _, _, _, _, .cons h1 h2, h => .cons h1 (dpa_app h2 h)
theorem dpa_one {v : V} {d : PyData} (h : Dp K H v d) : DpAll K H [v] [d] := .cons h .nil
theorem dpa_drop : ∀ {vs : List V} {ds : List PyData} (n : Nat), DpAll K H vs ds → DpAll K H (vs.drop n) (ds.drop n)
  | _, _, 0, h => h
  | _, _, n + 1, .nil => .nil
  | _, _, n + 1, .cons _ h2 => dpa_drop n h2
theorem dpa_take : ∀ {vs : List V} {ds : List PyData} (n : Nat), DpAll K H vs ds → DpAll K H (vs.take n) (ds.take n)
  | _, _, 0, _ => .nil
  | _, _, n + 1, .nil => .nil
  | _, _, n + 1, .cons h1 h2 => .cons h1 (dpa_take n h2)
theorem dpa_ints : ∀ (ns : List Int), DpAll K H (ns.map V.int) (ns.map PyData.int)
  | [] => .nil
  | n :: r => .cons (.int n) (dpa_ints r)
end

/-! ### data that == reads to its end: no dict, so deep at most -/
mutual
theorem eqv_self : ∀ d : PyData, d.canLay0 = true → PyData.eqv d d = true
  | .none, _ => by simp [PyData.eqv]
  | .bool b, _ => by simp [PyData.eqv]
  | .int i, _ => by simp [PyData.eqv]
  | .str x, _ => by simp [PyData.eqv]
  | .list ds, h => by
    show PyData.eqvAll ds ds = true
    exact eqvAll_self ds (by simpa [PyData.canLay0] using h)
  | .tuple ds, h => by
    show PyData.eqvAll ds ds = true
    exact eqvAll_self ds (by simpa [PyData.canLay0] using h)
  | .dict _, h => by simp [PyData.canLay0] at h
theorem eqvAll_self : ∀ ds : List PyData, PyData.canLayAll0 ds = true → PyData.eqvAll ds ds = true
  | [], _ => by simp [PyData.eqvAll]
  | d :: ds, h => by
    have h' : d.canLay0 = true ∧ PyData.canLayAll0 ds = true := by simpa [PyData.canLayAll0] using h
    simp [PyData.eqvAll, eqv_self d h'.1, eqvAll_self ds h'.2]
end
/-- no dict within, no text out of range, at most n deep -/
def Sd (n : Nat) (d : PyData) : Prop := d.canLay0 = true ∧ d.depth ≤ n
def Sds (n : Nat) (ds : List PyData) : Prop := ∀ d ∈ ds, Sd n d
theorem sds_lay : ∀ {n : Nat} {ds : List PyData}, Sds n ds → PyData.canLayAll0 ds = true ∧ PyData.depthAll ds ≤ n
  | _, [], _ => ⟨by simp [PyData.canLayAll0], by simp [PyData.depthAll]⟩
  | n, d :: ds, h => by
    have h1 := h d List.mem_cons_self
    have h2 := sds_lay (fun e he => h e (List.mem_cons_of_mem _ he))
    exact ⟨by simp [PyData.canLayAll0, h1.1, h2.1], by have := h1.2; have := h2.2; simp only [PyData.depthAll]; omega⟩
theorem sd_tuple {n : Nat} {ds : List PyData} (h : Sds n ds) : Sd (n + 1) (.tuple ds) := ⟨by simp [PyData.canLay0, (sds_lay h).1], by have := (sds_lay h).2; simp only [PyData.depth]; omega⟩
theorem sd_list {n : Nat} {ds : List PyData} (h : Sds n ds) : Sd (n + 1) (.list ds) := ⟨by simp [PyData.canLay0, (sds_lay h).1], by have := (sds_lay h).2; simp only [PyData.depth]; omega⟩
theorem sd_int {n : Nat} {i : Int} : Sd n (.int i) := ⟨by simp [PyData.canLay0], by simp [PyData.depth]⟩
theorem sd_bool {n : Nat} {b : Bool} : Sd n (.bool b) := ⟨by simp [PyData.canLay0], by simp [PyData.depth]⟩
theorem sd_none {n : Nat} : Sd n .none := ⟨by simp [PyData.canLay0], by simp [PyData.depth]⟩
theorem sd_str {n : Nat} {x : Str} (h : PyData.strOk x = true) : Sd n (.str x) := ⟨by simp [PyData.canLay0, h], by simp [PyData.depth]⟩
theorem Sd.up {n m : Nat} {d : PyData} (h : Sd n d) (l : n ≤ m) : Sd m d := ⟨h.1, Nat.le_trans h.2 l⟩
theorem sds_nil {n : Nat} : Sds n [] := fun _ h => nomatch h
theorem sds_cons {n : Nat} {d : PyData} {ds : List PyData} (h : Sd n d) (hs : Sds n ds) : Sds n (d :: ds) := fun e he => by
  rcases List.mem_cons.mp he with q | q
  · rw [q]; exact h
  · exact hs e q
theorem sds_app {n : Nat} {ds es : List PyData} (h : Sds n ds) (hs : Sds n es) : Sds n (ds ++ es) := fun e he => by
  rcases List.mem_append.mp he with q | q
  · exact h e q
  · exact hs e q
theorem Sds.drop {n : Nat} {ds : List PyData} (h : Sds n ds) (k : Nat) : Sds n (ds.drop k) := fun e he => h e (List.mem_of_mem_drop he)
theorem Sds.take {n : Nat} {ds : List PyData} (h : Sds n ds) (k : Nat) : Sds n (ds.take k) := fun e he => h e (List.mem_of_mem_take he)
theorem Sd.shaped {d : PyData} {n : Nat} (h : Sd n d) (l : n ≤ 64) : SeqAt.shaped d = true := by
  unfold SeqAt.shaped
  rw [h.1, decide_eq_true (Nat.le_trans h.2 l)]
  rfl
theorem Sd.self {d : PyData} {n : Nat} (h : Sd n d) : PyData.eqv d d = true := eqv_self d h.1

/-! ### the part of a heap that a base and what is new since a point make -/
def ov (H H1 H2 : Hp) : Hp := fun a => match H a with
  | some o => some o
  | none => match H1 a with
    | some _ => none
    | none => H2 a
theorem ov_ex {H H1 H2 : Hp} (e : Ex H H1) (e2 : Ex H1 H2) : Ex (ov H H1 H2) H2 := fun a o h => by
  unfold ov at h
  cases h0 : H a with
  | some o' =>
    rw [h0] at h
    rw [← h]
    exact e2 a o' (e a o' h0)
  | none =>
    rw [h0] at h
    cases h1 : H1 a with
    | some o' => rw [h1] at h; cases h
    | none => rw [h1] at h; exact h
theorem ov_base {H H1 H2 : Hp} : Ex H (ov H H1 H2) := fun a o h => by
  unfold ov
  rw [h]
theorem ov_none {H H1 H2 : Hp} {a : Addr} {o : HO} (h : H a = none) (h1 : H1 a = some o) : ov H H1 H2 a = none := by
  unfold ov
  rw [h, h1]
theorem ov_grow {H H1 H2 H3 : Hp} (e2 : Ex H2 H3) : Ex (ov H H1 H2) (ov H H1 H3) := fun a o h => by
  unfold ov at h ⊢
  cases h0 : H a with
  | some o' => rw [h0] at h; exact h
  | none =>
    rw [h0] at h
    cases h1 : H1 a with
    | some o' => rw [h1] at h; cases h
    | none =>
      rw [h1] at h
      exact e2 a o h
theorem ov_later {H H1 H2 H3 : Hp} (e1 : Ex H1 H2) : Ex (ov H H2 H3) (ov H H1 H3) := fun a o h => by
  unfold ov at h ⊢
  cases h0 : H a with
  | some o' => rw [h0] at h; exact h
  | none =>
    rw [h0] at h
    cases h2 : H2 a with
    | some o' => rw [h2] at h; cases h
    | none =>
      rw [h2] at h
      have h1 : H1 a = none := fresh_back e1 h2
      rw [h1]
      exact h
theorem ov_new {H H1 H2 : Hp} {p : Addr} (e : Ex H H1) (e2 : Ex H1 H2) (hp : H2 p = none) {u : HO} : ov H H1 (upd H2 p u) p = some u := by
  have h1 : H1 p = none := fresh_back e2 hp
  have h0 : H p = none := fresh_back e h1
  unfold ov
  rw [h0, h1]
  exact upd_same

/-! ### what evaluates to data -/
def EvD (K : PySem.W.Frag) (te : TE) (σ : L2.St) (H : Hp) (d : PyData) : Prop := ∀ H1, Ex H H1 → ∀ Q : VK, (∀ v H2, Ex H1 H2 → Dp K (ov H H1 H2) v d → Q v H2) → te σ H1 Q
def EvDs (K : PySem.W.Frag) (ta : TA) (σ : L2.St) (H : Hp) (ds : List PyData) : Prop := ∀ H1, Ex H H1 → ∀ Q : List V → Hp → Prop, (∀ vs H2, Ex H1 H2 → DpAll K (ov H H1 H2) vs ds → Q vs H2) → ta σ H1 Q
/-- a new list of data -/
def EvN (K : PySem.W.Frag) (te : TE) (σ : L2.St) (H : Hp) (ds : List PyData) : Prop := ∀ H1, Ex H H1 → ∀ Q : VK, (∀ p xs H2, H1 p = none → Ex H1 H2 → H2 p = some (.lst xs) → DpAll K (ov H H1 H2) xs ds → Q (.ref p) H2) → te σ H1 Q
section
variable {K : PySem.W.Frag} {σ : L2.St} {H H' : Hp} {ta tb tc te : TE} {t u : TT} {x y z v w : V} {d e : PyData} {ds es : List PyData} {r : R2}
theorem ed_of (h : Ev te σ H v) (hd : Dp K H v d) : EvD K te σ H d := fun H1 e Q q => h H1 e Q fun H2 e2 => q v H2 e2 (dp_mono ov_base d v hd)
theorem ed_var {i : Nat} (h : σ[i]? = some (some v)) (hd : Dp K H v d) : EvD K (tVar i) σ H d := ed_of (ev_var h) hd
theorem ed_int {i : Int} (h : Ev te σ H (.int i)) : EvD K te σ H (.int i) := ed_of h (.int i)
theorem ed_str {s : Str} : EvD K (tC (.str s)) σ H (.str s) := ed_of ev_c (.str s)
theorem ed_bool {b : Bool} (h : Ev te σ H (.bl b)) : EvD K te σ H (.bool b) := ed_of h (.bl b)
theorem ed_non : EvD K (tC .non) σ H .none := ed_of ev_c .non
theorem ed_is (h : EvD K te σ H d) (q : d = e) : EvD K te σ H e := q ▸ h
theorem EvD.mono (e : Ex H H') (h : EvD K te σ H d) : EvD K te σ H' d := fun H1 a Q q => h H1 (e.trans a) Q fun v H2 e2 hd => q v H2 e2 (dp_mono (fun b o hb => by
  unfold ov at hb ⊢
  cases h0 : H b with
  | some o' => rw [h0] at hb; rw [e b o' h0]; exact hb
  | none =>
    rw [h0] at hb
    cases h1 : H1 b with
    | some o' => rw [h1] at hb; cases hb
    | none =>
      rw [h1] at hb
      rw [fresh_back a h1]
      exact hb) d v hd)
theorem eds_nil : EvDs K tNil σ H [] := fun H1 _ _ q => q [] H1 (Ex.refl H1) .nil
theorem eds_cons {tr : TA} (h : EvD K te σ H d) (hr : EvDs K tr σ H ds) : EvDs K (tCons te tr) σ H (d :: ds) := fun H1 e Q q =>
  h H1 e _ fun v H2 e2 hv => hr H2 (e.trans e2) _ fun vs H3 e3 hs => q _ H3 (e2.trans e3) (.cons (dp_mono (ov_grow e3) d v hv) (dpa_mono (ov_later e2) ds vs hs))
theorem ed_tup {ta : TA} (h : EvDs K ta σ H ds) (hl : ds.length ≤ 100000) : EvD K (tTup ta) σ H (.tuple ds) := fun H1 e Q q =>
  h H1 e _ fun vs H2 e2 hs => ⟨by rw [dpa_len hs]; exact sz_of hl, fun p hp => q _ _ (e2.trans (Ex.new hp)) (.tup (st_of (ov_new e e2 hp)) (dpa_mono (ov_grow (Ex.new hp)) ds vs hs))⟩
theorem en_lst {ta : TA} (h : EvDs K ta σ H ds) (hl : ds.length ≤ 100000) : EvN K (tLst ta) σ H ds := fun H1 e Q q =>
  h H1 e _ fun vs H2 e2 hs => ⟨by rw [dpa_len hs]; exact sz_of hl, fun p hp => q p vs _ (fresh_back e2 hp) (e2.trans (Ex.new hp)) upd_same (dpa_mono (ov_grow (Ex.new hp)) ds vs hs)⟩
theorem ed_new (h : EvN K te σ H ds) : EvD K te σ H (.list ds) := fun H1 e Q q => h H1 e _ fun p xs H2 np e2 hp hs => q _ H2 e2 (.lst (sq_of (by
  have h1 := fresh_back e np
  unfold ov
  rw [h1, np]
  exact hp)) hs)
theorem atI_len {α β : Type} {xs : List α} {ys : List β} (h : xs.length = ys.length) {i : Int} {y : β} (hy : atI ys i = some y) : ∃ j : Nat, ys[j]? = some y ∧ ∀ x, xs[j]? = some x → atI xs i = some x := by
  unfold atI at hy ⊢
  cases e : ixN ys.length i with
  | none => rw [e] at hy; cases hy
  | some j =>
    rw [e] at hy
    refine ⟨j, hy, fun x hx => ?_⟩
    rw [h, e]
    exact hx
theorem ed_ixT {i : Int} (ha : EvD K ta σ H (.tuple ds)) (hb : Ev tb σ H (.int i)) (h : atI ds i = some d) : EvD K (tOp (rIxT K) ta tb) σ H d := fun H1 e Q q =>
  ha H1 e _ fun v H2 e2 hv => hb H2 (e.trans e2) _ fun H3 e3 => by
    cases hv with
    | tup hs hd =>
      obtain ⟨j, hj, hx⟩ := atI_len (dpa_len hd) h
      obtain ⟨x, ex, dx⟩ := dpa_at hd hj
      exact ⟨_, _, i, x, rfl, rfl, ex_t ((ov_ex e e2).trans e3) hs, hx x ex, q x H3 (e2.trans e3) (dp_mono (ov_grow e3) d x dx)⟩
theorem ed_ixL {i : Int} (ha : EvD K ta σ H (.list ds)) (hb : Ev tb σ H (.int i)) (h : atI ds i = some d) : EvD K (tOp (rIxL K) ta tb) σ H d := fun H1 e Q q =>
  ha H1 e _ fun v H2 e2 hv => hb H2 (e.trans e2) _ fun H3 e3 => by
    cases hv with
    | lst hs hd =>
      obtain ⟨j, hj, hx⟩ := atI_len (dpa_len hd) h
      obtain ⟨x, ex, dx⟩ := dpa_at hd hj
      exact ⟨_, _, i, x, rfl, rfl, ex_l ((ov_ex e e2).trans e3) hs, hx x ex, q x H3 (e2.trans e3) (dp_mono (ov_grow e3) d x dx)⟩
/-- the same part of two lists of one length -/
def cutA {α : Type} (xs : List α) (lo hi : Option Int) : List α := (xs.drop (HT.sIx xs.length 0 lo)).take (HT.sIx xs.length xs.length hi - HT.sIx xs.length 0 lo)
theorem dpa_cut {vs : List V} {lo hi : Option Int} (h : DpAll K H vs ds) : DpAll K H (cutV vs lo hi) (cutA ds lo hi) := by
  unfold cutV cutA
  rw [dpa_len h]
  exact dpa_take _ (dpa_drop _ h)
theorem ed_slT {tl th : TO} {lo hi : Option Int} (h : EvD K te σ H (.tuple ds)) (h1 : EvO tl σ H lo) (h2 : EvO th σ H hi) : EvD K (tSl (rSlA K) te tl th) σ H (.tuple (cutA ds lo hi)) := fun H1 e Q q =>
  h H1 e _ fun v H2 e2 hv => h1 H2 (e.trans e2) _ fun H3 e3 => h2 H3 ((e.trans e2).trans e3) _ fun H4 e4 => by
    have e24 := e2.trans (e3.trans e4)
    cases hv with
    | @tup a xs _ hs hd =>
      refine ⟨a, xs, rfl, ex_t ((ov_ex e e2).trans (e3.trans e4)) hs, fun hw => q _ H4 e24 (.tup (ex_t (ov_grow (e3.trans e4)) hs) ?_), fun _ p hp => q _ _ (e24.trans (Ex.new hp)) (.tup (st_of (ov_new e e24 hp)) (dpa_cut (dpa_mono (ov_grow ((e3.trans e4).trans (Ex.new hp))) ds xs hd)))⟩
      have ec : cutA ds lo hi = ds := by
        unfold cutA
        rw [← dpa_len hd, hw.1, hw.2, List.drop_zero, Nat.sub_zero, dpa_len hd, List.take_length]
      rw [ec]
      exact dpa_mono (ov_grow (e3.trans e4)) ds xs hd
theorem en_slL {tl th : TO} {lo hi : Option Int} (h : EvD K te σ H (.list ds)) (h1 : EvO tl σ H lo) (h2 : EvO th σ H hi) : EvN K (tSl (rSlL K) te tl th) σ H (cutA ds lo hi) := fun H1 e Q q =>
  h H1 e _ fun v H2 e2 hv => h1 H2 (e.trans e2) _ fun H3 e3 => h2 H3 ((e.trans e2).trans e3) _ fun H4 e4 => by
    have e24 := e2.trans (e3.trans e4)
    cases hv with
    | @lst a xs _ hs hd =>
      exact ⟨a, xs, rfl, ex_l ((ov_ex e e2).trans (e3.trans e4)) hs, fun p hp => q p _ _ (fresh_back e24 hp) (e24.trans (Ex.new hp)) upd_same (dpa_cut (dpa_mono (ov_grow ((e3.trans e4).trans (Ex.new hp))) ds xs hd))⟩
theorem ed_catT (ha : EvD K ta σ H (.tuple ds)) (hb : EvD K tb σ H (.tuple es)) (hl : ds.length + es.length ≤ 100000) : EvD K (tOp (rCatA K) ta tb) σ H (.tuple (ds ++ es)) := fun H1 e Q q =>
  ha H1 e _ fun v H2 e2 hv => hb H2 (e.trans e2) _ fun w H3 e3 hw => by
    have e13 := e2.trans e3
    cases hv with
    | @tup a xs _ hs hd =>
      cases hw with
      | @tup b ys _ ht he =>
        have hs3 := ex_t ((ov_ex e e2).trans e3) hs
        have ht3 := ex_t (ov_ex (e.trans e2) e3) ht
        have hd3 := dpa_mono (ov_grow e3) ds xs hd
        have he3 := dpa_mono (ov_later e2) es ys he
        have ld := dpa_len hd
        have le := dpa_len he
        refine ⟨a, b, xs, ys, rfl, rfl, hs3, ht3, sz_of (by omega), fun h0 => ?_, fun _ h0 => ?_, fun _ _ p hp => q _ _ (e13.trans (Ex.new hp)) (.tup (st_of (ov_new e e13 hp)) (dpa_app (dpa_mono (ov_grow (Ex.new hp)) ds xs hd3) (dpa_mono (ov_grow (Ex.new hp)) es ys he3)))⟩
        · have z : ds = [] := List.eq_nil_of_length_eq_zero (by rw [← ld, h0]; rfl)
          subst z
          exact q _ _ e13 (.tup (ex_t (ov_later e2) ht) he3)
        · have z : es = [] := List.eq_nil_of_length_eq_zero (by rw [← le, h0]; rfl)
          subst z
          exact q _ _ e13 (.tup (ex_t (ov_grow e3) hs) (by rw [List.append_nil]; exact hd3))
theorem en_cat (ha : EvN K ta σ H ds) (hb : EvN K tb σ H es) (hl : ds.length + es.length ≤ 100000) : EvN K (tOp rCat ta tb) σ H (ds ++ es) := fun H1 e Q q =>
  ha H1 e _ fun p xs H2 np e2 hp hs => hb H2 (e.trans e2) _ fun p' ys H3 np' e3 hp' ht =>
    ⟨p, p', xs, ys, rfl, rfl, e3 _ _ hp, hp', by rw [dpa_len hs, dpa_len ht]; exact sz_of hl, fun o ho => q o _ _ (fresh_back (e2.trans e3) ho) ((e2.trans e3).trans (Ex.new ho)) upd_same
      (dpa_app (dpa_mono (ov_grow (e3.trans (Ex.new ho))) ds xs hs) (dpa_mono ((ov_later e2).trans (ov_grow (Ex.new ho))) es ys ht))⟩
/-- a list that stands in the base, by its items -/
theorem en_tup {a : Addr} {xs : List V} (ha : Ev ta σ H (.ref a)) (hs : SqL K H a xs) (hd : DpAll K H xs ds) : EvD K (tThen ta (kTup K)) σ H (.tuple ds) := fun H1 e Q q =>
  ha H1 e _ fun H2 e2 => .inl ⟨a, xs, rfl, ex_l (e.trans e2) hs, fun p hp => q _ _ (e2.trans (Ex.new hp)) (.tup (st_of (ov_new e e2 hp)) (dpa_mono ov_base ds xs hd))⟩
theorem ed_tupOf (ha : EvD K ta σ H (.list ds)) : EvD K (tThen ta (kTup K)) σ H (.tuple ds) := fun H1 e Q q =>
  ha H1 e _ fun v H2 e2 hv => by
    cases hv with
    | @lst a xs _ hs hd => exact .inl ⟨a, xs, rfl, ex_l (ov_ex e e2) hs, fun p hp => q _ _ (e2.trans (Ex.new hp)) (.tup (st_of (ov_new e e2 hp)) (dpa_mono (ov_grow (Ex.new hp)) ds xs hd))⟩
theorem ev_eqD {n m : Nat} (ha : EvD K ta σ H d) (hb : EvD K tb σ H e) (sd : Sd n d) (se : Sd m e) (hn : n ≤ 64) (hm : m ≤ 64) : Ev (tOp (rEqD K) ta tb) σ H (.bl (PyData.eqv d e)) := fun H1 a Q q =>
  ha H1 a _ fun v H2 e2 hv => hb H2 (a.trans e2) _ fun w H3 e3 hw => ⟨d, e, dp_mono ((ov_ex a e2).trans e3) d v hv, dp_mono (ov_ex (a.trans e2) e3) e w hw, sd.shaped hn, se.shaped hm, q H3 (e2.trans e3)⟩
theorem ev_neD {n m : Nat} (ha : EvD K ta σ H d) (hb : EvD K tb σ H e) (sd : Sd n d) (se : Sd m e) (hn : n ≤ 64) (hm : m ≤ 64) : Ev (tOp (rNeD K) ta tb) σ H (.bl (!PyData.eqv d e)) := fun H1 a Q q =>
  ha H1 a _ fun v H2 e2 hv => hb H2 (a.trans e2) _ fun w H3 e3 hw => ⟨d, e, dp_mono ((ov_ex a e2).trans e3) d v hv, dp_mono (ov_ex (a.trans e2) e3) e w hw, sd.shaped hn, se.shaped hm, q H3 (e2.trans e3)⟩
/-- the two sides are one: != is False -/
theorem ev_neSelf {n : Nat} (ha : EvD K ta σ H d) (hb : EvD K tb σ H d) (sd : Sd n d) (hn : n ≤ 64) : Ev (tOp (rNeD K) ta tb) σ H (.bl false) := ev_is (ev_neD ha hb sd sd hn hn) (by rw [sd.self]; rfl)
theorem ev_eqSelf {n : Nat} (ha : EvD K ta σ H d) (hb : EvD K tb σ H d) (sd : Sd n d) (hn : n ≤ 64) : Ev (tOp (rEqD K) ta tb) σ H (.bl true) := ev_is (ev_eqD ha hb sd sd hn hn) (by rw [sd.self])
theorem ev_lenD (ha : EvD K ta σ H (.list ds)) : Ev (tCB (fun xs H Q => ∃ p ys, xs = [.ref p] ∧ (SqL K H p ys ∨ SqT K H p ys) ∧ Q (.int ys.length) H) (tCons ta tNil)) σ H (.int (ds.length : Int)) := fun H1 e Q q =>
  ha H1 e _ fun v H2 e2 hv => by
    cases hv with
    | @lst a xs _ hs hd => exact ⟨a, xs, rfl, .inl (ex_l (ov_ex e e2) hs), by rw [dpa_len hd]; exact q H2 e2⟩
theorem ev_lenDT (ha : EvD K ta σ H (.tuple ds)) : Ev (tCB (fun xs H Q => ∃ p ys, xs = [.ref p] ∧ (SqL K H p ys ∨ SqT K H p ys) ∧ Q (.int ys.length) H) (tCons ta tNil)) σ H (.int (ds.length : Int)) := fun H1 e Q q =>
  ha H1 e _ fun v H2 e2 hv => by
    cases hv with
    | @tup a xs _ hs hd => exact ⟨a, xs, rfl, .inr (ex_t (ov_ex e e2) hs), by rw [dpa_len hd]; exact q H2 e2⟩
theorem ed_if {b : Bool} (h : EvT t σ H b) (h1 : b = true → EvD K ta σ H d) (h2 : b = false → EvD K tb σ H d) : EvD K (tIf t ta tb) σ H d := fun H1 e Q q => h H1 e _ fun H2 e2 => by
  cases b with
  | true =>
    show ta σ H2 Q
    exact h1 rfl H2 (e.trans e2) Q fun v H3 e3 hv => q v H3 (e2.trans e3) (dp_mono (ov_later e2) d v hv)
  | false =>
    show tb σ H2 Q
    exact h2 rfl H2 (e.trans e2) Q fun v H3 e3 hv => q v H3 (e2.trans e3) (dp_mono (ov_later e2) d v hv)
/-- a promise that gives data, over a base that the caller names -/
def RetD (K : PySem.W.Frag) (B : Hp) (d : PyData) (H : Hp) (Q : VK) : Prop := ∀ v H2, Ex H H2 → Dp K (ov B H H2) v d → Q v H2
theorem ov_ov {B H H1 H2 : Hp} (e : Ex B H) (e1 : Ex H H1) (e2 : Ex H1 H2) : Ex (ov (ov B H H1) H1 H2) (ov B H H2) := fun a o h => by
  unfold ov at h ⊢
  cases h0 : B a with
  | some o' =>
    rw [h0] at h
    exact h
  | none =>
    rw [h0] at h
    cases h1 : H a with
    | some o' =>
      rw [h1, e1 a o' h1] at h
      cases h
    | none =>
      rw [h1] at h
      cases h3 : H1 a with
      | some o' =>
        rw [h3] at h
        rw [← h]
        exact e2 a o' h3
      | none =>
        rw [h3] at h
        exact h
def SpD (K : PySem.W.Frag) (sp : Sp) (vs : List V) (H : Hp) (d : PyData) : Prop := ∀ H1, Ex H H1 → ∀ Q : VK, (∀ v H2, Ex H1 H2 → Dp K (ov H H1 H2) v d → Q v H2) → ∀ E : XK, sp vs H1 Q E
theorem ed_call {sp : Sp} {dvs vs : List V} {E : XK} {ta : TA} (h : EvA ta σ H vs) (hs : SpD K sp (vs ++ dvs) H d) : EvD K (tCall sp dvs E ta) σ H d := fun H1 e Q q =>
  h H1 e _ fun H2 e2 => hs H2 (e.trans e2) Q (fun v H3 e3 hv => q v H3 (e2.trans e3) (dp_mono (ov_later e2) d v hv)) E
/-! ### statements -/
variable {D : Ends} {tz : TS} {i : Nat}
theorem dp_all {H2 : Hp} {v : V} {d : PyData} (e : Ex H H2) (h : Dp K (ov H H H2) v d) : Dp K H2 v d := dp_mono (ov_ex (Ex.refl H) e) d v h
theorem q_asgD (h : EvD K te σ H d) (k : ∀ v H1, Ex H H1 → Dp K H1 v d → tz D (σ.set i (some v)) H1) : tSeq (tAsg te (gName i)) tz D σ H := h H (Ex.refl H) _ fun v H1 e hv => k v H1 e (dp_mono (ov_ex (Ex.refl H) e) d v hv)
theorem s_asgD (h : EvD K te σ H d) (k : ∀ v H1, Ex H H1 → Dp K H1 v d → D.nx (σ.set i (some v)) H1) : tAsg te (gName i) D σ H := h H (Ex.refl H) _ fun v H1 e hv => k v H1 e (dp_mono (ov_ex (Ex.refl H) e) d v hv)
theorem q_asgN (h : EvN K te σ H ds) (k : ∀ p xs H1, H p = none → Ex H H1 → H1 p = some (.lst xs) → DpAll K H1 xs ds → tz D (σ.set i (some (.ref p))) H1) : tSeq (tAsg te (gName i)) tz D σ H :=
  h H (Ex.refl H) _ fun p xs H1 np e hp hs => k p xs H1 np e hp (dpa_mono (ov_ex (Ex.refl H) e) ds xs hs)
theorem q_asgDB {B : Hp} (eB : Ex B H) (h : EvD K te σ B d) (k : ∀ v H1, Ex H H1 → Dp K (ov B H H1) v d → tz D (σ.set i (some v)) H1) : tSeq (tAsg te (gName i)) tz D σ H := h H eB _ fun v H1 e hv => k v H1 e hv
theorem s_retDB {B : Hp} (eB : Ex B H) (h : EvD K te σ B d) (k : ∀ v H1, Ex H H1 → Dp K (ov B H H1) v d → D.rt v H1) : tRet te D σ H := h H eB _ k
theorem s_retD (h : EvD K te σ H d) (k : ∀ v H1, Ex H H1 → Dp K (ov H H H1) v d → D.rt v H1) : tRet te D σ H := h H (Ex.refl H) _ k
/-! ### a comprehension over a range, its items data -/
def givenD (n : Nat) (f : Nat → Bool) (g : Nat → PyData) : List PyData := ((List.range n).filter f).map g
theorem givenD_yes {n : Nat} {f : Nat → Bool} {g : Nat → PyData} (h : f n = true) : givenD (n + 1) f g = givenD n f g ++ [g n] := by
  unfold givenD
  rw [List.range_succ, List.filter_append, List.map_append, List.filter_cons, if_pos h]
  all_goals rfl
theorem givenD_no {n : Nat} {f : Nat → Bool} {g : Nat → PyData} (h : f n = false) : givenD (n + 1) f g = givenD n f g := by
  unfold givenD
  rw [List.range_succ, List.filter_append, List.map_append, List.filter_cons, if_neg (by rw [h]; decide)]
  show _ ++ [] = _
  rw [List.append_nil]
theorem givenD_len (n : Nat) (f : Nat → Bool) (g : Nat → PyData) : (givenD n f g).length ≤ n := by
  unfold givenD
  rw [List.length_map]
  have h := List.length_filter_le f (List.range n)
  rw [List.length_range] at h
  exact h
/-- the word of a comprehension over the base B, begun at H1: the items lean on the base and on what is new, not on the list itself -/
def CwD (K : PySem.W.Frag) (B H1 : Hp) (f : Nat → Bool) (g : Nat → PyData) (Dl : Addr) (i : Nat) (H' : Hp) : Prop := Ex B H' ∧ Ex H1 H' ∧ ∃ acc, H' Dl = some (.lst acc) ∧ DpAll K (ov B (upd H1 Dl (.lst [])) H') acc (givenD i f g)
theorem cwD_turn {B H1 H' : Hp} {f : Nat → Bool} {g : Nat → PyData} {Dl : Addr} {i : Nat} {σ2 : L2.St} (b1 : Ex B H1) (nD : H1 Dl = none) (p : CwD K B H1 f g Dl i H') (hi : i < 50000) (ht : EvT t σ2 B (f i)) (he : f i = true → EvD K te σ2 B (g i)) :
    t σ2 H' fun b H3 => if b = true then te σ2 H3 fun y H4 => ∃ acc, H4 Dl = some (.lst acc) ∧ acc.length < sizeLine ∧ CwD K B H1 f g Dl (i + 1) (upd H4 Dl (.lst (acc ++ [y]))) else CwD K B H1 f g Dl (i + 1) H3 := by
  obtain ⟨p1, p2, acc, p3, p4⟩ := p
  have nB : B Dl = none := fresh_back b1 nD
  refine ht H' p1 _ fun H3 e3 => ?_
  cases hf : f i with
  | true =>
    show te σ2 H3 fun y H4 => ∃ acc, H4 Dl = some (.lst acc) ∧ acc.length < sizeLine ∧ CwD K B H1 f g Dl (i + 1) (upd H4 Dl (.lst (acc ++ [y])))
    refine he hf H3 (p1.trans e3) _ fun y H4 e4 hy => ⟨acc, e4 Dl _ (e3 Dl _ p3), sz_lt (by rw [dpa_len p4]; have := givenD_len i f g; omega), Ex.mut ((p1.trans e3).trans e4) nB, Ex.mut ((p2.trans e3).trans e4) nD, _, upd_same, ?_⟩
    have k1 : Ex (ov B H3 H4) (ov B (upd H1 Dl (.lst [])) (upd H4 Dl (.lst (acc ++ [y])))) := fun a o ha => by
      unfold ov at ha ⊢
      cases h0 : B a with
      | some o' => rw [h0] at ha; exact ha
      | none =>
        rw [h0] at ha
        cases h3 : H3 a with
        | some o' => rw [h3] at ha; cases ha
        | none =>
          rw [h3] at ha
          have ne : a ≠ Dl := fun e => by
            rw [e, e3 Dl _ p3] at h3
            cases h3
          rw [upd_ne ne, fresh_back (p2.trans e3) h3]
          show upd H4 Dl _ a = some o
          rw [upd_ne ne]
          exact ha
    have k2 : Ex (ov B (upd H1 Dl (.lst [])) H') (ov B (upd H1 Dl (.lst [])) (upd H4 Dl (.lst (acc ++ [y])))) := fun a o ha => by
      unfold ov at ha ⊢
      cases h0 : B a with
      | some o' => rw [h0] at ha; exact ha
      | none =>
        rw [h0] at ha
        by_cases ne : a = Dl
        · rw [ne, upd_same] at ha
          cases ha
        · rw [upd_ne ne] at ha ⊢
          cases h1 : H1 a with
          | some o' => rw [h1] at ha; cases ha
          | none =>
            rw [h1] at ha
            show upd H4 Dl _ a = some o
            rw [upd_ne ne]
            exact e4 a o (e3 a o ha)
    rw [givenD_yes hf]
    exact dpa_app (dpa_mono k2 _ _ p4) (dpa_one (dp_mono k1 _ _ hy))
  | false =>
    show CwD K B H1 f g Dl (i + 1) H3
    refine ⟨p1.trans e3, p2.trans e3, acc, e3 Dl _ p3, ?_⟩
    rw [givenD_no hf]
    exact dpa_mono (ov_grow e3) _ _ p4
theorem cwD_start {B H1 : Hp} {f : Nat → Bool} {g : Nat → PyData} {Dl : Addr} (b1 : Ex B H1) (nD : H1 Dl = none) : CwD K B H1 f g Dl 0 (upd H1 Dl (.lst [])) := ⟨b1.trans (Ex.new nD), Ex.new nD, [], upd_same, .nil⟩
theorem cwD_end {B H1 H' : Hp} {f : Nat → Bool} {g : Nat → PyData} {Dl : Addr} {n : Nat} (p : CwD K B H1 f g Dl n H') : ∃ acc, H' Dl = some (.lst acc) ∧ DpAll K (ov B H1 H') acc (givenD n f g) := by
  obtain ⟨_, _, acc, p3, p4⟩ := p
  refine ⟨acc, p3, dpa_mono (fun a o ha => ?_) _ _ p4⟩
  unfold ov at ha ⊢
  cases h0 : B a with
  | some o' => rw [h0] at ha; exact ha
  | none =>
    rw [h0] at ha
    by_cases ne : a = Dl
    · rw [ne, upd_same] at ha
      cases ha
    · rw [upd_ne ne] at ha
      exact ha
theorem en_lcR1 {ta : TA} {j : Nat} {vs : List Nat} {n : Int} (f : Nat → Bool) (g : Nat → PyData) (h : EvA ta σ H [.int n]) (hn : 0 ≤ n ∧ n ≤ 40000) (hw : ∀ x, wipe ((wipe σ vs).set j (some x)) vs = wipe σ vs)
    (ht : ∀ i : Nat, (i : Int) < n → EvT t ((wipe σ vs).set j (some (.int (i : Int)))) H (f i)) (he : ∀ i : Nat, (i : Int) < n → f i = true → EvD K te ((wipe σ vs).set j (some (.int (i : Int)))) H (g i)) :
    EvN K (tLc (iRng1 ta) (gName j) t te vs) σ H (givenD n.toNat f g) := fun H0 e Q q => h H0 e _ fun H1 e1 => ⟨n, rfl, by omega, by omega, fun Dl hD =>
  lc_range (lo := 0) (n := n.toNat) (CwD K H H1 f g Dl) (cwD_start (e.trans e1) hD) (fun i H' hi p => by
    have e0 : (0 : Int) + (i : Int) = (i : Int) := Int.zero_add _
    show wipe ((wipe σ vs).set j (some (.int ((0 : Int) + (i : Int))))) vs = wipe σ vs ∧ t ((wipe σ vs).set j (some (.int ((0 : Int) + (i : Int))))) H' fun b H3 => if b = true then te ((wipe σ vs).set j (some (.int ((0 : Int) + (i : Int))))) H3 fun y H4 => ∃ acc, H4 Dl = some (.lst acc) ∧ acc.length < sizeLine ∧ CwD K H H1 f g Dl (i + 1) (upd H4 Dl (.lst (acc ++ [y]))) else CwD K H H1 f g Dl (i + 1) H3
    rw [e0]
    exact ⟨hw _, cwD_turn (e.trans e1) hD p (by omega) (ht i (by omega)) (fun hf => he i (by omega) hf)⟩) (fun H' p => by
      obtain ⟨acc, h1, h2⟩ := cwD_end p
      exact q Dl acc H' (fresh_back e1 hD) (e1.trans p.2.1) h1 (dpa_mono (ov_later e1) _ _ h2))⟩
theorem et_nil : EvT tYes σ H true := fun H1 _ _ q => q H1 (Ex.refl H1)
end
end Ap

set_option Elab.async false
set_option linter.all false
set_option maxRecDepth 100000
namespace Ap
open PySem PySem.Spec PyProof.Rows L2 Evl
/-! ### a method that may raise, called where the wish hangs on the slots -/
def tMX (C : Addr) (m : Str) (sp : Sp) (E : L2.St → XK) (ta : TE) (t : TA) : TE := fun σ H Q => ta σ H fun x G => ∃ a dx fs, x = .ref a ∧ G a = some (.ins C dx fs) ∧ fs.lookup m = none ∧ t σ G fun vs G2 => sp (x :: vs) G2 Q (E σ)
theorem pe_mx {X : Cx} {CX : CXT} {k : Nat} {f C : Addr} {fd : FuncData} {ps : List Str} {sp : Sp} {E : L2.St → XK} {m : Str} {pos apos : Pos} {e o : Expr} {es : List Expr} {ta : TE} {t : TA} {pl : Sem Bool}
    (he : PE X o ta) (c : Cls X.K C) (hm : Meth X.K C m f) (F : FnOk X.prog X.w X.K X.mg X.base CX k f fd ps sp) (hr : Room k X.A) (hb : Binds X.K fd ps []) (hx : ∀ σ, PassesAt CX X σ (E σ)) (ha : PA X (e :: es) t)
    (z1 : starEach (e :: es) X.env = (false, eval e X.env) :: starEach es X.env := by rfl) (z2 : (backTo pos (starEach es X.env)).any (·.1) = false := by rfl)
    (z3 : eval (.Call (.Attribute o m apos) (e :: es) [] pos) X.env = (do { let ov ← eval o X.env; standAt apos.atName; let (f, first) ← holding [ov] (getMethod ov m pl); callWith pos f first (backTo pos (starEach (e :: es) X.env)) (backToKw pos (keywordEach [] X.env)) }) := by rfl) :
    PE X (.Call (.Attribute o m apos) (e :: es) [] pos) (tMX C m sp E ta t) := ⟨fun pins s σ H Q I h => PySem.W.methodCall_KW (pl := pl) (thn (he.run pins s σ H _ I h) fun u s1 hh => by
  obtain ⟨x, G, J, rx, a, dx, fs, ex, ea, l, q⟩ := hh
  subst ex
  cases (show u = Value.ref a from rx)
  exact getmeth_ok J ea c hm l (PySem.W.callWith_K (first := [.ref a]) (h₀ := X.base) I.ok.mod.kin hm.kp (thn (ha.run pos pins s1 σ G _ J q) fun us s2 ⟨vs, G2, J2, r, q2⟩ => ⟨J2.kIn, run_fnS (us := .ref a :: us) (vs := .ref a :: vs) F hr hb (hx σ) J2 (.cons rfl r) q2⟩) z1 z2)) z3⟩
/-- a block under a proposition -/
theorem pss_guard {X : Cx} {b : List Stmt} {t : TS} {p : Prop} (h : p → PSs X b t) : PSs X b (fun D σ H => p ∧ t D σ H) := ⟨fun pins s σ H D I q => (h q.1).run pins s σ H D I q.2⟩
/-- try: .. except X as n: suite, the errors of the body of one own class without fields -/
theorem ps_try_own {X : Cx} {C : Addr} {x n : Str} {c : Value} {i : Nat} {body suite : List Stmt} {b₀ : Stmt} {np pos pos' : Pos} {tb : WX → TS} {ts : Addr → TS} {Wout : WX} (hs : X.stack = X.env :: X.outer) (hf : X.env.frame = some X.env.locals) (hN : X.N.Nodup) (hi : X.N[i]? = some n) (hln : X.env.kindOf n = some .local) (hc : Names X x c) (tk : Takes X Wout)
    (hb : ∀ (W : WX) (pn : List (Addr × Obj)) (xe : Value → Shared → Prop), Takes (X.tr pn xe) W → PSs (X.tr pn xe) body (tb W))
    (hsu : ∀ (a : Addr) (oe : Obj) (pn : List (Addr × Obj)), Zc (.ref C) none oe → (∃ vs, oe.data = .fields vs) → PSs (X.suite a ((a, oe) :: pn)) (b₀ :: suite) (ts a)) :
    PS X (.Try body [.ExceptHandler (some (.Name x np)) (some n) (b₀ :: suite) pos'] [] [] pos) (fun D σ H => tb (wAs X.K c i (fun a cls d D σ H => (cls = .ref C ∧ d = none) ∧ ts a D σ H) Wout D) D σ H) :=
  ps_try_as hs hf hN hi hln hc tk (fun W pn xe tk' _ => hb W pn xe tk') (fun a oe cls d pn hz hf => pss_guard fun h => by
    obtain ⟨h1, h2⟩ := h
    subst h1
    subst h2
    exact hsu a oe pn hz hf)
/-- the same without a name -/
theorem ps_try_ownN {X : Cx} {C : Addr} {x : Str} {c : Value} {body suite : List Stmt} {b₀ : Stmt} {np pos pos' : Pos} {tb : WX → TS} {ts : Addr → TS} {Wout : WX} (hs : X.stack = X.env :: X.outer) (hf : X.env.frame = some X.env.locals) (hc : Names X x c) (tk : Takes X Wout)
    (hb : ∀ (W : WX) (pn : List (Addr × Obj)) (xe : Value → Shared → Prop), Takes (X.tr pn xe) W → PSs (X.tr pn xe) body (tb W))
    (hsu : ∀ (a : Addr) (oe : Obj) (pn : List (Addr × Obj)), Zc (.ref C) none oe → (∃ vs, oe.data = .fields vs) → PSs (X.suite a ((a, oe) :: pn)) (b₀ :: suite) (ts a)) :
    PS X (.Try body [.ExceptHandler (some (.Name x np)) none (b₀ :: suite) pos'] [] [] pos) (fun D σ H => tb (wOnly X.K c (fun a cls d D σ H => (cls = .ref C ∧ d = none) ∧ ts a D σ H) Wout D) D σ H) :=
  ps_try_only hs hf hc tk (fun W pn xe tk' _ => hb W pn xe tk') (fun a oe cls d pn hz hf => pss_guard fun h => by
    obtain ⟨h1, h2⟩ := h
    subst h1
    subst h2
    exact hsu a oe pn hz hf)
/-- an own error class C over ValueError (through B), as the top left it -/
structure Err (K : PySem.W.Frag) (mg : Str → Option Value) (x : Str) (C B : Addr) : Prop where
  g : mg x = some (.ref C)
  kp : PySem.W.keepIn K (.ref C) = true
  ex : PySem.W.excIn K C [.type "ValueError", .type "Exception", .type "BaseException", .type "object"] "ValueError.__new__" = true
  bs : PySem.W.subIn K (.ref C) (.type "BaseException") = some true
  ty : PySem.W.typeIn K (.ref C) = some (.type "type")
  me : PySem.W.exmOne K (.ref C) (.ref C) = some true
  ec : ExcC K C
  k1 : PySem.W.kitOne K (.ref C) (.ref B) = some true
  k2 : PySem.W.kitOne K (.ref C) (.type "ValueError") = some true
theorem Err.mk' {X : Cx} {x m : Str} {C B : Addr} {j : Nat} {p p2 pos : Pos} (T : Err X.K X.mg x C B) (hg : Gl X x) (hdb : (x == ("__debug__" : Str)) = false := by decide) : PMk X (.Call (.Name x p) [.Constant (.str m) j p2] [] pos) (fun _ H Q => Q (.ref C) none H) :=
  pmk_own PySem.F.excBase_ValueError T.ex T.g T.kp (raises_own T.bs T.ty) hg hdb
/-- isinstance(e, T), e the error in hand -/
theorem ev_isE {K : PySem.W.Frag} {σ : L2.St} {H : Hp} {tx : TE} {D a : Addr} {i : Nat} {c : V} {cv : Value} {b : Bool} (h : σ[i]? = some (some (.ref a))) (hx : Ev tx σ H c) (hc : ∀ u, RelV c u → u = cv) (k : PySem.W.kitOne K (.ref D) cv = some b) : Ev (tCB (rIsE K D a) (tCons (tVar i) (tCons tx tNil))) σ H (.bl b) :=
  ev_cb (ea_cons (ev_var h) (ea_cons hx ea_nil)) fun H1 _ Q q => ⟨c, cv, b, rfl, hc, k, q H1 (Ex.refl H1)⟩
/-! ### slices and comprehensions of data -/
theorem cutA_from {α : Type} (xs : List α) (m : Nat) : cutA xs (some (m : Int)) none = xs.drop m := by
  unfold cutA
  rw [show HT.sIx xs.length 0 (some ((m : Nat) : Int)) = min m xs.length from HT.sIx_nat xs.length 0 m, HT.sIx_none]
  by_cases h : m ≤ xs.length
  · rw [Nat.min_eq_left h, ← List.length_drop, List.take_length]
  · rw [Nat.min_eq_right (by omega), List.drop_length, List.drop_eq_nil_of_le (by omega), List.take_nil]
theorem filter_from (m : Nat) : ∀ n : Nat, (List.range n).filter (fun k => decide (m ≤ k)) = (List.range n).drop m
  | 0 => by simp
  | n + 1 => by
    rw [List.range_succ, List.filter_append, filter_from m n]
    by_cases h : m ≤ n
    · rw [List.drop_append_of_le_length (by rw [List.length_range]; exact h), List.filter_cons, if_pos (by exact decide_eq_true h)]
      all_goals rfl
    · rw [List.filter_cons, if_neg (by rw [decide_eq_false h]; decide), List.filter_nil, List.append_nil, List.drop_eq_nil_of_le (by rw [List.length_range]; omega), List.drop_eq_nil_of_le (by rw [List.length_append, List.length_range, List.length_singleton]; omega)]
theorem range_getD {α : Type} (xs : List α) (d : α) : (List.range xs.length).map (fun i => xs.getD i d) = xs := by
  refine List.ext_getElem (by simp) (fun i h1 h2 => ?_)
  rw [List.getElem_map, List.getElem_range, List.getD_eq_getElem?_getD, List.getElem?_eq_getElem h2]
  rfl
theorem givenD_from (ds : List PyData) (m : Nat) (f : Nat → Bool) (hf : ∀ k, k < ds.length → f k = decide (m ≤ k)) : givenD ds.length f (fun k => ds.getD k .none) = ds.drop m := by
  unfold givenD
  have e : (List.range ds.length).filter f = (List.range ds.length).filter (fun k => decide (m ≤ k)) := List.filter_congr fun k hk => hf k (List.mem_range.mp hk)
  rw [e, filter_from, List.map_drop, range_getD]
theorem givenD_all (n : Nat) (g : Nat → PyData) : givenD n (fun _ => true) g = (List.range n).map g := by
  unfold givenD
  rw [List.filter_eq_self.mpr (fun _ _ => rfl)]
theorem atI_getD {α : Type} {xs : List α} {i : Int} {d : α} (h0 : 0 ≤ i) (h1 : i < (xs.length : Int)) : atI xs i = some (xs.getD i.toNat d) := by
  obtain ⟨j, rfl⟩ := Int.eq_ofNat_of_zero_le h0
  have hj : j < xs.length := by omega
  refine atI_nat ?_
  rw [show ((j : Int)).toNat = j from rfl, List.getD_eq_getElem?_getD, List.getElem?_eq_getElem hj]
  rfl
/-- range with great bounds -/
theorem q_forRngB {σ : L2.St} {H : Hp} {D : Ends} {tz : TS} {ta : TA} {j : Nat} {lo n : Int} {tu : TS} (h : EvA ta σ H [.int lo, .int n]) (hn : -(2 ^ 62) ≤ lo ∧ lo < 2 ^ 62 ∧ -(2 ^ 62) ≤ n ∧ n < 2 ^ 62) (Pv : Nat → L2.St → Hp → Prop) (h0 : ∀ H1, Ex H H1 → Pv 0 σ H1)
    (hs : ∀ (i : Nat) σ' H', lo + (i : Int) < n → Pv i σ' H' → tu { D with nx := Pv (i + 1), ct := Pv (i + 1), bk := tz D } (σ'.set j (some (.int (lo + (i : Int))))) H') (hd : ∀ σ' H', Pv (n - lo).toNat σ' H' → tz D σ' H') : tSeq (tFor (iRng2 ta) (gName j) tu) tz D σ H :=
  h H (Ex.refl H) _ fun H1 e => ⟨lo, n, rfl, hn, for_range (lo := lo) (n := (n - lo).toNat) Pv (h0 H1 e) (fun i σ' H' hi p => hs i σ' H' (by omega) p) hd⟩

/-! ### a method of the text, its class's own -/
structure Dm (K : PySem.W.Frag) (C : Addr) (x qual : Str) (st : Stmt) (ps : List Str) (f : Addr) (fd : FuncData) : Prop where
  F : Fun K x qual st f fd
  b : Binds K fd ps []
  m : Meth K C x f
theorem dm_mk {K : PySem.W.Frag} {h : Heap} (X : K.In h) {C : Addr} {x qual : Str} {st : Stmt} {ps : List Str} {f : Addr} {oc : Value} {od an : Option Addr} {sl : Array (Option Value)} {kV dc pm cd ct : Value}
    (a : PySem.W.findIn K (.ref C) x = some (some (.ref f))) (i : PySem.W.isFn K (.ref f) = true) (l : K.lookup f = some ⟨oc, od, .func (PySem.W.fnOf x qual (defArgs st) (defBody st) (defScope st) .none kV dc pm an cd ct), sl⟩) (c : PySem.W.codeIn K cd qual = true) (k : PySem.W.keepIn K (.ref f) = true)
    (hb : ∀ (kV doc pm : Value) (an : Option Addr) (cdv ct : Value) (us : List Value), us.length = ps.length → bindArgs (PySem.W.fnOf x qual (defArgs st) (defBody st) (defScope st) .none kV doc pm an cdv ct) ⟨us, []⟩ = pure (ps.zip us)) :
    ∃ f fd, Dm K C x qual st ps f fd := ⟨_, _, fun_mk l c k, (fun_mk l c k).binds hb, ⟨a, i, k⟩⟩
/-- a class of the text with an __init__ -/
structure Kl (K : PySem.W.Frag) (mg : Str → Option Value) (x : Str) (C : Addr) : Prop where
  cl : Cls K C
  g : mg x = some (.ref C)
  makes : PySem.W.makesIn K C = true
  kp : PySem.W.keepIn K (.ref C) = true
theorem Kl.make {K : PySem.W.Frag} {mg : Str → Option Value} {x : Str} {C f : Addr} {q : Str} {st : Stmt} {ps : List Str} {fd : FuncData} (L : Kl K mg x C) (D : Dm K C "__init__" q st ps f fd) : Mk K C f := ⟨L.makes, D.m.at_, D.m.fn, L.kp⟩
theorem kl_mk {K : PySem.W.Frag} {h : Heap} {mg : Str → Option Value} {x : Str} {C : Addr} (X : K.In h) (G : h.Ns mainGlobals mg) (a : PySem.W.nsIn K mainGlobals x = some (some (.ref C))) (pg : PySem.W.plainGet K C Str.empty = true) (hd : PySem.W.hasDictIn K C = true) (po : PySem.W.plainOver K C = true)
    (sa : PySem.W.findIn K (.ref C) "__setattr__" = some (some (.builtin "object.__setattr__"))) (mk : PySem.W.makesIn K C = true) (kp : PySem.W.keepIn K (.ref C) = true) : Kl K mg x C := ⟨⟨pg, hd, po, sa⟩, PySem.W.mg_of X G a, mk, kp⟩
theorem na_mk {K : PySem.W.Frag} {h : Heap} {C : Addr} {f : Str} (X : K.In h) (a : PySem.W.findIn K (.ref C) f = some none) : NoAttr K C f := a
/-- a property of an own class: its getter -/
structure Pr (K : PySem.W.Frag) (C : Addr) (x qual : Str) (st : Stmt) (f : Addr) (fd : FuncData) : Prop where
  F : Fun K x qual st f fd
  b : Binds K fd ["self"] []
  p : ∃ p, PropOf K C x p f
theorem pr_mk {K : PySem.W.Frag} {h : Heap} (X : K.In h) {C : Addr} {x qual : Str} {st : Stmt} {f p : Addr} {rest : List Value} {oc : Value} {od an : Option Addr} {sl : Array (Option Value)} {kV dc pm cd ct : Value}
    (a : PySem.W.findIn K (.ref C) x = some (some (.ref p))) (g : PySem.W.specialIn K (.ref p) "__get__" = some (some (.builtin "property.__get__"))) (t : PySem.W.takesIn K (.ref p) = some true) (r : PySem.W.recIn K p "property" = some (.ref f :: rest))
    (l : K.lookup f = some ⟨oc, od, .func (PySem.W.fnOf x qual (defArgs st) (defBody st) (defScope st) .none kV dc pm an cd ct), sl⟩) (c : PySem.W.codeIn K cd qual = true) (k : PySem.W.keepIn K (.ref f) = true)
    (hb : ∀ (kV doc pm : Value) (an : Option Addr) (cdv ct : Value) (us : List Value), us.length = (["self"] : List Str).length → bindArgs (PySem.W.fnOf x qual (defArgs st) (defBody st) (defScope st) .none kV doc pm an cdv ct) ⟨us, []⟩ = pure ((["self"] : List Str).zip us)) :
    ∃ f fd, Pr K C x qual st f fd := ⟨_, _, fun_mk l c k, (fun_mk l c k).binds hb, p, ⟨a, g, t, rest, r⟩⟩
theorem pe_pr {X : Cx} {CX : CXT} {k : Nat} {C g : Addr} {f : Str} {fd : FuncData} {sp : Sp} {E : XK} {e : Expr} {pos : Pos} {ta : TE} {q : Str} {st : Stmt} (he : PE X e ta) (c : Cls X.K C) (hp : Pr X.K C f q st g fd) (F : FnOk X.prog X.w X.K X.mg X.base CX k g fd ["self"] sp) (hr : Room (k + 1) X.A) (hx : Passes CX X.nox E)
    (hab : attributeBase e f X.env (eval e X.env) = eval e X.env) : PE X (.Attribute e f pos) (tProp C sp [] E ta) := by
  obtain ⟨p, hp'⟩ := hp.p
  exact pe_prop he c hp' F hr hp.b .nil hx hab
section
variable {K : PySem.W.Frag} {σ : L2.St} {H H' : Hp} {ta tb te : TE} {ds es : List PyData}
theorem en_catV {a : Addr} {xs : List V} (ha : Ev ta σ H (.ref a)) (h : H a = some (.lst xs)) (hd : DpAll K H xs ds) (hb : EvN K tb σ H es) (hl : ds.length + es.length ≤ 100000) : EvN K (tOp rCat ta tb) σ H (ds ++ es) := fun H1 e Q q =>
  ha H1 e _ fun H2 e2 => hb H2 (e.trans e2) _ fun p' ys H3 np' e3 hp' ht =>
    ⟨a, p', xs, ys, rfl, rfl, ((e.trans e2).trans e3) _ _ h, hp', by rw [dpa_len hd, dpa_len ht]; exact sz_of hl, fun o ho => q o _ _ (fresh_back (e2.trans e3) ho) ((e2.trans e3).trans (Ex.new ho)) upd_same
      (dpa_app (dpa_mono ov_base ds xs hd) (dpa_mono ((ov_later e2).trans (ov_grow (Ex.new ho))) es ys ht))⟩
theorem el_cat {xs ys : List V} (ha : EvL ta σ H xs) (hb : EvL tb σ H ys) (hl : xs.length + ys.length ≤ 100000) : EvL (tOp rCat ta tb) σ H (xs ++ ys) := fun H1 e Q q =>
  ha H1 e _ fun p H2 np e2 hp => hb H2 (e.trans e2) _ fun p' H3 np' e3 hp' => ⟨p, p', xs, ys, rfl, rfl, e3 _ _ hp, hp', sz_of hl, fun o ho => q o _ (fresh_back (e2.trans e3) ho) ((e2.trans e3).trans (Ex.new ho)) upd_same⟩
theorem el_rg2 {a b : Int} (ha : Ev ta σ H (.int a)) (hb : Ev tb σ H (.int b)) (ok : RgOk a b) : EvL (tLstRg (tRg2 ta tb)) σ H (rgV a b) := fun H1 e Q q =>
  ha H1 e _ fun H2 e2 => hb H2 (e.trans e2) _ fun H3 e3 => ⟨a, b, rfl, rfl, ok, fun p hp => q p _ (fresh_back (e2.trans e3) hp) ((e2.trans e3).trans (Ex.new hp)) upd_same⟩
theorem rc_max2 {i j : Int} : RC (fun xs H Q => ∃ i j, xs = [.int i, .int j] ∧ Q (.int (if j > i then j else i)) H) [.int i, .int j] H (.int (if j > i then j else i)) := fun H1 _ Q q => ⟨i, j, rfl, q H1 (Ex.refl H1)⟩
theorem rc_min2 {i j : Int} : RC (fun xs H Q => ∃ i j, xs = [.int i, .int j] ∧ Q (.int (if j < i then j else i)) H) [.int i, .int j] H (.int (if j < i then j else i)) := fun H1 _ Q q => ⟨i, j, rfl, q H1 (Ex.refl H1)⟩
end
theorem q_forRng3 {σ : L2.St} {H : Hp} {D : Ends} {tz : TS} {ta : TA} {j : Nat} {lo hi c : Int} {n : Nat} {tu : TS} (h : EvA ta σ H [.int lo, .int hi, .int c]) (hn : RgC lo hi c n) (Pv : Nat → L2.St → Hp → Prop) (h0 : ∀ H1, Ex H H1 → Pv 0 σ H1)
    (hs : ∀ (i : Nat) σ' H', i < n → Pv i σ' H' → tu { D with nx := Pv (i + 1), ct := Pv (i + 1), bk := tz D } (σ'.set j (some (.int (lo + (i : Int) * c)))) H') (hd : ∀ σ' H', Pv n σ' H' → tz D σ' H') : tSeq (tFor (iRng3 ta) (gName j) tu) tz D σ H :=
  h H (Ex.refl H) _ fun H1 e => ⟨lo, hi, c, n, rfl, hn, for_it walk_rangeC Pv (h0 H1 e) (fun _ _ _ _ _ => trivial) (fun i x σ' H1 H' hi p y => by
    obtain ⟨rfl, rfl⟩ := y
    exact hs i σ' _ hi p) hd⟩
/-- the part of a list from lo to hi -/
def rng {α : Type} (xs : List α) (lo hi : Nat) : List α := (xs.drop lo).take (hi - lo)
theorem rng_drop {α : Type} (xs : List α) (lo hi k : Nat) : (rng xs lo hi).drop k = rng xs (lo + k) hi := by
  unfold rng
  rw [List.drop_take, List.drop_drop, Nat.sub_sub]
theorem rng_nil {α : Type} (xs : List α) {lo hi : Nat} (h : hi ≤ lo) : rng xs lo hi = [] := by
  unfold rng
  rw [Nat.sub_eq_zero_of_le h, List.take_zero]
theorem rng_app {α : Type} (xs : List α) {a b c : Nat} (h1 : a ≤ b) (h2 : b ≤ c) : rng xs a b ++ rng xs b c = rng xs a c := by
  unfold rng
  have e : c - a = (b - a) + (c - b) := by omega
  rw [e, List.take_add, List.drop_drop, show a + (b - a) = b by omega]
theorem rng_len {α : Type} (xs : List α) {lo hi : Nat} (h1 : lo ≤ hi) (h2 : hi ≤ xs.length) : (rng xs lo hi).length = hi - lo := by
  unfold rng
  rw [List.length_take, List.length_drop]
  omega
theorem rng_all {α : Type} (xs : List α) (lo : Nat) : rng xs lo xs.length = xs.drop lo := by
  unfold rng
  rw [← List.length_drop, List.take_length]
theorem cutA_rng {α : Type} (xs : List α) {lo hi : Nat} (h : lo ≤ xs.length) : cutA xs (some (lo : Int)) (some (hi : Int)) = rng xs lo (min hi xs.length) := by
  unfold cutA rng
  rw [HT.sIx_nat, HT.sIx_nat, Nat.min_eq_left h]
theorem Sds.rng {n : Nat} {ds : List PyData} (h : Sds n ds) (a b : Nat) : Sds n (Ap.rng ds a b) := (h.drop _).take _
section
variable {σ : L2.St} {H : Hp} {ta : TE} {p : Addr}
theorem et_isY (h : Ev ta σ H .non) : EvT (tTest (tOp (fun x y H Q => y = .non ∧ Q (.bl (decide (x = .non))) H) ta (tC .non))) σ H true := et_test (ev_is (ev_op h ev_c (fun G _ _ q => ⟨rfl, q G (Ex.refl G)⟩)) (by rfl))
theorem et_isR (h : Ev ta σ H (.ref p)) : EvT (tTest (tOp (fun x y H Q => y = .non ∧ Q (.bl (decide (x = .non))) H) ta (tC .non))) σ H false := et_test (ev_is (v := .bl (decide (V.ref p = .non))) (ev_op h ev_c (fun G _ _ q => ⟨rfl, q G (Ex.refl G)⟩)) (by rw [decide_eq_false (fun h => nomatch h)]))
theorem et_notY (h : Ev ta σ H .non) : EvT (tTest (tOp (fun x y H Q => y = .non ∧ Q (.bl (!decide (x = .non))) H) ta (tC .non))) σ H false := et_test (ev_is (ev_op h ev_c (fun G _ _ q => ⟨rfl, q G (Ex.refl G)⟩)) (by rfl))
theorem et_notR (h : Ev ta σ H (.ref p)) : EvT (tTest (tOp (fun x y H Q => y = .non ∧ Q (.bl (!decide (x = .non))) H) ta (tC .non))) σ H true := et_test (ev_is (v := .bl (!decide (V.ref p = .non))) (ev_op h ev_c (fun G _ _ q => ⟨rfl, q G (Ex.refl G)⟩)) (by rw [decide_eq_false (fun h => nomatch h)]; rfl))
end
theorem kit_own {K : PySem.W.Frag} {t : Value} {B : Addr} (hd : PySem.W.hasDictIn K B = true) (ht : PySem.W.typeIn K (.ref B) = some (.type "type")) (hs : PySem.W.subIn K t (.ref B) = some true) : PySem.W.kitOne K t (.ref B) = some true := by
  obtain ⟨cd, hc, _⟩ := PySem.W.any_some hd
  unfold PySem.W.kitOne
  split
  · rfl
  · show (if ((PySem.W.clsIn K B).isSome && PySem.W.typeIn K (.ref B) == some (.type "type")) = true then PySem.W.subIn K t (.ref B) else none) = some true
    rw [hc, ht, if_pos (by rfl)]
    exact hs
theorem kit_blt {K : PySem.W.Frag} {t : Value} {n : String} (hm : PySem.W.kitMeta n = true) (hs : PySem.W.subIn K t (.type n) = some true) : PySem.W.kitOne K t (.type n) = some true := by
  unfold PySem.W.kitOne
  split
  · rfl
  · show (if PySem.W.kitMeta n = true then PySem.W.subIn K t (.type n) else none) = some true
    rw [if_pos hm]
    exact hs
theorem err_mk {K : PySem.W.Frag} {h : Heap} {mg : Str → Option Value} {x y : Str} {C B : Addr} (X : K.In h) (G : h.Ns mainGlobals mg) (a : PySem.W.nsIn K mainGlobals x = some (some (.ref C))) (b : PySem.W.nsIn K mainGlobals y = some (some (.ref B))) (kp : PySem.W.keepIn K (.ref C) = true)
    (ex : PySem.W.excIn K C [.type "ValueError", .type "Exception", .type "BaseException", .type "object"] "ValueError.__new__" = true) (bs : PySem.W.subIn K (.ref C) (.type "BaseException") = some true) (ty : PySem.W.typeIn K (.ref C) = some (.type "type")) (ss : PySem.W.subIn K (.ref C) (.ref C) = some true)
    (hg : PySem.W.findIn K (.ref C) "__getattribute__" = some (some (.builtin "BaseException.__getattribute__"))) (hk : PySem.W.findIn K (.ref C) "__getattr__" = some none) (hd : PySem.W.hasDictIn K C = true) (ha : PySem.W.findIn K (.ref C) "__class__" = some (some (.builtin "object.__class__")))
    (hn : PySem.W.specialIn K (.builtin "object.__class__") "__get__" = some (some (.builtin "getset_descriptor.__get__"))) (ht : PySem.W.takesIn K (.builtin "object.__class__") = some true) (hm : PySem.W.mroIn K C (.type "object") = some true)
    (dB : PySem.W.hasDictIn K B = true) (tB : PySem.W.typeIn K (.ref B) = some (.type "type")) (sb : PySem.W.subIn K (.ref C) (.ref B) = some true) (sv : PySem.W.subIn K (.ref C) (.type "ValueError") = some true) : Err K mg x C B ∧ mg y = some (.ref B) :=
  ⟨⟨PySem.W.mg_of X G a, kp, ex, bs, ty, PySem.W.exm_ref bs hd ty ss, ⟨hg, hk, bs, hd, ha, hn, ht, hm⟩, kit_own dB tB sb, kit_blt (by decide +kernel) sv⟩, PySem.W.mg_of X G b⟩
end Ap

set_option Elab.async false
set_option linter.all false
set_option maxRecDepth 100000
namespace Ap
open PySem PySem.Spec PyProof.Rows L2 Evl
/-! ### any object: as data, and dicts besides (what is in a dict is left open) -/
mutual
inductive Dx (K : PySem.W.Frag) (H : Hp) : V → PyData → Prop
  | non : Dx K H .non .none
  | bl (b : Bool) : Dx K H (.bl b) (.bool b)
  | int (i : Int) : Dx K H (.int i) (.int i)
  | str (x : Str) : Dx K H (.str x) (.str x)
  | lst {a : Addr} {xs : List V} {ds : List PyData} : SqL K H a xs → DxAll K H xs ds → Dx K H (.ref a) (.list ds)
  | tup {a : Addr} {xs : List V} {ds : List PyData} : SqT K H a xs → DxAll K H xs ds → Dx K H (.ref a) (.tuple ds)
  | dic {a : Addr} {kvs : List (Key × V)} : H a = some (.dK kvs) → Dx K H (.ref a) (.dict [])
inductive DxAll (K : PySem.W.Frag) (H : Hp) : List V → List PyData → Prop
  | nil : DxAll K H [] []
  | cons {v : V} {vs : List V} {d : PyData} {ds : List PyData} : Dx K H v d → DxAll K H vs ds → DxAll K H (v :: vs) (d :: ds)
end
mutual
theorem dx_dp {K : PySem.W.Frag} {H : Hp} : ∀ (d : PyData) (v : V), Dx K H v d → d.canLay0 = true → Dp K H v d
  | .none, _, h, _ => by cases h; exact .non
  | .bool b, _, h, _ => by cases h; exact .bl b
  | .int i, _, h, _ => by cases h; exact .int i
  | .str x, _, h, _ => by cases h; exact .str x
  | .list ds, _, h, c => by
    cases h with
    | lst hs ha => exact .lst hs (dxa_dpa ds _ ha (by simpa [PyData.canLay0] using c))
  | .tuple ds, _, h, c => by
    cases h with
    | tup hs ha => exact .tup hs (dxa_dpa ds _ ha (by simpa [PyData.canLay0] using c))
  | .dict _, _, _, c => by simp [PyData.canLay0] at c
theorem dxa_dpa {K : PySem.W.Frag} {H : Hp} : ∀ (ds : List PyData) (vs : List V), DxAll K H vs ds → PyData.canLayAll0 ds = true → DpAll K H vs ds
  | [], _, h, _ => by cases h; exact .nil
  | d :: ds, _, h, c => by
    have c' : d.canLay0 = true ∧ PyData.canLayAll0 ds = true := by simpa [PyData.canLayAll0] using c
    cases h with
    | cons h1 h2 => exact .cons (dx_dp d _ h1 c'.1) (dxa_dpa ds _ h2 c'.2)
end
/-! ### data: what a value stands for, whatever grows around it -/
section
variable {K : PySem.W.Frag} {H H' : Hp}
mutual
theorem dx_mono (e : Ex H H') : ∀ (d : PyData) (v : V), Dx K H v d → Dx K H' v d
  | .none, _, h => by cases h; exact .non
  | .bool b, _, h => by cases h; exact .bl b
  | .int i, _, h => by cases h; exact .int i
  | .str x, _, h => by cases h; exact .str x
  | .list ds, _, h => by
    cases h with
    | lst hs ha => exact .lst (Evl.ex_l e hs) (dxa_mono e ds _ ha)
  | .tuple ds, _, h => by
    cases h with
    | tup hs ha => exact .tup (ex_t e hs) (dxa_mono e ds _ ha)
  | .dict _, _, h => by
    cases h with
    | dic h => exact .dic (e _ _ h)
theorem dxa_mono (e : Ex H H') : ∀ (ds : List PyData) (vs : List V), DxAll K H vs ds → DxAll K H' vs ds
  | [], _, h => by cases h; exact .nil
  | d :: ds, _, h => by
    cases h with
    | cons h1 h2 => exact .cons (dx_mono e d _ h1) (dxa_mono e ds _ h2)
end
theorem dxa_len : ∀ {vs : List V} {ds : List PyData}, DxAll K H vs ds → vs.length = ds.length
  | _, _, .nil => rfl
  | _, _, .cons _ h => by rw [List.length_cons, List.length_cons, dxa_len h]
theorem dxa_at : ∀ {vs : List V} {ds : List PyData} {i : Nat} {d : PyData}, DxAll K H vs ds → ds[i]? = some d → ∃ v, vs[i]? = some v ∧ Dx K H v d
  | _, _, i, d, .nil, h => by simp at h
  | _, _, 0, d, .cons h1 _, h => ⟨_, rfl, by
    have e := Option.some.inj (show some _ = some d from h)
    rw [← e]
    exact h1⟩
  | _, _, i + 1, d, .cons _ h2, h => by
    obtain ⟨v, e, q⟩ := dxa_at (i := i) h2 (by simpa using h)
    exact ⟨v, by simpa using e, q⟩
theorem dxa_atV : ∀ {vs : List V} {ds : List PyData} {i : Nat} {v : V}, DxAll K H vs ds → vs[i]? = some v → ∃ d, ds[i]? = some d ∧ Dx K H v d
  | _, _, i, v, .nil, h => by simp at h
  | _, _, 0, v, .cons h1 _, h => ⟨_, rfl, by
    have e := Option.some.inj (show some _ = some v from h)
    rw [← e]
    exact h1⟩
  | _, _, i + 1, v, .cons _ h2, h => by
    obtain ⟨d, e, q⟩ := dxa_atV (i := i) h2 (by simpa using h)
    exact ⟨d, by simpa using e, q⟩
theorem dxa_app : ∀ {vs ws : List V} {ds es : List PyData}, DxAll K H vs ds → DxAll K H ws es → DxAll K H (vs ++ ws) (ds ++ es)
  | _, _, _, _, .nil, h => h
  | _, _, _, _, .cons h1 h2, h => .cons h1 (dxa_app h2 h)
theorem dxa_one {v : V} {d : PyData} (h : Dx K H v d) : DxAll K H [v] [d] := .cons h .nil
theorem dxa_drop : ∀ {vs : List V} {ds : List PyData} (n : Nat), DxAll K H vs ds → DxAll K H (vs.drop n) (ds.drop n)
  | _, _, 0, h => h
  | _, _, n + 1, .nil => .nil
  | _, _, n + 1, .cons _ h2 => dxa_drop n h2
theorem dxa_take : ∀ {vs : List V} {ds : List PyData} (n : Nat), DxAll K H vs ds → DxAll K H (vs.take n) (ds.take n)
  | _, _, 0, _ => .nil
  | _, _, n + 1, .nil => .nil
  | _, _, n + 1, .cons h1 h2 => .cons h1 (dxa_take n h2)
theorem dxa_ints : ∀ (ns : List Int), DxAll K H (ns.map V.int) (ns.map PyData.int)
  | [] => .nil
  | n :: r => .cons (.int n) (dxa_ints r)
end

/-! ### what evaluates to data -/
def EvX (K : PySem.W.Frag) (te : TE) (σ : L2.St) (H : Hp) (d : PyData) : Prop := ∀ H1, Ex H H1 → ∀ Q : VK, (∀ v H2, Ex H1 H2 → Dx K (ov H H1 H2) v d → Q v H2) → te σ H1 Q
def EvXs (K : PySem.W.Frag) (ta : TA) (σ : L2.St) (H : Hp) (ds : List PyData) : Prop := ∀ H1, Ex H H1 → ∀ Q : List V → Hp → Prop, (∀ vs H2, Ex H1 H2 → DxAll K (ov H H1 H2) vs ds → Q vs H2) → ta σ H1 Q
/-- a new list of data -/
def EvXN (K : PySem.W.Frag) (te : TE) (σ : L2.St) (H : Hp) (ds : List PyData) : Prop := ∀ H1, Ex H H1 → ∀ Q : VK, (∀ p xs H2, H1 p = none → Ex H1 H2 → H2 p = some (.lst xs) → DxAll K (ov H H1 H2) xs ds → Q (.ref p) H2) → te σ H1 Q
section
variable {K : PySem.W.Frag} {σ : L2.St} {H H' : Hp} {ta tb tc te : TE} {t u : TT} {x y z v w : V} {d e : PyData} {ds es : List PyData} {r : R2}
theorem ex_of (h : Ev te σ H v) (hd : Dx K H v d) : EvX K te σ H d := fun H1 e Q q => h H1 e Q fun H2 e2 => q v H2 e2 (dx_mono ov_base d v hd)
theorem ex_var {i : Nat} (h : σ[i]? = some (some v)) (hd : Dx K H v d) : EvX K (tVar i) σ H d := ex_of (ev_var h) hd
theorem ex_int {i : Int} (h : Ev te σ H (.int i)) : EvX K te σ H (.int i) := ex_of h (.int i)
theorem ex_str {s : Str} : EvX K (tC (.str s)) σ H (.str s) := ex_of ev_c (.str s)
theorem ex_bool {b : Bool} (h : Ev te σ H (.bl b)) : EvX K te σ H (.bool b) := ex_of h (.bl b)
theorem ex_non : EvX K (tC .non) σ H .none := ex_of ev_c .non
theorem ex_is (h : EvX K te σ H d) (q : d = e) : EvX K te σ H e := q ▸ h
theorem EvX.mono (e : Ex H H') (h : EvX K te σ H d) : EvX K te σ H' d := fun H1 a Q q => h H1 (e.trans a) Q fun v H2 e2 hd => q v H2 e2 (dx_mono (fun b o hb => by
  unfold ov at hb ⊢
  cases h0 : H b with
  | some o' => rw [h0] at hb; rw [e b o' h0]; exact hb
  | none =>
    rw [h0] at hb
    cases h1 : H1 b with
    | some o' => rw [h1] at hb; cases hb
    | none =>
      rw [h1] at hb
      rw [fresh_back a h1]
      exact hb) d v hd)
theorem exs_nil : EvXs K tNil σ H [] := fun H1 _ _ q => q [] H1 (Ex.refl H1) .nil
theorem exs_cons {tr : TA} (h : EvX K te σ H d) (hr : EvXs K tr σ H ds) : EvXs K (tCons te tr) σ H (d :: ds) := fun H1 e Q q =>
  h H1 e _ fun v H2 e2 hv => hr H2 (e.trans e2) _ fun vs H3 e3 hs => q _ H3 (e2.trans e3) (.cons (dx_mono (ov_grow e3) d v hv) (dxa_mono (ov_later e2) ds vs hs))
theorem ex_tup {ta : TA} (h : EvXs K ta σ H ds) (hl : ds.length ≤ 100000) : EvX K (tTup ta) σ H (.tuple ds) := fun H1 e Q q =>
  h H1 e _ fun vs H2 e2 hs => ⟨by rw [dxa_len hs]; exact sz_of hl, fun p hp => q _ _ (e2.trans (Ex.new hp)) (.tup (st_of (ov_new e e2 hp)) (dxa_mono (ov_grow (Ex.new hp)) ds vs hs))⟩
theorem exn_lst {ta : TA} (h : EvXs K ta σ H ds) (hl : ds.length ≤ 100000) : EvXN K (tLst ta) σ H ds := fun H1 e Q q =>
  h H1 e _ fun vs H2 e2 hs => ⟨by rw [dxa_len hs]; exact sz_of hl, fun p hp => q p vs _ (fresh_back e2 hp) (e2.trans (Ex.new hp)) upd_same (dxa_mono (ov_grow (Ex.new hp)) ds vs hs)⟩
theorem ex_new (h : EvXN K te σ H ds) : EvX K te σ H (.list ds) := fun H1 e Q q => h H1 e _ fun p xs H2 np e2 hp hs => q _ H2 e2 (.lst (sq_of (by
  have h1 := fresh_back e np
  unfold ov
  rw [h1, np]
  exact hp)) hs)
theorem ex_ixT {i : Int} (ha : EvX K ta σ H (.tuple ds)) (hb : Ev tb σ H (.int i)) (h : atI ds i = some d) : EvX K (tOp (rIxT K) ta tb) σ H d := fun H1 e Q q =>
  ha H1 e _ fun v H2 e2 hv => hb H2 (e.trans e2) _ fun H3 e3 => by
    cases hv with
    | tup hs hd =>
      obtain ⟨j, hj, hx⟩ := atI_len (dxa_len hd) h
      obtain ⟨x, ex, dx⟩ := dxa_at hd hj
      exact ⟨_, _, i, x, rfl, rfl, ex_t ((ov_ex e e2).trans e3) hs, hx x ex, q x H3 (e2.trans e3) (dx_mono (ov_grow e3) d x dx)⟩
theorem ex_ixL {i : Int} (ha : EvX K ta σ H (.list ds)) (hb : Ev tb σ H (.int i)) (h : atI ds i = some d) : EvX K (tOp (rIxL K) ta tb) σ H d := fun H1 e Q q =>
  ha H1 e _ fun v H2 e2 hv => hb H2 (e.trans e2) _ fun H3 e3 => by
    cases hv with
    | lst hs hd =>
      obtain ⟨j, hj, hx⟩ := atI_len (dxa_len hd) h
      obtain ⟨x, ex, dx⟩ := dxa_at hd hj
      exact ⟨_, _, i, x, rfl, rfl, Evl.ex_l ((ov_ex e e2).trans e3) hs, hx x ex, q x H3 (e2.trans e3) (dx_mono (ov_grow e3) d x dx)⟩
theorem dxa_cut {vs : List V} {lo hi : Option Int} (h : DxAll K H vs ds) : DxAll K H (cutV vs lo hi) (cutA ds lo hi) := by
  unfold cutV cutA
  rw [dxa_len h]
  exact dxa_take _ (dxa_drop _ h)
theorem ex_slT {tl th : TO} {lo hi : Option Int} (h : EvX K te σ H (.tuple ds)) (h1 : EvO tl σ H lo) (h2 : EvO th σ H hi) : EvX K (tSl (rSlA K) te tl th) σ H (.tuple (cutA ds lo hi)) := fun H1 e Q q =>
  h H1 e _ fun v H2 e2 hv => h1 H2 (e.trans e2) _ fun H3 e3 => h2 H3 ((e.trans e2).trans e3) _ fun H4 e4 => by
    have e24 := e2.trans (e3.trans e4)
    cases hv with
    | @tup a xs _ hs hd =>
      refine ⟨a, xs, rfl, ex_t ((ov_ex e e2).trans (e3.trans e4)) hs, fun hw => q _ H4 e24 (.tup (ex_t (ov_grow (e3.trans e4)) hs) ?_), fun _ p hp => q _ _ (e24.trans (Ex.new hp)) (.tup (st_of (ov_new e e24 hp)) (dxa_cut (dxa_mono (ov_grow ((e3.trans e4).trans (Ex.new hp))) ds xs hd)))⟩
      have ec : cutA ds lo hi = ds := by
        unfold cutA
        rw [← dxa_len hd, hw.1, hw.2, List.drop_zero, Nat.sub_zero, dxa_len hd, List.take_length]
      rw [ec]
      exact dxa_mono (ov_grow (e3.trans e4)) ds xs hd
theorem exn_slL {tl th : TO} {lo hi : Option Int} (h : EvX K te σ H (.list ds)) (h1 : EvO tl σ H lo) (h2 : EvO th σ H hi) : EvXN K (tSl (rSlL K) te tl th) σ H (cutA ds lo hi) := fun H1 e Q q =>
  h H1 e _ fun v H2 e2 hv => h1 H2 (e.trans e2) _ fun H3 e3 => h2 H3 ((e.trans e2).trans e3) _ fun H4 e4 => by
    have e24 := e2.trans (e3.trans e4)
    cases hv with
    | @lst a xs _ hs hd =>
      exact ⟨a, xs, rfl, Evl.ex_l ((ov_ex e e2).trans (e3.trans e4)) hs, fun p hp => q p _ _ (fresh_back e24 hp) (e24.trans (Ex.new hp)) upd_same (dxa_cut (dxa_mono (ov_grow ((e3.trans e4).trans (Ex.new hp))) ds xs hd))⟩
theorem ex_catT (ha : EvX K ta σ H (.tuple ds)) (hb : EvX K tb σ H (.tuple es)) (hl : ds.length + es.length ≤ 100000) : EvX K (tOp (rCatA K) ta tb) σ H (.tuple (ds ++ es)) := fun H1 e Q q =>
  ha H1 e _ fun v H2 e2 hv => hb H2 (e.trans e2) _ fun w H3 e3 hw => by
    have e13 := e2.trans e3
    cases hv with
    | @tup a xs _ hs hd =>
      cases hw with
      | @tup b ys _ ht he =>
        have hs3 := ex_t ((ov_ex e e2).trans e3) hs
        have ht3 := ex_t (ov_ex (e.trans e2) e3) ht
        have hd3 := dxa_mono (ov_grow e3) ds xs hd
        have he3 := dxa_mono (ov_later e2) es ys he
        have ld := dxa_len hd
        have le := dxa_len he
        refine ⟨a, b, xs, ys, rfl, rfl, hs3, ht3, sz_of (by omega), fun h0 => ?_, fun _ h0 => ?_, fun _ _ p hp => q _ _ (e13.trans (Ex.new hp)) (.tup (st_of (ov_new e e13 hp)) (dxa_app (dxa_mono (ov_grow (Ex.new hp)) ds xs hd3) (dxa_mono (ov_grow (Ex.new hp)) es ys he3)))⟩
        · have z : ds = [] := List.eq_nil_of_length_eq_zero (by rw [← ld, h0]; rfl)
          subst z
          exact q _ _ e13 (.tup (ex_t (ov_later e2) ht) he3)
        · have z : es = [] := List.eq_nil_of_length_eq_zero (by rw [← le, h0]; rfl)
          subst z
          exact q _ _ e13 (.tup (ex_t (ov_grow e3) hs) (by rw [List.append_nil]; exact hd3))
theorem exn_cat (ha : EvXN K ta σ H ds) (hb : EvXN K tb σ H es) (hl : ds.length + es.length ≤ 100000) : EvXN K (tOp rCat ta tb) σ H (ds ++ es) := fun H1 e Q q =>
  ha H1 e _ fun p xs H2 np e2 hp hs => hb H2 (e.trans e2) _ fun p' ys H3 np' e3 hp' ht =>
    ⟨p, p', xs, ys, rfl, rfl, e3 _ _ hp, hp', by rw [dxa_len hs, dxa_len ht]; exact sz_of hl, fun o ho => q o _ _ (fresh_back (e2.trans e3) ho) ((e2.trans e3).trans (Ex.new ho)) upd_same
      (dxa_app (dxa_mono (ov_grow (e3.trans (Ex.new ho))) ds xs hs) (dxa_mono ((ov_later e2).trans (ov_grow (Ex.new ho))) es ys ht))⟩
/-- a list that stands in the base, by its items -/
theorem exn_tup {a : Addr} {xs : List V} (ha : Ev ta σ H (.ref a)) (hs : SqL K H a xs) (hd : DxAll K H xs ds) : EvX K (tThen ta (kTup K)) σ H (.tuple ds) := fun H1 e Q q =>
  ha H1 e _ fun H2 e2 => .inl ⟨a, xs, rfl, Evl.ex_l (e.trans e2) hs, fun p hp => q _ _ (e2.trans (Ex.new hp)) (.tup (st_of (ov_new e e2 hp)) (dxa_mono ov_base ds xs hd))⟩
theorem ex_tupOf (ha : EvX K ta σ H (.list ds)) : EvX K (tThen ta (kTup K)) σ H (.tuple ds) := fun H1 e Q q =>
  ha H1 e _ fun v H2 e2 hv => by
    cases hv with
    | @lst a xs _ hs hd => exact .inl ⟨a, xs, rfl, Evl.ex_l (ov_ex e e2) hs, fun p hp => q _ _ (e2.trans (Ex.new hp)) (.tup (st_of (ov_new e e2 hp)) (dxa_mono (ov_grow (Ex.new hp)) ds xs hd))⟩
theorem ev_eqX {n m : Nat} (ha : EvX K ta σ H d) (hb : EvX K tb σ H e) (sd : Sd n d) (se : Sd m e) (hn : n ≤ 64) (hm : m ≤ 64) : Ev (tOp (rEqD K) ta tb) σ H (.bl (PyData.eqv d e)) := fun H1 a Q q =>
  ha H1 a _ fun v H2 e2 hv => hb H2 (a.trans e2) _ fun w H3 e3 hw => ⟨d, e, dx_dp _ _ (dx_mono ((ov_ex a e2).trans e3) d v hv) sd.1, dx_dp _ _ (dx_mono (ov_ex (a.trans e2) e3) e w hw) se.1, sd.shaped hn, se.shaped hm, q H3 (e2.trans e3)⟩
theorem ev_neX {n m : Nat} (ha : EvX K ta σ H d) (hb : EvX K tb σ H e) (sd : Sd n d) (se : Sd m e) (hn : n ≤ 64) (hm : m ≤ 64) : Ev (tOp (rNeD K) ta tb) σ H (.bl (!PyData.eqv d e)) := fun H1 a Q q =>
  ha H1 a _ fun v H2 e2 hv => hb H2 (a.trans e2) _ fun w H3 e3 hw => ⟨d, e, dx_dp _ _ (dx_mono ((ov_ex a e2).trans e3) d v hv) sd.1, dx_dp _ _ (dx_mono (ov_ex (a.trans e2) e3) e w hw) se.1, sd.shaped hn, se.shaped hm, q H3 (e2.trans e3)⟩
/-- the two sides are one: != is False -/
theorem ev_neSelfX {n : Nat} (ha : EvX K ta σ H d) (hb : EvX K tb σ H d) (sd : Sd n d) (hn : n ≤ 64) : Ev (tOp (rNeD K) ta tb) σ H (.bl false) := ev_is (ev_neX ha hb sd sd hn hn) (by rw [sd.self]; rfl)
theorem ev_eqSelfX {n : Nat} (ha : EvX K ta σ H d) (hb : EvX K tb σ H d) (sd : Sd n d) (hn : n ≤ 64) : Ev (tOp (rEqD K) ta tb) σ H (.bl true) := ev_is (ev_eqX ha hb sd sd hn hn) (by rw [sd.self])
theorem ev_lenX (ha : EvX K ta σ H (.list ds)) : Ev (tCB (fun xs H Q => ∃ p ys, xs = [.ref p] ∧ (SqL K H p ys ∨ SqT K H p ys) ∧ Q (.int ys.length) H) (tCons ta tNil)) σ H (.int (ds.length : Int)) := fun H1 e Q q =>
  ha H1 e _ fun v H2 e2 hv => by
    cases hv with
    | @lst a xs _ hs hd => exact ⟨a, xs, rfl, .inl (Evl.ex_l (ov_ex e e2) hs), by rw [dxa_len hd]; exact q H2 e2⟩
theorem ev_lenXT (ha : EvX K ta σ H (.tuple ds)) : Ev (tCB (fun xs H Q => ∃ p ys, xs = [.ref p] ∧ (SqL K H p ys ∨ SqT K H p ys) ∧ Q (.int ys.length) H) (tCons ta tNil)) σ H (.int (ds.length : Int)) := fun H1 e Q q =>
  ha H1 e _ fun v H2 e2 hv => by
    cases hv with
    | @tup a xs _ hs hd => exact ⟨a, xs, rfl, .inr (ex_t (ov_ex e e2) hs), by rw [dxa_len hd]; exact q H2 e2⟩
theorem ex_if {b : Bool} (h : EvT t σ H b) (h1 : b = true → EvX K ta σ H d) (h2 : b = false → EvX K tb σ H d) : EvX K (tIf t ta tb) σ H d := fun H1 e Q q => h H1 e _ fun H2 e2 => by
  cases b with
  | true =>
    show ta σ H2 Q
    exact h1 rfl H2 (e.trans e2) Q fun v H3 e3 hv => q v H3 (e2.trans e3) (dx_mono (ov_later e2) d v hv)
  | false =>
    show tb σ H2 Q
    exact h2 rfl H2 (e.trans e2) Q fun v H3 e3 hv => q v H3 (e2.trans e3) (dx_mono (ov_later e2) d v hv)
/-- a promise that gives data, over a base that the caller names -/
def RetX (K : PySem.W.Frag) (B : Hp) (d : PyData) (H : Hp) (Q : VK) : Prop := ∀ v H2, Ex H H2 → Dx K (ov B H H2) v d → Q v H2
def SpX (K : PySem.W.Frag) (sp : Sp) (vs : List V) (H : Hp) (d : PyData) : Prop := ∀ H1, Ex H H1 → ∀ Q : VK, (∀ v H2, Ex H1 H2 → Dx K (ov H H1 H2) v d → Q v H2) → ∀ E : XK, sp vs H1 Q E
theorem ex_call {sp : Sp} {dvs vs : List V} {E : XK} {ta : TA} (h : EvA ta σ H vs) (hs : SpX K sp (vs ++ dvs) H d) : EvX K (tCall sp dvs E ta) σ H d := fun H1 e Q q =>
  h H1 e _ fun H2 e2 => hs H2 (e.trans e2) Q (fun v H3 e3 hv => q v H3 (e2.trans e3) (dx_mono (ov_later e2) d v hv)) E
/-! ### statements -/
variable {D : Ends} {tz : TS} {i : Nat}
theorem dx_all {H2 : Hp} {v : V} {d : PyData} (e : Ex H H2) (h : Dx K (ov H H H2) v d) : Dx K H2 v d := dx_mono (ov_ex (Ex.refl H) e) d v h
theorem q_asgX (h : EvX K te σ H d) (k : ∀ v H1, Ex H H1 → Dx K H1 v d → tz D (σ.set i (some v)) H1) : tSeq (tAsg te (gName i)) tz D σ H := h H (Ex.refl H) _ fun v H1 e hv => k v H1 e (dx_mono (ov_ex (Ex.refl H) e) d v hv)
theorem s_asgX (h : EvX K te σ H d) (k : ∀ v H1, Ex H H1 → Dx K H1 v d → D.nx (σ.set i (some v)) H1) : tAsg te (gName i) D σ H := h H (Ex.refl H) _ fun v H1 e hv => k v H1 e (dx_mono (ov_ex (Ex.refl H) e) d v hv)
theorem q_asgXN (h : EvXN K te σ H ds) (k : ∀ p xs H1, H p = none → Ex H H1 → H1 p = some (.lst xs) → DxAll K H1 xs ds → tz D (σ.set i (some (.ref p))) H1) : tSeq (tAsg te (gName i)) tz D σ H :=
  h H (Ex.refl H) _ fun p xs H1 np e hp hs => k p xs H1 np e hp (dxa_mono (ov_ex (Ex.refl H) e) ds xs hs)
theorem q_asgXB {B : Hp} (eB : Ex B H) (h : EvX K te σ B d) (k : ∀ v H1, Ex H H1 → Dx K (ov B H H1) v d → tz D (σ.set i (some v)) H1) : tSeq (tAsg te (gName i)) tz D σ H := h H eB _ fun v H1 e hv => k v H1 e hv
theorem s_retXB {B : Hp} (eB : Ex B H) (h : EvX K te σ B d) (k : ∀ v H1, Ex H H1 → Dx K (ov B H H1) v d → D.rt v H1) : tRet te D σ H := h H eB _ k
theorem s_retX (h : EvX K te σ H d) (k : ∀ v H1, Ex H H1 → Dx K (ov H H H1) v d → D.rt v H1) : tRet te D σ H := h H (Ex.refl H) _ k
/-! ### a comprehension over a range, its items data -/
/-- the word of a comprehension over the base B, begun at H1: the items lean on the base and on what is new, not on the list itself -/
def CwX (K : PySem.W.Frag) (B H1 : Hp) (f : Nat → Bool) (g : Nat → PyData) (Dl : Addr) (i : Nat) (H' : Hp) : Prop := Ex B H' ∧ Ex H1 H' ∧ ∃ acc, H' Dl = some (.lst acc) ∧ DxAll K (ov B (upd H1 Dl (.lst [])) H') acc (givenD i f g)
theorem cwX_turn {B H1 H' : Hp} {f : Nat → Bool} {g : Nat → PyData} {Dl : Addr} {i : Nat} {σ2 : L2.St} (b1 : Ex B H1) (nD : H1 Dl = none) (p : CwX K B H1 f g Dl i H') (hi : i < 50000) (ht : EvT t σ2 B (f i)) (he : f i = true → EvX K te σ2 B (g i)) :
    t σ2 H' fun b H3 => if b = true then te σ2 H3 fun y H4 => ∃ acc, H4 Dl = some (.lst acc) ∧ acc.length < sizeLine ∧ CwX K B H1 f g Dl (i + 1) (upd H4 Dl (.lst (acc ++ [y]))) else CwX K B H1 f g Dl (i + 1) H3 := by
  obtain ⟨p1, p2, acc, p3, p4⟩ := p
  have nB : B Dl = none := fresh_back b1 nD
  refine ht H' p1 _ fun H3 e3 => ?_
  cases hf : f i with
  | true =>
    show te σ2 H3 fun y H4 => ∃ acc, H4 Dl = some (.lst acc) ∧ acc.length < sizeLine ∧ CwX K B H1 f g Dl (i + 1) (upd H4 Dl (.lst (acc ++ [y])))
    refine he hf H3 (p1.trans e3) _ fun y H4 e4 hy => ⟨acc, e4 Dl _ (e3 Dl _ p3), sz_lt (by rw [dxa_len p4]; have := givenD_len i f g; omega), Ex.mut ((p1.trans e3).trans e4) nB, Ex.mut ((p2.trans e3).trans e4) nD, _, upd_same, ?_⟩
    have k1 : Ex (ov B H3 H4) (ov B (upd H1 Dl (.lst [])) (upd H4 Dl (.lst (acc ++ [y])))) := fun a o ha => by
      unfold ov at ha ⊢
      cases h0 : B a with
      | some o' => rw [h0] at ha; exact ha
      | none =>
        rw [h0] at ha
        cases h3 : H3 a with
        | some o' => rw [h3] at ha; cases ha
        | none =>
          rw [h3] at ha
          have ne : a ≠ Dl := fun e => by
            rw [e, e3 Dl _ p3] at h3
            cases h3
          rw [upd_ne ne, fresh_back (p2.trans e3) h3]
          show upd H4 Dl _ a = some o
          rw [upd_ne ne]
          exact ha
    have k2 : Ex (ov B (upd H1 Dl (.lst [])) H') (ov B (upd H1 Dl (.lst [])) (upd H4 Dl (.lst (acc ++ [y])))) := fun a o ha => by
      unfold ov at ha ⊢
      cases h0 : B a with
      | some o' => rw [h0] at ha; exact ha
      | none =>
        rw [h0] at ha
        by_cases ne : a = Dl
        · rw [ne, upd_same] at ha
          cases ha
        · rw [upd_ne ne] at ha ⊢
          cases h1 : H1 a with
          | some o' => rw [h1] at ha; cases ha
          | none =>
            rw [h1] at ha
            show upd H4 Dl _ a = some o
            rw [upd_ne ne]
            exact e4 a o (e3 a o ha)
    rw [givenD_yes hf]
    exact dxa_app (dxa_mono k2 _ _ p4) (dxa_one (dx_mono k1 _ _ hy))
  | false =>
    show CwX K B H1 f g Dl (i + 1) H3
    refine ⟨p1.trans e3, p2.trans e3, acc, e3 Dl _ p3, ?_⟩
    rw [givenD_no hf]
    exact dxa_mono (ov_grow e3) _ _ p4
theorem cwX_start {B H1 : Hp} {f : Nat → Bool} {g : Nat → PyData} {Dl : Addr} (b1 : Ex B H1) (nD : H1 Dl = none) : CwX K B H1 f g Dl 0 (upd H1 Dl (.lst [])) := ⟨b1.trans (Ex.new nD), Ex.new nD, [], upd_same, .nil⟩
theorem cwX_end {B H1 H' : Hp} {f : Nat → Bool} {g : Nat → PyData} {Dl : Addr} {n : Nat} (p : CwX K B H1 f g Dl n H') : ∃ acc, H' Dl = some (.lst acc) ∧ DxAll K (ov B H1 H') acc (givenD n f g) := by
  obtain ⟨_, _, acc, p3, p4⟩ := p
  refine ⟨acc, p3, dxa_mono (fun a o ha => ?_) _ _ p4⟩
  unfold ov at ha ⊢
  cases h0 : B a with
  | some o' => rw [h0] at ha; exact ha
  | none =>
    rw [h0] at ha
    by_cases ne : a = Dl
    · rw [ne, upd_same] at ha
      cases ha
    · rw [upd_ne ne] at ha
      exact ha
theorem exn_lcR1 {ta : TA} {j : Nat} {vs : List Nat} {n : Int} (f : Nat → Bool) (g : Nat → PyData) (h : EvA ta σ H [.int n]) (hn : 0 ≤ n ∧ n ≤ 40000) (hw : ∀ x, wipe ((wipe σ vs).set j (some x)) vs = wipe σ vs)
    (ht : ∀ i : Nat, (i : Int) < n → EvT t ((wipe σ vs).set j (some (.int (i : Int)))) H (f i)) (he : ∀ i : Nat, (i : Int) < n → f i = true → EvX K te ((wipe σ vs).set j (some (.int (i : Int)))) H (g i)) :
    EvXN K (tLc (iRng1 ta) (gName j) t te vs) σ H (givenD n.toNat f g) := fun H0 e Q q => h H0 e _ fun H1 e1 => ⟨n, rfl, by omega, by omega, fun Dl hD =>
  lc_range (lo := 0) (n := n.toNat) (CwX K H H1 f g Dl) (cwX_start (e.trans e1) hD) (fun i H' hi p => by
    have e0 : (0 : Int) + (i : Int) = (i : Int) := Int.zero_add _
    show wipe ((wipe σ vs).set j (some (.int ((0 : Int) + (i : Int))))) vs = wipe σ vs ∧ t ((wipe σ vs).set j (some (.int ((0 : Int) + (i : Int))))) H' fun b H3 => if b = true then te ((wipe σ vs).set j (some (.int ((0 : Int) + (i : Int))))) H3 fun y H4 => ∃ acc, H4 Dl = some (.lst acc) ∧ acc.length < sizeLine ∧ CwX K H H1 f g Dl (i + 1) (upd H4 Dl (.lst (acc ++ [y]))) else CwX K H H1 f g Dl (i + 1) H3
    rw [e0]
    exact ⟨hw _, cwX_turn (e.trans e1) hD p (by omega) (ht i (by omega)) (fun hf => he i (by omega) hf)⟩) (fun H' p => by
      obtain ⟨acc, h1, h2⟩ := cwX_end p
      exact q Dl acc H' (fresh_back e1 hD) (e1.trans p.2.1) h1 (dxa_mono (ov_later e1) _ _ h2))⟩
end
end Ap

set_option Elab.async false
set_option linter.all false
set_option maxRecDepth 100000
namespace Ap
open PySem PySem.Spec PyProof.Rows L2 Evl
/-! ### values: what is_integer, is_text, is_value, is_deed, is_record say of any object -/
def tyN : PyData → String
  | .none => "NoneType"
  | .bool _ => "bool"
  | .int _ => "int"
  | .str _ => "str"
  | .list _ => "list"
  | .tuple _ => "tuple"
  | .dict _ => "dict"
theorem tyx_dx {K : PySem.W.Frag} {H : Hp} : ∀ {d : PyData} {v : V}, Dx K H v d → TyX K H v (.type (tyN d))
  | _, _, .non => .base .non
  | _, _, .bl b => .base (.bl b)
  | _, _, .int i => .base (.int i)
  | _, _, .str x => .base (.str x)
  | _, _, .lst hs _ => by
    rcases hs with (h | ⟨o, h⟩) | ⟨o, its, n, h, hc, _⟩
    · exact .base (.lst h)
    · exact .base (.frz h)
    · exact .kList h hc
  | _, _, .tup hs _ => by
    rcases hs with (h | ⟨o, h⟩) | ⟨o, its, n, h, hc, _⟩
    · exact .base (.tup h)
    · exact .fTuple h
    · exact .kTuple h hc
  | _, _, .dic h => .base (.dK h)
def isInt : PyData → Bool
  | .int _ => true
  | .bool _ => true
  | _ => false
def isBoo : PyData → Bool
  | .bool _ => true
  | _ => false
def isStr : PyData → Bool
  | .str _ => true
  | _ => false
def isTup : PyData → Bool
  | .tuple _ => true
  | _ => false
theorem kit_int : ∀ d : PyData, kitB (tyN d) "int" = some (isInt d)
  | .none => (by decide +kernel : kitB "NoneType" "int" = some false)
  | .bool _ => (by decide +kernel : kitB "bool" "int" = some true)
  | .int _ => (by decide +kernel : kitB "int" "int" = some true)
  | .str _ => (by decide +kernel : kitB "str" "int" = some false)
  | .list _ => (by decide +kernel : kitB "list" "int" = some false)
  | .tuple _ => (by decide +kernel : kitB "tuple" "int" = some false)
  | .dict _ => (by decide +kernel : kitB "dict" "int" = some false)
theorem kit_bool : ∀ d : PyData, kitB (tyN d) "bool" = some (isBoo d)
  | .none => (by decide +kernel : kitB "NoneType" "bool" = some false)
  | .bool _ => (by decide +kernel : kitB "bool" "bool" = some true)
  | .int _ => (by decide +kernel : kitB "int" "bool" = some false)
  | .str _ => (by decide +kernel : kitB "str" "bool" = some false)
  | .list _ => (by decide +kernel : kitB "list" "bool" = some false)
  | .tuple _ => (by decide +kernel : kitB "tuple" "bool" = some false)
  | .dict _ => (by decide +kernel : kitB "dict" "bool" = some false)
theorem kit_str : ∀ d : PyData, kitB (tyN d) "str" = some (isStr d)
  | .none => (by decide +kernel : kitB "NoneType" "str" = some false)
  | .bool _ => (by decide +kernel : kitB "bool" "str" = some false)
  | .int _ => (by decide +kernel : kitB "int" "str" = some false)
  | .str _ => (by decide +kernel : kitB "str" "str" = some true)
  | .list _ => (by decide +kernel : kitB "list" "str" = some false)
  | .tuple _ => (by decide +kernel : kitB "tuple" "str" = some false)
  | .dict _ => (by decide +kernel : kitB "dict" "str" = some false)
theorem kit_tup : ∀ d : PyData, kitB (tyN d) "tuple" = some (isTup d)
  | .none => (by decide +kernel : kitB "NoneType" "tuple" = some false)
  | .bool _ => (by decide +kernel : kitB "bool" "tuple" = some false)
  | .int _ => (by decide +kernel : kitB "int" "tuple" = some false)
  | .str _ => (by decide +kernel : kitB "str" "tuple" = some false)
  | .list _ => (by decide +kernel : kitB "list" "tuple" = some false)
  | .tuple _ => (by decide +kernel : kitB "tuple" "tuple" = some true)
  | .dict _ => (by decide +kernel : kitB "dict" "tuple" = some false)
section
variable {K : PySem.W.Frag} {σ : L2.St} {H : Hp} {te : TE} {d : PyData} {T : String} {b : Bool}
theorem ev_isiX (h : EvX K te σ H d) (k : kitB (tyN d) T = some b) : Ev (tCB (rIsi K) (tCons te (tCons (tC (.ty T)) tNil))) σ H (.bl b) := fun H1 e Q q => h H1 e _ fun v H2 e2 hv =>
  ⟨v, .ty T, .type (tyN d), .type T, b, rfl, .ty T, tyx_dx (dx_mono (ov_ex e e2) d v hv), kit_ty k, q H2 e2⟩
end
/-- bounded: texts, lists and tuples of at most 1000, at most n deep -/
inductive Okd : Nat → PyData → Prop
  | non {n : Nat} : Okd n .none
  | bl {n : Nat} (b : Bool) : Okd n (.bool b)
  | int {n : Nat} (i : Int) : Okd n (.int i)
  | str {n : Nat} {x : Str} (h : x.length ≤ 1000) : Okd n (.str x)
  | dic {n : Nat} {kvs : List (PyData × PyData)} : Okd n (.dict kvs)
  | lst {n : Nat} {ds : List PyData} (h : ds.length ≤ 1000) (hs : ∀ d, d ∈ ds → Okd n d) : Okd (n + 1) (.list ds)
  | tup {n : Nat} {ds : List PyData} (h : ds.length ≤ 1000) (hs : ∀ d, d ∈ ds → Okd n d) : Okd (n + 1) (.tuple ds)
def isI : PyData → Bool
  | .int i => decide (-(10 ^ 18) ≤ i) && decide (i ≤ 10 ^ 18)
  | _ => false
def chOk (c : Nat) : Bool := (decide ((32 : Int) ≤ (c : Int)) && decide ((c : Int) ≤ 126)) && !decide (V.int (c : Int) = V.int 37)
def isT : PyData → Bool
  | .str x => decide (x.length ≤ 200) && x.cps.toList.all chOk
  | _ => false
def isP (d : PyData) : Bool := isI d || isT d
mutual
def isV : PyData → Bool
  | .tuple ds => isVs ds
  | d => isP d
def isVs : List PyData → Bool
  | [] => true
  | d :: ds => isV d && isVs ds
end
theorem isVs_iff : ∀ ds : List PyData, isVs ds = ds.all isV
  | [] => rfl
  | d :: ds => by simp [isVs, isVs_iff ds]
def isN (d : PyData) : Bool := isI d && (match d with
  | .int i => decide (0 ≤ i)
  | _ => false)
section
variable {K : PySem.W.Frag} {σ : L2.St} {H : Hp} {te tl : TE} {t : TT}
/-- [f(c) for c in text] -/
theorem el_lcS {j : Nat} {vs : List Nat} {z : Str} (v : Nat → V) (h : Ev tl σ H (.str z)) (hz : z.cps.size ≤ 40000) (hw : ∀ x, wipe ((wipe σ vs).set j (some x)) vs = wipe σ vs) (ht : ∀ (c : Nat) H1, Ex H H1 → EvT t ((wipe σ vs).set j (some (.str ⟨#[c]⟩))) H1 true)
    (he : ∀ (i c : Nat) H1, Ex H H1 → z.cps[i]? = some c → Ev te ((wipe σ vs).set j (some (.str ⟨#[c]⟩))) H1 (v i)) : EvL (tLc (iStr tl) (gName j) t te vs) σ H (given z.cps.size (fun _ => true) v) := fun H0 e Q q => h H0 e _ fun H1 e1 => ⟨z, rfl, fun Dl hD =>
  lc_it walk_str (Cw H1 (fun _ => true) v Dl) ⟨hD, Ex.new hD, upd_same⟩ (fun _ _ _ _ => trivial) (fun i x H2 H' hi p y => by
    obtain ⟨rfl, c, hc, rfl⟩ := y
    exact ⟨hw _, cw_turn p (by omega) (ht c H1 (e.trans e1)) (fun _ => he i c H1 (e.trans e1) hc)⟩) (fun H' p => q Dl H' (fresh_back e1 p.1) (e1.trans p.2.1) p.2.2)⟩
/-- for c in text -/
theorem q_forS {D : Ends} {tz tu : TS} {j : Nat} {z : Str} (h : Ev tl σ H (.str z)) (Pv : Nat → L2.St → Hp → Prop) (h0 : ∀ H1, Ex H H1 → Pv 0 σ H1) (hs : ∀ (i c : Nat) σ' H', z.cps[i]? = some c → Pv i σ' H' → tu { D with nx := Pv (i + 1), ct := Pv (i + 1), bk := tz D } (σ'.set j (some (.str ⟨#[c]⟩))) H') (hd : ∀ σ' H', Pv z.cps.size σ' H' → tz D σ' H') :
    tSeq (tFor (iStr tl) (gName j) tu) tz D σ H := h H (Ex.refl H) _ fun H1 e => ⟨z, rfl, for_it walk_str Pv (h0 H1 e) (fun _ _ _ _ _ => trivial) (fun i x σ' H2 H' hi p y => by
    obtain ⟨rfl, c, hc, rfl⟩ := y
    exact hs i c σ' _ hc p) hd⟩
theorem ev_all {bs : List Bool} (h : EvL tl σ H (bs.map V.bl)) : Ev (tCB (rAll K) (tCons tl tNil)) σ H (.bl (bs.all id)) := fun H1 e Q q => h H1 e _ fun p H2 np e2 hp => ⟨p, bs, rfl, sq_of hp, q H2 e2⟩
theorem rc_lenS {z : Str} (h : z.length ≤ 100000) : RC (fun xs H Q => ∃ z, xs = [.str z] ∧ z.length ≤ sizeLine ∧ Q (.int z.length) H) [.str z] H (.int (z.length : Int)) := fun H1 _ Q q => ⟨z, rfl, sz_of h, q H1 (Ex.refl H1)⟩
theorem rc_ordS {x : Str} {n : Nat} (h : x.length = 1) (hn : x.cps.getD 0 0 = n) : RC (fun xs H Q => ∃ x : Str, xs = [.str x] ∧ x.length = 1 ∧ Q (.int (x.cps.getD 0 0 : Nat)) H) [.str x] H (.int (n : Int)) := fun H1 _ Q q => ⟨x, rfl, h, by rw [hn]; exact q H1 (Ex.refl H1)⟩
theorem rc_ord {c : Nat} : RC (fun xs H Q => ∃ x : Str, xs = [.str x] ∧ x.length = 1 ∧ Q (.int (x.cps.getD 0 0 : Nat)) H) [.str ⟨#[c]⟩] H (.int (c : Int)) := fun H1 _ Q q => ⟨⟨#[c]⟩, rfl, rfl, q H1 (Ex.refl H1)⟩
theorem all_given (z : Str) (f : Nat → Bool) : ∃ bs : List Bool, given z.cps.size (fun _ => true) (fun i => V.bl (f (z.cps.getD i 0))) = bs.map V.bl ∧ bs.all id = z.cps.toList.all f := by
  refine ⟨z.cps.toList.map f, ?_, by rw [List.all_map]; rfl⟩
  unfold given
  rw [List.filter_eq_self.mpr (fun _ _ => rfl)]
  refine List.ext_getElem (by simp) (fun i h1 h2 => ?_)
  have h1 : i < z.cps.size := by simpa using h1
  simp [Array.getD, h1]
end
section
variable {K : PySem.W.Frag} {σ : L2.St} {H : Hp} {te tl : TE} {t : TT}
/-- [e for x in a tuple] -/
theorem el_lcT {a : Addr} {xs : List V} {j : Nat} {vs : List Nat} (v : Nat → V) (h : Ev tl σ H (.ref a)) (hx : SqT K H a xs) (hz : xs.length ≤ 40000) (hw : ∀ x, wipe ((wipe σ vs).set j (some x)) vs = wipe σ vs) (ht : ∀ (x : V) H1, Ex H H1 → EvT t ((wipe σ vs).set j (some x)) H1 true)
    (he : ∀ (i : Nat) (x : V) H1, Ex H H1 → xs[i]? = some x → Ev te ((wipe σ vs).set j (some x)) H1 (v i)) : EvL (tLc (iTup K tl) (gName j) t te vs) σ H (given xs.length (fun _ => true) v) := fun H0 e Q q => h H0 e _ fun H1 e1 => ⟨a, rfl, ⟨xs, ex_t (e.trans e1) hx⟩, fun Dl hD =>
  lc_it (walk_tup (xs := xs)) (Cw H1 (fun _ => true) v Dl) ⟨hD, Ex.new hD, upd_same⟩ (fun _ _ _ p => ex_t ((e.trans e1).trans p.2.1) hx) (fun i x H2 H' hi p y => by
    obtain ⟨rfl, hxi⟩ := y
    exact ⟨hw _, cw_turn p (by omega) (ht x H1 (e.trans e1)) (fun _ => he i x H1 (e.trans e1) hxi)⟩) (fun H' p => q Dl H' (fresh_back e1 p.1) (e1.trans p.2.1) p.2.2)⟩
theorem q_forTn {D : Ends} {tz tu : TS} {a : Addr} {xs : List V} {j : Nat} (h : Ev tl σ H (.ref a)) (hx : SqT K H a xs) (Pv : Nat → L2.St → Hp → Prop) (h0 : ∀ H1, Ex H H1 → Pv 0 σ H1) (hl : ∀ i σ' H', i ≤ xs.length → Pv i σ' H' → SqT K H' a xs)
    (hs : ∀ i x σ' H', xs[i]? = some x → Pv i σ' H' → tu { D with nx := Pv (i + 1), ct := Pv (i + 1), bk := tz D } (σ'.set j (some x)) H') (hd : ∀ σ' H', Pv xs.length σ' H' → tz D σ' H') : tSeq (tFor (iTup K tl) (gName j) tu) tz D σ H := q_forT h hx Pv h0 hl hs hd
theorem given_map (ds : List PyData) (g : PyData → Bool) : given ds.length (fun _ => true) (fun i => V.bl (g (ds.getD i .none))) = (ds.map g).map V.bl := by
  unfold given
  rw [List.filter_eq_self.mpr (fun _ _ => rfl)]
  refine List.ext_getElem (by simp) (fun i h1 h2 => ?_)
  have h1 : i < ds.length := by simpa using h1
  simp [h1]
theorem fn_false {P : Program} {w : World} {K : PySem.W.Frag} {mg : Str → Option Value} {base : Heap} {CX : CXT} {k : Nat} {f : Addr} {fd : FuncData} {ps : List Str} : FnOk P w K mg base CX k f fd ps (fun _ _ _ _ => False) := ⟨fun _ _ _ _ h => h.elim, fun _ _ _ _ _ _ _ _ _ _ _ _ _ h => h.elim⟩
end
def neS : PyData → Bool
  | .str x => !decide (V.str x = V.str "")
  | _ => false
def isDeed : PyData → Bool
  | .tuple ds => ((decide (1 ≤ (ds.length : Int)) && decide ((ds.length : Int) ≤ 4)) && (isT (ds.getD 0 .none) && neS (ds.getD 0 .none))) && ds.all isP
  | _ => false
def geB (k : Int) : PyData → Bool
  | .int i => decide (i ≥ k)
  | _ => false
def isRec : PyData → Bool
  | .tuple ds => decide (ds.length = 3) && (isN (ds.getD 0 .none) && (isN (ds.getD 1 .none) && (geB 1 (ds.getD 1 .none) && isDeed (ds.getD 2 .none))))
  | _ => false
end Ap

set_option Elab.async false
set_option linter.all false
set_option maxRecDepth 100000
namespace Ap
open PySem PySem.Spec PyProof.Rows L2 Evl ClX
/-! ### C.m(..), m a static method of the class at C, that may raise -/
structure SMet (K : PySem.W.Frag) (C : Addr) (mc : Value) (m : Str) (p g : Addr) : Prop where
  at_ : PySem.W.findCls K (.ref C) mc m = some (.get (.builtin "staticmethod.__get__") (.ref p) .none (.ref C))
  rc : ∃ rest, PySem.W.recIn K p "staticmethod" = some (.ref g :: rest)
  kp : PySem.W.keepIn K (.ref g) = true
def tSX (C : Addr) (sp : Sp) (E : L2.St → XK) (ta : TE) (t : TA) : TE := fun σ H Q => ta σ H fun x G => x = .ref C ∧ t σ G fun vs G2 => sp vs G2 Q (E σ)
section
variable {X : Cx} {pins : List (Addr × Obj)} {σ : L2.St} {H : Hp} {s : Shared} {A : Around} {E : Value → Shared → Prop}
theorem getsmet_ok {C p g : Addr} {mc : Value} {m : Str} {pl : Sem Bool} {Q : Value × List Value → Shared → Prop} (I : L2.Inv X pins σ H s) (r : CRead X.K C mc) (k : SMet X.K C mc m p g) (h : ∀ s', L2.Inv X pins σ H s' → Q (.ref g, []) s') : wpAny (model X.prog X.w) A (getMethod (.ref C) m pl) Q E s := by
  obtain ⟨rest, hp⟩ := k.rc
  refine PySem.W.method_cls I.kIn r.ga (PySem.W.cls_bind I.kIn r.rd k.at_ ?_)
  refine wpAny_call (PySem.W.sm_get (s := { s with toks := s.toks + 1 }) I.kIn hp (PySem.W.handed_on rfl ?_))
  exact h _ (I.tok _)
theorem pe_smx {CX : CXT} {k : Nat} {C p g : Addr} {mc : Value} {fd : FuncData} {ps : List Str} {sp : Sp} {E : L2.St → XK} {m : Str} {pos apos : Pos} {e o : Expr} {es : List Expr} {ta : TE} {t : TA} {pl : Sem Bool}
    (he : PE X o ta) (r : CRead X.K C mc) (hm : SMet X.K C mc m p g) (F : FnOk X.prog X.w X.K X.mg X.base CX k g fd ps sp) (hr : Room k X.A) (hb : Binds X.K fd ps []) (hx : ∀ σ, PassesAt CX X σ (E σ)) (ha : PA X (e :: es) t)
    (z1 : starEach (e :: es) X.env = (false, eval e X.env) :: starEach es X.env := by rfl) (z2 : (backTo pos (starEach es X.env)).any (·.1) = false := by rfl)
    (z3 : eval (.Call (.Attribute o m apos) (e :: es) [] pos) X.env = (do { let ov ← eval o X.env; standAt apos.atName; let (f, first) ← holding [ov] (getMethod ov m pl); callWith pos f first (backTo pos (starEach (e :: es) X.env)) (backToKw pos (keywordEach [] X.env)) }) := by rfl) :
    PE X (.Call (.Attribute o m apos) (e :: es) [] pos) (tSX C sp E ta t) := ⟨fun pins s σ H Q I h => PySem.W.methodCall_KW (pl := pl) (thn (he.run pins s σ H _ I h) fun u s1 hh => by
  obtain ⟨x, G, J, rx, ex, q⟩ := hh
  subst ex
  cases (show u = Value.ref C from rx)
  exact getsmet_ok J r hm fun s' J' => (PySem.W.callWith_K (first := []) (h₀ := X.base) J'.ok.mod.kin hm.kp (thn (ha.run pos pins s' σ G _ J' q) fun us s2 ⟨vs, G2, J2, rv, q2⟩ => ⟨J2.kIn, run_fnS (us := us) (vs := vs) F hr hb (hx σ) J2 rv q2⟩) z1 z2)) z3⟩
end
structure Sm (K : PySem.W.Frag) (C : Addr) (mc : Value) (x qual : Str) (st : Stmt) (ps : List Str) (p f : Addr) (fd : FuncData) : Prop where
  F : Fun K x qual st f fd
  b : L2.Binds K fd ps []
  m : SMet K C mc x p f
theorem sm_mk {K : PySem.W.Frag} {h : Heap} (X : K.In h) {C p : Addr} {mc : Value} {x qual : Str} {st : Stmt} {ps : List Str} {f : Addr} {rest : List Value} {oc : Value} {od an : Option Addr} {sl : Array (Option Value)} {kV dc pm cd ct : Value}
    (a : PySem.W.findCls K (.ref C) mc x = some (.get (.builtin "staticmethod.__get__") (.ref p) .none (.ref C))) (r : PySem.W.recIn K p "staticmethod" = some (.ref f :: rest)) (l : K.lookup f = some ⟨oc, od, .func (PySem.W.fnOf x qual (defArgs st) (defBody st) (defScope st) .none kV dc pm an cd ct), sl⟩) (c : PySem.W.codeIn K cd qual = true) (k : PySem.W.keepIn K (.ref f) = true)
    (hb : ∀ (kV doc pm : Value) (an : Option Addr) (cdv ct : Value) (us : List Value), us.length = ps.length → bindArgs (PySem.W.fnOf x qual (defArgs st) (defBody st) (defScope st) .none kV doc pm an cdv ct) ⟨us, []⟩ = pure (ps.zip us)) :
    ∃ p f fd, Sm K C mc x qual st ps p f fd := ⟨_, _, _, fun_mk l c k, (fun_mk l c k).binds hb, ⟨a, ⟨rest, r⟩, k⟩⟩
theorem Okd.mono {n m : Nat} {d : PyData} (h : Okd n d) : n ≤ m → Okd m d := by
  induction h generalizing m with
  | non => exact fun _ => .non
  | bl b => exact fun _ => .bl b
  | int i => exact fun _ => .int i
  | str h => exact fun _ => .str h
  | dic => exact fun _ => .dic
  | lst h hs ih =>
    intro hl
    obtain ⟨k, rfl⟩ : ∃ k, m = k + 1 := ⟨m - 1, by omega⟩
    exact .lst h fun d hd => ih d hd (by omega)
  | tup h hs ih =>
    intro hl
    obtain ⟨k, rfl⟩ : ∃ k, m = k + 1 := ⟨m - 1, by omega⟩
    exact .tup h fun d hd => ih d hd (by omega)
theorem op_mulS {X : Cx} : OpR X (binaryOp .Mult) (fun x y H Q => ∃ (z : Str) (n : Int), x = .str z ∧ y = .int n ∧ PySem.MulOk z n ∧ Q (.str (Txt.mul z n)) H) := by
  intro pins s σ H x y v u Q I rx ry h
  obtain ⟨z, n, rfl, rfl, hok, q⟩ := h
  obtain ⟨t, rfl⟩ := rx
  obtain ⟨t2, rfl⟩ := ry
  exact PySem.SB.mul hok fun t' k => ⟨.str (Txt.mul z n), H, I.tok _, ⟨t', rfl⟩, q⟩
theorem isV_sd {n : Nat} {d : PyData} (h : Okd n d) : isV d = true → Sd n d := by
  induction h with
  | non => exact fun h => absurd h (by simp [isV, isP, isI, isT])
  | bl b => exact fun h => absurd h (by simp [isV, isP, isI, isT])
  | int i => exact fun _ => sd_int
  | @str n x hx =>
    intro h
    have h : isT (.str x) = true := by simpa [isV, isP, isI] using h
    have h2 := (Bool.and_eq_true_iff.mp (show (decide (x.length ≤ 200) && x.cps.toList.all chOk) = true from h)).2
    refine sd_str ?_
    show x.cps.all (· < 0x110000) = true
    rw [← Array.all_toList]
    refine List.all_eq_true.mpr fun c hc => ?_
    have h3 := List.all_eq_true.mp h2 c hc
    have h4 := of_decide_eq_true (Bool.and_eq_true_iff.mp (Bool.and_eq_true_iff.mp h3).1).2
    exact decide_eq_true (by omega)
  | dic => exact fun h => absurd h (by simp [isV, isP, isI, isT])
  | lst h hs ih => exact fun h => absurd h (by simp [isV, isP, isI, isT])
  | @tup n ds h hs ih =>
    intro hv
    have hv : isVs ds = true := hv
    rw [isVs_iff] at hv
    exact sd_tuple fun d hd => ih d hd (List.all_eq_true.mp hv d hd)
theorem isP_V {d : PyData} (h : isP d = true) : isV d = true := by
  cases d <;> simp_all [isV, isP, isI, isT]
theorem isN_V {d : PyData} (h : isN d = true) : isV d = true := by
  unfold isN at h
  exact isP_V (by unfold isP; rw [(Bool.and_eq_true_iff.mp h).1]; rfl)
theorem isDeed_V {d : PyData} (h : isDeed d = true) : isV d = true := by
  cases d with
  | tuple ds =>
    have h2 := (Bool.and_eq_true_iff.mp (show (_ && ds.all isP) = true from h)).2
    show isVs ds = true
    rw [isVs_iff]
    exact List.all_eq_true.mpr fun d hd => isP_V (List.all_eq_true.mp h2 d hd)
  | _ => cases h
theorem isRec_V {d : PyData} (h : isRec d = true) : isV d = true := by
  cases d with
  | tuple ds =>
    have h : (decide (ds.length = 3) && (isN (ds.getD 0 .none) && (isN (ds.getD 1 .none) && (geB 1 (ds.getD 1 .none) && isDeed (ds.getD 2 .none))))) = true := h
    obtain ⟨h1, h2⟩ := Bool.and_eq_true_iff.mp h
    obtain ⟨h2, h3⟩ := Bool.and_eq_true_iff.mp h2
    obtain ⟨h3, h4⟩ := Bool.and_eq_true_iff.mp h3
    obtain ⟨_, h5⟩ := Bool.and_eq_true_iff.mp h4
    have h1 := of_decide_eq_true h1
    match ds, h1 with
    | [a, b, c], _ =>
      show isVs [a, b, c] = true
      rw [isVs_iff]
      refine List.all_eq_true.mpr fun d hd => ?_
      rcases List.mem_cons.mp hd with rfl | hd
      · exact isN_V h2
      · rcases List.mem_cons.mp hd with rfl | hd
        · exact isN_V h3
        · rw [List.mem_singleton.mp hd]
          exact isDeed_V h5
  | _ => cases h
def isRecs : PyData → Bool
  | .tuple ds => ds.all isRec
  | _ => false
def isLogD : PyData → Bool
  | .tuple ds => decide (ds.length = 3) && (isN (ds.getD 0 .none) && (isV (ds.getD 1 .none) && isRecs (ds.getD 2 .none)))
  | _ => false
theorem isLog_of {d : PyData} (h : isLogD d = true) : ∃ (b : Int) (im : PyData) (rs : List PyData), d = .tuple [.int b, im, .tuple rs] ∧ isV d = true := by
  cases d with
  | tuple ds =>
    have h : (decide (ds.length = 3) && (isN (ds.getD 0 .none) && (isV (ds.getD 1 .none) && isRecs (ds.getD 2 .none)))) = true := h
    obtain ⟨h1, h2⟩ := Bool.and_eq_true_iff.mp h
    obtain ⟨h2, h3⟩ := Bool.and_eq_true_iff.mp h2
    obtain ⟨h3, h4⟩ := Bool.and_eq_true_iff.mp h3
    have h1 := of_decide_eq_true h1
    match ds, h1 with
    | [a, b, c], _ =>
      have h2 : isN a = true := h2
      have h3 : isV b = true := h3
      have h4 : isRecs c = true := h4
      obtain ⟨i, rfl⟩ : ∃ i, a = .int i := by
        cases a <;> simp_all [isN, isI]
      obtain ⟨rs, rfl⟩ : ∃ rs, c = .tuple rs := by
        cases c <;> simp_all [isRecs]
      refine ⟨i, b, rs, rfl, ?_⟩
      show isVs [.int i, b, .tuple rs] = true
      rw [isVs_iff]
      refine List.all_eq_true.mpr fun d hd => ?_
      rcases List.mem_cons.mp hd with rfl | hd
      · exact isN_V h2
      · rcases List.mem_cons.mp hd with rfl | hd
        · exact h3
        · rw [List.mem_singleton.mp hd]
          show isVs rs = true
          rw [isVs_iff]
          exact List.all_eq_true.mpr fun d hd => isRec_V (List.all_eq_true.mp h4 d hd)
  | _ => cases h
theorem cr_mk {K : PySem.W.Frag} {h : Heap} {C : Addr} {mc : Value} (X : K.In h) (rd : PySem.W.readsIn K C mc = true) (ga : PySem.W.specialIn K (.ref C) "__getattribute__" = some (some (.builtin "type.__getattribute__"))) : ClX.CRead K C mc := ⟨rd, ga⟩
theorem big_lit {mg : Str → Option Value} {t : Tok} (h : mg "NUMBER_MOST" = some (.int 1000000000000000000 t)) : mg "NUMBER_MOST" = some (.int (10 ^ 18) t) := by
  rw [h, show ((10 : Int) ^ 18) = 1000000000000000000 by decide]
end Ap

set_option Elab.async false
set_option linter.all false
set_option maxRecDepth 100000
set_option maxHeartbeats 4000000
namespace Ap
open PySem PySem.Spec PyProof.Rows L2 Evl
local macro_rules | `(tactic| walk_at "ev") => `(tactic| (repeat' (first
  | (with_reducible first
    | exact ev_c
    | refine' ev_var ?_
    | exact ea_nil
    | refine' ea_cons ?_ ?_
    | refine' ev_op ?_ ?_ ?_
    | refine' ev_chain ?_ ?_ ?_ ?_ ?_
    | refine' ev_un ?_ ?_
    | exact rv_I0
    | refine' rv_I ?_
    | refine' ev_cb ?_ ?_
    | refine' ev_call ?_ ?_
    | exact rc_int
    | exact rc_max2
    | exact rc_min2
    | exact ru_neg
    | refine' et_test ?_
    | refine' et_B ?_)
  | ((with_reducible show _ = _); rfl)
  | ((with_reducible show SqL _ _ _ _); assumption)
  | ((with_reducible show SqT _ _ _ _); assumption)
  | ((with_reducible show CPow _ _); exact ⟨by decide, by decide, by decide⟩)
  | ((with_reducible show CDiv _ _); exact ⟨by decide, by decide⟩)
  | ((with_reducible show CMul _ _); first | exact .inr (by decide) | exact .inl (by decide) | exact .inr ⟨by omega, by omega⟩ | exact .inl ⟨by omega, by omega⟩)
  | ((with_reducible show SpV (spDraw _) _ _ _); refine' spDrawI ?_ ?_)
  | ((with_reducible show RC _ _ _ _); refine' rc_len ?_)
  | ((with_reducible show RV _ _ _ _ _); first | exact rv_eq rfl | exact rv_ne rfl)
  | ((with_reducible show _ ≤ _); first | decide | omega)
  | ((with_reducible show _ < _); first | decide | omega)
  | decide)))

def topS (i : Nat) : Stmt := PySem.Challenge.pw_appendhall_k20_values_of_logs.main.body.getD i (.Pass ⟨0, 0, 0, 0⟩)
abbrev s__wall : Stmt := topS 0
abbrev N__wall : List Str := ["k"]
theorem sc__wall : FnScope N__wall ["k"] (defScope s__wall) := ⟨rfl, rfl, rfl, by decide +kernel, rfl, by decide +kernel, by decide +kernel⟩
abbrev s_is_integer : Stmt := topS 10
abbrev N_is_integer : List Str := ["thing"]
theorem sc_is_integer : FnScope N_is_integer ["thing"] (defScope s_is_integer) := ⟨rfl, rfl, rfl, by decide +kernel, rfl, by decide +kernel, by decide +kernel⟩
abbrev s_is_number : Stmt := topS 11
abbrev N_is_number : List Str := ["thing"]
theorem sc_is_number : FnScope N_is_number ["thing"] (defScope s_is_number) := ⟨rfl, rfl, rfl, by decide +kernel, rfl, by decide +kernel, by decide +kernel⟩
abbrev s_is_text : Stmt := topS 12
abbrev N_is_text : List Str := ["thing", "char"]
theorem sc_is_text : FnScope N_is_text ["thing"] (defScope s_is_text) := ⟨rfl, rfl, rfl, by decide +kernel, rfl, by decide +kernel, by decide +kernel⟩
abbrev s__may_stand_in_text : Stmt := topS 13
abbrev N__may_stand_in_text : List Str := ["code"]
theorem sc__may_stand_in_text : FnScope N__may_stand_in_text ["code"] (defScope s__may_stand_in_text) := ⟨rfl, rfl, rfl, by decide +kernel, rfl, by decide +kernel, by decide +kernel⟩
abbrev s_is_plain : Stmt := topS 14
abbrev N_is_plain : List Str := ["thing"]
theorem sc_is_plain : FnScope N_is_plain ["thing"] (defScope s_is_plain) := ⟨rfl, rfl, rfl, by decide +kernel, rfl, by decide +kernel, by decide +kernel⟩
abbrev s_is_value : Stmt := topS 15
abbrev N_is_value : List Str := ["thing"]
theorem sc_is_value : FnScope N_is_value ["thing"] (defScope s_is_value) := ⟨rfl, rfl, rfl, by decide +kernel, rfl, by decide +kernel, by decide +kernel⟩
abbrev s__is_value_within : Stmt := topS 16
abbrev N__is_value_within : List Str := ["thing", "levels", "item"]
theorem sc__is_value_within : FnScope N__is_value_within ["thing", "levels"] (defScope s__is_value_within) := ⟨rfl, rfl, rfl, by decide +kernel, rfl, by decide +kernel, by decide +kernel⟩
abbrev s_is_deed : Stmt := topS 19
abbrev N_is_deed : List Str := ["thing", "item"]
theorem sc_is_deed : FnScope N_is_deed ["thing"] (defScope s_is_deed) := ⟨rfl, rfl, rfl, by decide +kernel, rfl, by decide +kernel, by decide +kernel⟩
abbrev s_is_record : Stmt := topS 20
abbrev N_is_record : List Str := ["thing", "client", "serial", "deed"]
theorem sc_is_record : FnScope N_is_record ["thing"] (defScope s_is_record) := ⟨rfl, rfl, rfl, by decide +kernel, rfl, by decide +kernel, by decide +kernel⟩
abbrev s_Log___init__ : Stmt := inClass (topS 22) 0
abbrev N_Log___init__ : List Str := ["self", "base", "image", "records"]
theorem sc_Log___init__ : FnScope N_Log___init__ ["self", "base", "image", "records"] (defScope s_Log___init__) := ⟨rfl, rfl, rfl, by decide +kernel, rfl, by decide +kernel, by decide +kernel⟩
abbrev s_Log_length : Stmt := inClass (topS 22) 1
abbrev N_Log_length : List Str := ["self"]
theorem sc_Log_length : FnScope N_Log_length ["self"] (defScope s_Log_length) := ⟨rfl, rfl, rfl, by decide +kernel, rfl, by decide +kernel, by decide +kernel⟩
abbrev s_Log___len__ : Stmt := inClass (topS 22) 2
abbrev N_Log___len__ : List Str := ["self"]
theorem sc_Log___len__ : FnScope N_Log___len__ ["self"] (defScope s_Log___len__) := ⟨rfl, rfl, rfl, by decide +kernel, rfl, by decide +kernel, by decide +kernel⟩
abbrev s_Log___iter__ : Stmt := inClass (topS 22) 3
abbrev N_Log___iter__ : List Str := ["self"]
theorem sc_Log___iter__ : FnScope N_Log___iter__ ["self"] (defScope s_Log___iter__) := ⟨rfl, rfl, rfl, by decide +kernel, rfl, by decide +kernel, by decide +kernel⟩
abbrev s_Log_record : Stmt := inClass (topS 22) 4
abbrev N_Log_record : List Str := ["self", "number"]
theorem sc_Log_record : FnScope N_Log_record ["self", "number"] (defScope s_Log_record) := ⟨rfl, rfl, rfl, by decide +kernel, rfl, by decide +kernel, by decide +kernel⟩
abbrev s_Log_after : Stmt := inClass (topS 22) 5
abbrev N_Log_after : List Str := ["self", "number"]
theorem sc_Log_after : FnScope N_Log_after ["self", "number"] (defScope s_Log_after) := ⟨rfl, rfl, rfl, by decide +kernel, rfl, by decide +kernel, by decide +kernel⟩
abbrev s_Log_with_record : Stmt := inClass (topS 22) 6
abbrev N_Log_with_record : List Str := ["self", "record"]
theorem sc_Log_with_record : FnScope N_Log_with_record ["self", "record"] (defScope s_Log_with_record) := ⟨rfl, rfl, rfl, by decide +kernel, rfl, by decide +kernel, by decide +kernel⟩
abbrev s_Log_joined : Stmt := inClass (topS 22) 7
abbrev N_Log_joined : List Str := ["self", "first", "records"]
theorem sc_Log_joined : FnScope N_Log_joined ["self", "first", "records"] (defScope s_Log_joined) := ⟨rfl, rfl, rfl, by decide +kernel, rfl, by decide +kernel, by decide +kernel⟩
abbrev s_Log_cut : Stmt := inClass (topS 22) 8
abbrev N_Log_cut : List Str := ["self", "number", "image"]
theorem sc_Log_cut : FnScope N_Log_cut ["self", "number", "image"] (defScope s_Log_cut) := ⟨rfl, rfl, rfl, by decide +kernel, rfl, by decide +kernel, by decide +kernel⟩
abbrev s_Log_agrees : Stmt := inClass (topS 22) 9
abbrev N_Log_agrees : List Str := ["self", "other"]
theorem sc_Log_agrees : FnScope N_Log_agrees ["self", "other"] (defScope s_Log_agrees) := ⟨rfl, rfl, rfl, by decide +kernel, rfl, by decide +kernel, by decide +kernel⟩
abbrev s_Log_value : Stmt := inClass (topS 22) 10
abbrev N_Log_value : List Str := ["self"]
theorem sc_Log_value : FnScope N_Log_value ["self"] (defScope s_Log_value) := ⟨rfl, rfl, rfl, by decide +kernel, rfl, by decide +kernel, by decide +kernel⟩
abbrev s_Log_from_value : Stmt := inClass (topS 22) 11
abbrev N_Log_from_value : List Str := ["value", "base", "image", "records"]
theorem sc_Log_from_value : FnScope N_Log_from_value ["value"] (defScope s_Log_from_value) := ⟨rfl, rfl, rfl, by decide +kernel, rfl, by decide +kernel, by decide +kernel⟩
abbrev s_Log__between : Stmt := inClass (topS 22) 12
abbrev N_Log__between : List Str := ["self", "low", "high"]
theorem sc_Log__between : FnScope N_Log__between ["self", "low", "high"] (defScope s_Log__between) := ⟨rfl, rfl, rfl, by decide +kernel, rfl, by decide +kernel, by decide +kernel⟩
abbrev s__are_records : Stmt := topS 23
abbrev N__are_records : List Str := ["things", "thing"]
theorem sc__are_records : FnScope N__are_records ["things"] (defScope s__are_records) := ⟨rfl, rfl, rfl, by decide +kernel, rfl, by decide +kernel, by decide +kernel⟩
abbrev s__law_stream : Stmt := topS 25
abbrev N__law_stream : List Str := ["script", "many", "draws", "cell", "rest", "k", "mixed"]
theorem sc__law_stream : FnScope N__law_stream ["script", "many"] (defScope s__law_stream) := ⟨rfl, rfl, rfl, by decide +kernel, rfl, by decide +kernel, by decide +kernel⟩
abbrev s__law_draw : Stmt := topS 26
abbrev N__law_draw : List Str := ["draws", "k"]
theorem sc__law_draw : FnScope N__law_draw ["draws", "k"] (defScope s__law_draw) := ⟨rfl, rfl, rfl, by decide +kernel, rfl, by decide +kernel, by decide +kernel⟩
abbrev s__law_item : Stmt := topS 27
abbrev N__law_item : List Str := ["draw", "numbers", "texts", "others"]
theorem sc__law_item : FnScope N__law_item ["draw"] (defScope s__law_item) := ⟨rfl, rfl, rfl, by decide +kernel, rfl, by decide +kernel, by decide +kernel⟩
abbrev s__law_is_integer : Stmt := topS 28
abbrev N__law_is_integer : List Str := ["thing"]
theorem sc__law_is_integer : FnScope N__law_is_integer ["thing"] (defScope s__law_is_integer) := ⟨rfl, rfl, rfl, by decide +kernel, rfl, by decide +kernel, by decide +kernel⟩
abbrev s__law_is_text : Stmt := topS 29
abbrev N__law_is_text : List Str := ["thing", "sign"]
theorem sc__law_is_text : FnScope N__law_is_text ["thing"] (defScope s__law_is_text) := ⟨rfl, rfl, rfl, by decide +kernel, rfl, by decide +kernel, by decide +kernel⟩
abbrev s__law_is_deed : Stmt := topS 30
abbrev N__law_is_deed : List Str := ["thing", "item"]
theorem sc__law_is_deed : FnScope N__law_is_deed ["thing"] (defScope s__law_is_deed) := ⟨rfl, rfl, rfl, by decide +kernel, rfl, by decide +kernel, by decide +kernel⟩
abbrev s__law_is_record : Stmt := topS 31
abbrev N__law_is_record : List Str := ["thing"]
theorem sc__law_is_record : FnScope N__law_is_record ["thing"] (defScope s__law_is_record) := ⟨rfl, rfl, rfl, by decide +kernel, rfl, by decide +kernel, by decide +kernel⟩
abbrev s__law_is_value : Stmt := topS 32
abbrev N__law_is_value : List Str := ["thing", "item"]
theorem sc__law_is_value : FnScope N__law_is_value ["thing"] (defScope s__law_is_value) := ⟨rfl, rfl, rfl, by decide +kernel, rfl, by decide +kernel, by decide +kernel⟩
abbrev s__law_is_log : Stmt := topS 33
abbrev N__law_is_log : List Str := ["thing", "record"]
theorem sc__law_is_log : FnScope N__law_is_log ["thing"] (defScope s__law_is_log) := ⟨rfl, rfl, rfl, by decide +kernel, rfl, by decide +kernel, by decide +kernel⟩
abbrev s__law_from_value : Stmt := topS 34
abbrev N__law_from_value : List Str := ["thing", "log", "e"]
theorem sc__law_from_value : FnScope N__law_from_value ["thing"] (defScope s__law_from_value) := ⟨rfl, rfl, rfl, by decide +kernel, rfl, by decide +kernel, by decide +kernel⟩
abbrev s_law : Stmt := topS 35
abbrev N_law : List Str := ["script", "draws", "deed", "k", "good", "middle", "record", "thing", "sure", "records", "base", "image", "value", "due"]
theorem sc_law : FnScope N_law ["script"] (defScope s_law) := ⟨rfl, rfl, rfl, by decide +kernel, rfl, by decide +kernel, by decide +kernel⟩
section
variable {P : Program} {w : World} {K : PySem.W.Frag} {mg : Str → Option Value} {base : Heap}
structure Glo (mg : Str → Option Value) : Prop where
  len : mg "len" = none
  int : mg "int" = none
  range : mg "range" = none
  isinstance : mg "isinstance" = none
  tuple : mg "tuple" = none
  bool : mg "bool" = none
  list : mg "list" = none
  str : mg "str" = none
  all : mg "all" = none
  ord : mg "ord" = none
  ValueError : mg "ValueError" = none
theorem ok_draw {f : Addr} {fd : FuncData} {k : Nat} (F : Fun K "_law_draw" "_law_draw" s__law_draw f fd) (T : Glo mg) : FnOk P w K mg base CX0 (k + 1) f fd ["draws", "k"] (spDraw K) := by
  refine F.ok sc__law_draw (fun vs H Q E h => ?_) (fun cdv A outer s H vs Q E hr h => ?_)
  · obtain ⟨a, ds, k, rfl, _⟩ := h
    rfl
  · obtain ⟨a, ds, k, rfl, hS, q⟩ := h
    refine ⟨_, (pss_cons (ps_if (pt_cmpR op_lt (pv 1) (pe_callB call_len_seq (by rfl) T.len PySem.boot_len (pa_cons (pv 0) pa_nil)) (nomark _))
  (pss_one (ps_ret (pe_ix ix_list (pv 0) (pv 1) (fun _ _ => rfl))))
  pss_nil)
  (pss_one (ps_ret pe_int))), ?_⟩
    refine' q_when ?c (fun hb H1 e1 => ?_) (fun hb H1 e1 => ?_)
    case c => walk_at "ev"
    · have hb := of_decide_eq_true hb
      rw [List.length_map] at hb
      have hk : k < ds.length := by omega
      refine s_ret (v := .int (drw ds k)) (ev_op (ev_var rfl) (ev_var rfl) (rv_ixL (ex_l e1 hS) ?_)) fun H2 e2 => q _ (e1.trans e2)
      have e0 : (ds.map V.int)[k]? = some (.int (drw ds k)) := by
        rw [List.getElem?_map, List.getElem?_eq_getElem hk]
        unfold drw
        rw [List.getD_eq_getElem?_getD, List.getElem?_eq_getElem hk]
        rfl
      exact atI_nat e0
    · have hb := of_decide_eq_false hb
      rw [List.length_map] at hb
      refine s_ret ev_c fun H2 e2 => ?_
      have e0 : drw ds k = 0 := by
        unfold drw
        rw [List.getD_eq_getElem?_getD, List.getElem?_eq_none (by omega)]
        rfl
      rw [← e0]
      exact q _ (e1.trans e2)


/-! the draws' list: what stands between two turns -/
def DW (H0 : Hp) (l : Addr) (m : Nat) (H' : Hp) : Prop := H0 l = none ∧ Ex H0 H' ∧ ∃ ds : List Int, H' l = some (.lst (ds.map V.int)) ∧ Dr ds ∧ ds.length ≤ m
theorem pow18 : (10 : Int) ^ (18 : Int).toNat = 1000000000000000000 := by decide
theorem DW.app {H0 H1 H2 : Hp} {l : Addr} {m : Nat} {ds : List Int} {d : Int} (n : H0 l = none) (e : Ex H0 H1) (D : Dr ds) (hl : ds.length ≤ m) (h0 : 0 ≤ d) (h1 : d < 5040) (e2 : Ex H1 H2) : DW H0 l (m + 1) (upd H2 l (.lst (ds.map V.int ++ [V.int d]))) :=
  ⟨n, Ex.mut (e.trans e2) n, ds ++ [d], by rw [upd_same, List.map_append]; rfl, D.app h0 h1, by rw [List.length_append, List.length_singleton]; omega⟩
theorem ok_stream {f : Addr} {fd : FuncData} {k : Nat} (F : Fun K "_law_stream" "_law_stream" s__law_stream f fd) (T : Glo mg) : FnOk P w K mg base CX0 (k + 1) f fd ["script", "many"] (spStream K) := by
  refine F.ok sc__law_stream (fun vs H Q E h => ?_) (fun cdv A outer s H vs Q E hr h => ?_)
  · obtain ⟨a, ns, m, rfl, _⟩ := h
    rfl
  · obtain ⟨a, ns, m, rfl, hS, hn, hm, q⟩ := h
    refine ⟨_, (pss_cons (ps_set (i := 2) sc__law_stream.nd rfl (.inl rfl) (pe_lst pa_nil))
  (pss_cons (ps_for PassesOwn.never rfl (pi_list (pv 0)) (pg_name (i := 3) sc__law_stream.nd rfl (.inl rfl))
  (pss_cons (ps_if (pt_cmpR op_ge (pe_callB call_len_seq (by rfl) T.len PySem.boot_len (pa_cons (pv 2) pa_nil)) (pv 1) (nomark _))
  (pss_one ps_break)
  pss_nil)
  (pss_one (ps_if (pt_cmpR op_ge (pv 3) (pe_op op_pow pe_int pe_int) (nomark _))
  (pss_cons (ps_set (i := 4) sc__law_stream.nd rfl (.inl rfl) (pv 3))
  (pss_one (ps_for PassesOwn.never rfl (pi_range1 (by rfl) T.range (pa_cons pe_int pa_nil)) (pg_name (i := 5) sc__law_stream.nd rfl (.inl rfl))
  (pss_one (ps_if (pt_cmpR op_gt (pv 4) pe_int (nomark _))
  (pss_cons (ps_expr (pe_bm PySem.F.plainAttrs_list PySem.F.slot_list_append PySem.F.type_list_append mt_append (pv 2) (pa_cons (pe_op op_mod (pe_callTy call_int1 (by rfl) T.int (by decide +kernel) (pa_cons (pv 4) pa_nil)) pe_int) pa_nil)))
  (pss_one (ps_set (i := 4) sc__law_stream.nd rfl (.inl rfl) (pe_op op_fdiv (pv 4) pe_int))))
  pss_nil)))))
  (pss_cons (ps_set (i := 6) sc__law_stream.nd rfl (.inl rfl) (pe_op op_mod (pe_callTy call_int1 (by rfl) T.int (by decide +kernel) (pa_cons (pe_op op_add (pe_op op_add (pe_op op_mul (pv 3) pe_int) (pe_op op_mul (pe_callB call_len_seq (by rfl) T.len PySem.boot_len (pa_cons (pv 2) pa_nil)) pe_int)) pe_int) pa_nil)) pe_int))
  (pss_one (ps_for PassesOwn.never rfl (pi_range1 (by rfl) T.range (pa_cons pe_int pa_nil)) (pg_name (i := 5) sc__law_stream.nd rfl (.inl rfl))
  (pss_cons (ps_set (i := 6) sc__law_stream.nd rfl (.inl rfl) (pe_op op_mod (pe_callTy call_int1 (by rfl) T.int (by decide +kernel) (pa_cons (pe_op op_add (pe_op op_add (pe_op op_mul (pv 6) pe_int) (pe_op op_mul pe_int (pv 5))) pe_int) pa_nil)) pe_int))
  (pss_one (ps_expr (pe_bm PySem.F.plainAttrs_list PySem.F.slot_list_append PySem.F.type_list_append mt_append (pv 2) (pa_cons (pe_op op_mod (pe_callTy call_int1 (by rfl) T.int (by decide +kernel) (pa_cons (pe_op op_fdiv (pv 6) pe_int) pa_nil)) pe_int) pa_nil))))))))))))
  (pss_one (ps_ret (pv 2))))), ?_⟩
    refine' q_asgL (xs := []) (el_lst ea_nil (by decide)) (fun l H1 nl e1 h1 => ?_)
    have hS1 : SqL K H1 a (ns.map V.int) := ex_l e1 hS
    refine' q_forLn (a := a) (xs := ns.map V.int) (ev_var rfl) hS1 (fun i σ' H' => ∃ y3 y4 y5 y6, σ' = [some (.ref a), some (.int (m : Int)), some (.ref l), y3, y4, y5, y6] ∧ DW H l (m + 60) H') (fun H2 e2 => ?_) (fun i σ' H' _ p => ?_) (fun i x σ' H' hx p => ?_) (fun σ' H' p => ?_)
    · exact ⟨none, none, none, none, rfl, nl, e1.trans e2, [], e2 l _ h1, Dr.nil, Nat.zero_le _⟩
    · obtain ⟨_, _, _, _, _, _, e, _⟩ := p
      exact ex_l e hS
    · obtain ⟨y3, y4, y5, y6, rfl, n, e, ds, hd, D, hl⟩ := p
      obtain ⟨c, rfl⟩ : ∃ c, x = V.int c := by
        rw [List.getElem?_map] at hx
        cases h : ns[i]? with
        | none => rw [h] at hx; cases hx
        | some c => rw [h] at hx; exact ⟨c, (Option.some.inj hx).symm⟩
      have hL : SqL K H' l (ds.map V.int) := sq_of hd
      refine' q_when ?c (fun hb H2 e2 => ?_) (fun hb H2 e2 => ?_)
      case c => walk_at "ev"
      · -- break
        refine s_ret (ev_var rfl) fun H3 e3 => ?_
        exact q ds D hl l H3 n ((e.trans e2).trans e3) (e3 l _ (e2 l _ hd))
      · have hb := of_decide_eq_false hb
        rw [List.length_map] at hb
        have hlt : ds.length < m := by omega
        have hd2 := e2 l _ hd
        have E2 := e.trans e2
        refine' s_if ?c (fun hc H3 e3 => ?_) (fun hc H3 e3 => ?_)
        case c => walk_at "ev"
        · -- a great one
          refine' q_asg (ev_var rfl) (fun H4 e4 => ?_)
          refine' s_forR1 (n := 60) (ea_cons ev_c ea_nil) (by decide) (fun i σ' H' => ∃ (r : Int) (y5 : Option V), σ' = [some (.ref a), some (.int (m : Int)), some (.ref l), some (.int c), some (.int r), y5, y6] ∧ DW H l (m + i) H') (fun H5 e5 => ⟨c, _, rfl, n, ((E2.trans e3).trans e4).trans e5, ds, e5 l _ (e4 l _ (e3 l _ hd2)), D, by omega⟩) (fun i σ' H' hi p => ?_) (fun σ' H' p => ?_)
          · obtain ⟨r, z5, rfl, n', e', ds', hd', D', hl'⟩ := p
            have hL' : SqL K H' l (ds'.map V.int) := sq_of hd'
            refine' s_when ?c (fun hb H6 e6 => ?_) (fun hb H6 e6 => ?_)
            case c => walk_at "ev"
            · refine' q_app (l := l) (xs := ds'.map V.int) (v := .int (r % 5040)) (e6 l _ hd') (ev_var rfl) ?c (by rw [List.length_map]; omega) (fun H7 e7 => ?_)
              case c => walk_at "ev"
              refine' s_asg (v := .int (r / 5040)) ?c (fun H8 e8 => ?_)
              case c => exact ev_op (ev_var rfl) ev_c (rv_I ⟨by decide, by decide⟩)
              obtain ⟨_, k2, k3⟩ := DW.app n' (e'.trans e6) D' hl' (Int.emod_nonneg r (by decide)) (Int.emod_lt_of_pos r (by decide)) e7
              obtain ⟨ds8, k4, k5, k6⟩ := k3
              exact ⟨r / 5040, _, rfl, n', k2.trans e8, ds8, e8 l _ k4, k5, k6⟩
            · exact ⟨r, _, rfl, n', e'.trans e6, ds', e6 l _ hd', D', by omega⟩
          · obtain ⟨r, z5, rfl, w⟩ := p
            exact ⟨_, _, _, _, rfl, w⟩
        · -- a plain one
          refine' q_asg ?c (fun H4 e4 => ?_)
          case c =>
            have hL3 : SqL K H3 l (ds.map V.int) := sq_of (e3 l _ hd2)
            refine' ev_op (ev_cb (ea_cons (ev_op (ev_op (ev_op (ev_var rfl) ev_c (rv_I (.inr (by decide)))) (ev_op (ev_cb (ea_cons (ev_var rfl) ea_nil) (rc_len hL3)) ev_c (rv_I (.inr (by decide)))) rv_I0) ev_c rv_I0) ea_nil) rc_int) ev_c (rv_I (by decide))
          refine' s_forR1 (n := 4) (ea_cons ev_c ea_nil) (by decide) (fun i σ' H' => ∃ (r : Int) (y5 : Option V), σ' = [some (.ref a), some (.int (m : Int)), some (.ref l), some (.int c), y4, y5, some (.int r)] ∧ DW H l (m + i) H') (fun H5 e5 => ⟨_, _, rfl, n, ((E2.trans e3).trans e4).trans e5, ds, e5 l _ (e4 l _ (e3 l _ hd2)), D, by omega⟩) (fun i σ' H' hi p => ?_) (fun σ' H' p => ?_)
          · obtain ⟨r, z5, rfl, n', e', ds', hd', D', hl'⟩ := p
            refine' q_asg ?c (fun H6 e6 => ?_)
            case c =>
              refine' ev_op (ev_cb (ea_cons (ev_op (ev_op (ev_op (ev_var rfl) ev_c (rv_I (.inr (by decide)))) (ev_op ev_c (ev_var rfl) (rv_I (.inl (by decide)))) rv_I0) ev_c rv_I0) ea_nil) rc_int) ev_c (rv_I (by decide))
            refine' s_app (l := l) (xs := ds'.map V.int) (e6 l _ hd') (ev_var rfl) ?c (by rw [List.length_map]; omega) (fun H7 e7 => ?_)
            case c =>
              refine' ev_op (ev_cb (ea_cons (ev_op (ev_var rfl) ev_c (rv_I ⟨by decide, by decide⟩)) ea_nil) rc_int) ev_c (rv_I (by decide))
            exact ⟨_, _, rfl, DW.app n' (e'.trans e6) D' hl' (Int.emod_nonneg _ (by decide)) (Int.emod_lt_of_pos _ (by decide)) e7⟩
          · obtain ⟨r, z5, rfl, n', e', ds', hd', D', hl'⟩ := p
            exact ⟨_, _, _, _, rfl, n', e', ds', hd', D', by have : (4 : Int).toNat = 4 := rfl; omega⟩
    · obtain ⟨y3, y4, y5, y6, rfl, n, e, ds, hd, D, hl⟩ := p
      refine s_ret (ev_var rfl) fun H3 e3 => ?_
      exact q ds D hl l H3 n (e.trans e3) (e3 l _ hd)

/-! ### the program's predicates of values -/
def spB (K : PySem.W.Frag) (n : Nat) (g : PyData → Bool) : Sp := fun vs H Q _ => ∃ (v : V) (d : PyData), vs = [v] ∧ Dx K H v d ∧ Okd n d ∧ RetV (.bl (g d)) H Q
theorem spB_v {H : Hp} {n : Nat} {g : PyData → Bool} {v : V} {d : PyData} (h : Dx K H v d) (ok : Okd n d) : SpV (spB K n g) [v] H (.bl (g d)) := fun H1 e Q q _ => ⟨v, d, rfl, dx_mono e _ _ h, ok, fun H2 e2 => q H2 e2⟩
theorem isI_not {d : PyData} (h : (!isInt d || isBoo d) = true) : isI d = false := by
  cases d <;> simp_all [isInt, isBoo, isI]
theorem int_of {d : PyData} (h : (!isInt d || isBoo d) = false) : ∃ i, d = .int i := by
  cases d <;> simp_all [isInt, isBoo]
theorem isT_not {d : PyData} (h : isStr d = false) : isT d = false := by
  cases d <;> simp_all [isStr, isT]
theorem str_of {d : PyData} (h : isStr d = true) : ∃ x, d = .str x := by
  cases d <;> simp_all [isStr]
theorem tup_of {d : PyData} (h : isTup d = true) : ∃ ds, d = .tuple ds := by
  cases d <;> simp_all [isTup]
theorem isV_not {d : PyData} (h : isTup d = false) : isV d = isP d := by
  cases d <;> simp_all [isTup, isV]
theorem ok_is_integer {n : Nat} {tN : Tok} {f : Addr} {fd : FuncData} (F : Fun K "is_integer" "is_integer" s_is_integer f fd) (c_NUMBER_MOST : mg "NUMBER_MOST" = some (.int (10 ^ 18) tN)) (T : Glo mg) : FnOk P w K mg base CX0 1 f fd ["thing"] (spB K n isI) := by
  refine F.ok sc_is_integer (fun vs H Q E h => ?_) (fun cdv A outer s H vs Q E hr h => ?_)
  · obtain ⟨v, d, rfl, _⟩ := h
    rfl
  · obtain ⟨v, d, rfl, hd, ok, q⟩ := h
    refine ⟨_, (pss_cons (ps_if (PW.pt (pw_or (pt_not (pt_val (pe_callB call_isi (by rfl) T.isinstance (by decide +kernel) (pa_cons (pv 0) (pa_cons (pe_bltn (v := .ty "int") (u := .type "int") (by rfl) T.int (by decide +kernel) rfl) pa_nil))))) (pw_or1 (pt_val (pe_callB call_isi (by rfl) T.isinstance (by decide +kernel) (pa_cons (pv 0) (pa_cons (pe_bltn (v := .ty "bool") (u := .type "bool") (by rfl) T.bool (by decide +kernel) rfl) pa_nil)))))))
  (pss_one (ps_ret pe_bl))
  pss_nil)
  (pss_one (ps_ret (pe_chain op_le op_le (pe_un un_neg (pe_glob (v := .int (10 ^ 18)) rfl c_NUMBER_MOST ⟨_, rfl⟩)) (pv 0) (pe_glob (v := .int (10 ^ 18)) rfl c_NUMBER_MOST ⟨_, rfl⟩))))), ?_⟩
    refine' q_when (b := !isInt d || isBoo d) (et_or (a := !isInt d) (b := isBoo d) (et_not (et_B (ev_isiX (K := K) (ex_var rfl hd) (kit_int d)))) (fun _ => et_B (ev_isiX (K := K) (ex_var rfl hd) (kit_bool d)))) (fun hb H1 e1 => ?_) (fun hb H1 e1 => ?_)
    · rw [isI_not hb] at q
      exact s_ret ev_c (fun H2 e2 => q H2 (e1.trans e2))
    · obtain ⟨i, rfl⟩ := int_of hb
      cases hd
      exact s_ret (ev_chain (ev_un ev_c ru_neg) (ev_var rfl) rv_I0 ev_c rv_I0) (fun H2 e2 => q H2 (e1.trans e2))
theorem ok_is_number {n : Nat} {tN : Tok} {f f_i : Addr} {fd fd_i : FuncData} (F : Fun K "is_number" "is_number" s_is_number f fd) (D_is_integer : Df K mg "is_integer" s_is_integer ["thing"] f_i fd_i) (c_NUMBER_MOST : mg "NUMBER_MOST" = some (.int (10 ^ 18) tN)) (T : Glo mg) : FnOk P w K mg base CX0 2 f fd ["thing"] (spB K n isN) := by
  have G_is_integer : FnOk P w K mg base CX0 1 f_i fd_i _ _ := ok_is_integer (n := n) D_is_integer.F c_NUMBER_MOST T
  refine F.ok sc_is_number (fun vs H Q E h => ?_) (fun cdv A outer s H vs Q E hr h => ?_)
  · obtain ⟨v, d, rfl, _⟩ := h
    rfl
  · obtain ⟨v, d, rfl, hd, ok, q⟩ := h
    refine ⟨_, (pss_one (ps_ret (pe_and (pe_call G_is_integer (hr.mono (by decide)) (by rfl) D_is_integer.g D_is_integer.F.kp D_is_integer.b .nil pass0 (pa_cons (pv 0) pa_nil)) (pe_one (pe_cmpR op_ge (pv 0) pe_int (nomark _)))))), ?_⟩
    refine s_ret (ev_andV (a := isI d) (ev_call (ea_cons (ev_var rfl) ea_nil) (spB_v hd ok)) (fun h => ?_)) q
    cases hd with
    | int i => exact ev_op (ev_var rfl) ev_c rv_I0
    | _ => exact absurd h (by simp [isI])
def spCh : Sp := fun vs H Q _ => ∃ c : Nat, vs = [.int (c : Int)] ∧ RetV (.bl (chOk c)) H Q
theorem ok_ch {tP : Tok} {f : Addr} {fd : FuncData} (F : Fun K "_may_stand_in_text" "_may_stand_in_text" s__may_stand_in_text f fd) (c__PERCENT : mg "_PERCENT" = some (.int 37 tP)) (T : Glo mg) : FnOk P w K mg base CX0 1 f fd ["code"] spCh := by
  refine F.ok sc__may_stand_in_text (fun vs H Q E h => ?_) (fun cdv A outer s H vs Q E hr h => ?_)
  · obtain ⟨c, rfl, _⟩ := h
    rfl
  · obtain ⟨c, rfl, q⟩ := h
    refine ⟨_, (pss_one (ps_ret (pe_and (pe_chain op_le op_le (pe_callB call_ord (by rfl) T.ord (by decide +kernel) (pa_cons pe_str pa_nil)) (pv 0) (pe_callB call_ord (by rfl) T.ord (by decide +kernel) (pa_cons pe_str pa_nil))) (pe_one (pe_cmpR op_ne (pv 0) (pe_glob (v := .int 37) rfl c__PERCENT ⟨_, rfl⟩) (nomark _)))))), ?_⟩
    exact s_ret (ev_andV (ev_chain (ev_cb (ea_cons ev_c ea_nil) (rc_ordS (n := 32) (by decide +kernel) (by decide +kernel))) (ev_var rfl) rv_I0 (ev_cb (ea_cons ev_c ea_nil) (rc_ordS (n := 126) (by decide +kernel) (by decide +kernel))) rv_I0) (fun _ => ev_op (ev_var rfl) ev_c (rv_ne rfl))) q
theorem spCh_v {H : Hp} {c : Nat} : SpV spCh [.int (c : Int)] H (.bl (chOk c)) := fun H1 _ Q q _ => ⟨c, rfl, fun H2 e2 => q H2 e2⟩
theorem ok_is_text {n : Nat} {tT tP : Tok} {f f_c : Addr} {fd fd_c : FuncData} (F : Fun K "is_text" "is_text" s_is_text f fd) (D__may_stand_in_text : Df K mg "_may_stand_in_text" s__may_stand_in_text ["code"] f_c fd_c) (c_TEXT_MOST : mg "TEXT_MOST" = some (.int 200 tT)) (c__PERCENT : mg "_PERCENT" = some (.int 37 tP)) (T : Glo mg) : FnOk P w K mg base CX0 2 f fd ["thing"] (spB K n isT) := by
  have G__may_stand_in_text : FnOk P w K mg base CX0 1 f_c fd_c _ _ := ok_ch D__may_stand_in_text.F c__PERCENT T
  refine F.ok sc_is_text (fun vs H Q E h => ?_) (fun cdv A outer s H vs Q E hr h => ?_)
  · obtain ⟨v, d, rfl, _⟩ := h
    rfl
  · obtain ⟨v, d, rfl, hd, ok, q⟩ := h
    refine ⟨_, (pss_cons (ps_if (PW.pt (pw_or (pt_not (pt_val (pe_callB call_isi (by rfl) T.isinstance (by decide +kernel) (pa_cons (pv 0) (pa_cons (pe_bltn (v := .ty "str") (u := .type "str") (by rfl) T.str (by decide +kernel) rfl) pa_nil))))) (pw_or1 (pt_cmpR op_gt (pe_callB call_len_str (by rfl) T.len PySem.boot_len (pa_cons (pv 0) pa_nil)) (pe_glob (v := .int 200) rfl c_TEXT_MOST ⟨_, rfl⟩) (nomark _)))))
  (pss_one (ps_ret pe_bl))
  pss_nil)
  (pss_one (ps_ret (pe_callB (cr_all rfl) (by rfl) T.all (by decide +kernel) (pa_cons (pe_lc (own := [("char", 1)]) (g := gName 1) rfl sc_is_text.nd (pi_str (pv 0)) (blkOk_by (N := N_is_text) (sc := defScope s_is_text) (by decide +kernel)) (fun _ _ _ _ _ => (pg_name (i := 1) sc_is_text.nd rfl (.inl rfl))) (fun _ _ _ _ _ => pts_nil) (fun _ _ _ _ _ => (pe_call G__may_stand_in_text (hr.mono (by decide)) (by rfl) D__may_stand_in_text.g D__may_stand_in_text.F.kp D__may_stand_in_text.b .nil pass0 (pa_cons (pe_callB call_ord (by rfl) T.ord (by decide +kernel) (pa_cons (pv 1) pa_nil)) pa_nil)))) pa_nil))))), ?_⟩
    by_cases hS : isStr d = true
    · obtain ⟨x, rfl⟩ := str_of hS
      have hxl : x.length ≤ 1000 := by
        cases ok
        assumption
      have hd' := hd
      cases hd
      refine' q_when (b := decide ((x.length : Int) > 200)) (et_is (et_or (a := false) (b := decide ((x.length : Int) > 200)) (et_is (et_not (et_B (ev_isiX (K := K) (ex_var rfl hd') (kit_str _)))) rfl) (fun _ => et_test (ev_op (ev_cb (ea_cons (ev_var rfl) ea_nil) (rc_lenS (by omega))) ev_c rv_I0))) (Bool.false_or _)) (fun hb H1 e1 => ?_) (fun hb H1 e1 => ?_)
      · have hb := of_decide_eq_true hb
        have : isT (.str x) = false := by
          show (decide (x.length ≤ 200) && _) = false
          rw [decide_eq_false (by omega)]
          rfl
        rw [this] at q
        exact s_ret ev_c (fun H2 e2 => q H2 (e1.trans e2))
      · have hb := of_decide_eq_false hb
        have : isT (.str x) = x.cps.toList.all chOk := by
          show (decide (x.length ≤ 200) && _) = _
          rw [decide_eq_true (by omega)]
          rfl
        rw [this] at q
        obtain ⟨bs, h1, h2⟩ := all_given x chOk
        rw [← h2] at q
        have hsz : x.cps.size ≤ 1000 := hxl
        refine s_ret (ev_all (K := K) (bs := bs) (h1 ▸ el_lcS (fun i => V.bl (chOk (x.cps.getD i 0))) (ev_var rfl) (by omega) (fun _ => rfl) (fun c H1 e1 => et_nil) (fun i c H2 e2 hc => ?_))) (fun H2 e2 => q H2 (e1.trans e2))
        have hg : x.cps.getD i 0 = c := by
          rw [Array.getD_eq_getD_getElem?, hc]
          rfl
        rw [hg]
        exact ev_call (ea_cons (ev_cb (ea_cons (ev_var rfl) ea_nil) rc_ord) ea_nil) spCh_v
    · have hS : isStr d = false := by simpa using hS
      rw [isT_not hS] at q
      refine' q_when (b := true) (et_is (et_or (a := true) (b := true) (et_is (et_not (et_B (ev_isiX (K := K) (ex_var rfl hd) (kit_str d)))) (by rw [hS]; rfl)) (fun h => nomatch h)) rfl) (fun hb H1 e1 => s_ret ev_c (fun H2 e2 => q H2 (e1.trans e2))) (fun hb => nomatch hb)
theorem ok_is_plain {n : Nat} {tN tT tP : Tok} {f f_i f_t f_c : Addr} {fd fd_i fd_t fd_c : FuncData} (F : Fun K "is_plain" "is_plain" s_is_plain f fd) (D_is_integer : Df K mg "is_integer" s_is_integer ["thing"] f_i fd_i) (D_is_text : Df K mg "is_text" s_is_text ["thing"] f_t fd_t) (D__may_stand_in_text : Df K mg "_may_stand_in_text" s__may_stand_in_text ["code"] f_c fd_c)
    (c_NUMBER_MOST : mg "NUMBER_MOST" = some (.int (10 ^ 18) tN)) (c_TEXT_MOST : mg "TEXT_MOST" = some (.int 200 tT)) (c__PERCENT : mg "_PERCENT" = some (.int 37 tP)) (T : Glo mg) : FnOk P w K mg base CX0 3 f fd ["thing"] (spB K n isP) := by
  have G_is_integer : FnOk P w K mg base CX0 1 f_i fd_i _ _ := ok_is_integer (n := n) D_is_integer.F c_NUMBER_MOST T
  have G_is_text : FnOk P w K mg base CX0 2 f_t fd_t _ _ := ok_is_text (n := n) D_is_text.F D__may_stand_in_text c_TEXT_MOST c__PERCENT T
  refine F.ok sc_is_plain (fun vs H Q E h => ?_) (fun cdv A outer s H vs Q E hr h => ?_)
  · obtain ⟨v, d, rfl, _⟩ := h
    rfl
  · obtain ⟨v, d, rfl, hd, ok, q⟩ := h
    refine ⟨_, (pss_one (ps_ret (pe_or (pe_call G_is_integer (hr.mono (by decide)) (by rfl) D_is_integer.g D_is_integer.F.kp D_is_integer.b .nil pass0 (pa_cons (pv 0) pa_nil)) (pe_one (pe_call G_is_text (hr.mono (by decide)) (by rfl) D_is_text.g D_is_text.F.kp D_is_text.b .nil pass0 (pa_cons (pv 0) pa_nil)))))), ?_⟩
    exact s_ret (ev_orV (a := isI d) (b := isT d) (ev_call (ea_cons (ev_var rfl) ea_nil) (spB_v hd ok)) (fun _ => ev_call (ea_cons (ev_var rfl) ea_nil) (spB_v hd ok))) q

def spW (K : PySem.W.Frag) (n : Nat) : Sp := fun vs H Q _ => ∃ (v : V) (d : PyData) (lv : Int), vs = [v, .int lv] ∧ Dx K H v d ∧ Okd n d ∧ (n : Int) ≤ lv ∧ RetV (.bl (isV d)) H Q
def spWr (K : PySem.W.Frag) : Nat → Sp
  | 0 => fun _ _ _ _ => False
  | n + 1 => spW K n
theorem spW_v {H : Hp} {n : Nat} {v : V} {d : PyData} {lv : Int} (h : Dx K H v d) (ok : Okd n d) (hl : (n : Int) ≤ lv) : SpV (spW K n) [v, .int lv] H (.bl (isV d)) := fun H1 e Q q _ => ⟨v, d, lv, rfl, dx_mono e _ _ h, ok, hl, fun H2 e2 => q H2 e2⟩
theorem ok_within {tN tT tP : Tok} {f f_p f_i f_t f_c : Addr} {fd fd_p fd_i fd_t fd_c : FuncData} (D__is_value_within : Df K mg "_is_value_within" s__is_value_within ["thing", "levels"] f fd) (D_is_plain : Df K mg "is_plain" s_is_plain ["thing"] f_p fd_p) (D_is_integer : Df K mg "is_integer" s_is_integer ["thing"] f_i fd_i) (D_is_text : Df K mg "is_text" s_is_text ["thing"] f_t fd_t)
    (D__may_stand_in_text : Df K mg "_may_stand_in_text" s__may_stand_in_text ["code"] f_c fd_c) (c_NUMBER_MOST : mg "NUMBER_MOST" = some (.int (10 ^ 18) tN)) (c_TEXT_MOST : mg "TEXT_MOST" = some (.int 200 tT)) (c__PERCENT : mg "_PERCENT" = some (.int 37 tP)) (T : Glo mg) :
    ∀ n : Nat, FnOk P w K mg base CX0 (n + 4) f fd ["thing", "levels"] (spW K n) := fun n => by
  induction n with
  | zero =>
    have G__is_value_within : FnOk P w K mg base CX0 (0 + 3) f fd ["thing", "levels"] (fun _ _ _ _ => False) := fn_false
    have G_is_plain : FnOk P w K mg base CX0 3 f_p fd_p _ _ := ok_is_plain (n := 0) D_is_plain.F D_is_integer D_is_text D__may_stand_in_text c_NUMBER_MOST c_TEXT_MOST c__PERCENT T
    refine D__is_value_within.F.ok sc__is_value_within (fun vs H Q E h => ?_) (fun cdv A outer s H vs Q E hr h => ?_)
    · obtain ⟨v, d, lv, rfl, _⟩ := h
      rfl
    · obtain ⟨v, d, lv, rfl, hd, ok, hl, q⟩ := h
      refine ⟨_, (pss_cons (ps_if (pt_not (pt_val (pe_callB call_isi (by rfl) T.isinstance (by decide +kernel) (pa_cons (pv 0) (pa_cons (pe_bltn (v := .ty "tuple") (u := .type "tuple") (by rfl) T.tuple (by decide +kernel) rfl) pa_nil)))))
  (pss_one (ps_ret (pe_call G_is_plain (hr.mono (by omega)) (by rfl) D_is_plain.g D_is_plain.F.kp D_is_plain.b .nil pass0 (pa_cons (pv 0) pa_nil))))
  pss_nil)
  (pss_cons (ps_if (pt_cmpR op_eq (pv 1) pe_int (nomark _))
  (pss_one (ps_ret pe_bl))
  pss_nil)
  (pss_cons (ps_for PassesOwn.never rfl (pi_tup (pv 0)) (pg_name (i := 2) sc__is_value_within.nd rfl (.inl rfl))
  (pss_one (ps_if (pt_not (pt_val (pe_call G__is_value_within (hr.mono (by omega)) (by rfl) D__is_value_within.g D__is_value_within.F.kp D__is_value_within.b .nil pass0 (pa_cons (pv 2) (pa_cons (pe_op op_sub (pv 1) pe_int) pa_nil)))))
  (pss_one (ps_ret pe_bl))
  pss_nil)))
  (pss_one (ps_ret pe_bl))))), ?_⟩
      have hT : isTup d = false := by
        cases ok <;> rfl
      rw [isV_not hT] at q
      exact q_when (b := true) (et_is (et_not (et_B (ev_isiX (K := K) (ex_var rfl hd) (kit_tup d)))) (by rw [hT]; rfl)) (fun _ H1 e1 => s_ret (ev_call (ea_cons (ev_var rfl) ea_nil) (spB_v (dx_mono e1 _ _ hd) ok)) (fun H2 e2 => q H2 (e1.trans e2))) (fun hb => nomatch hb)
  | succ n ih =>
    have G__is_value_within : FnOk P w K mg base CX0 (n + 4) f fd ["thing", "levels"] (spW K n) := ih
    have G_is_plain : FnOk P w K mg base CX0 3 f_p fd_p _ _ := ok_is_plain (n := n + 1) D_is_plain.F D_is_integer D_is_text D__may_stand_in_text c_NUMBER_MOST c_TEXT_MOST c__PERCENT T
    refine D__is_value_within.F.ok sc__is_value_within (fun vs H Q E h => ?_) (fun cdv A outer s H vs Q E hr h => ?_)
    · obtain ⟨v, d, lv, rfl, _⟩ := h
      rfl
    · obtain ⟨v, d, lv, rfl, hd, ok, hl, q⟩ := h
      refine ⟨_, (pss_cons (ps_if (pt_not (pt_val (pe_callB call_isi (by rfl) T.isinstance (by decide +kernel) (pa_cons (pv 0) (pa_cons (pe_bltn (v := .ty "tuple") (u := .type "tuple") (by rfl) T.tuple (by decide +kernel) rfl) pa_nil)))))
  (pss_one (ps_ret (pe_call G_is_plain (hr.mono (by omega)) (by rfl) D_is_plain.g D_is_plain.F.kp D_is_plain.b .nil pass0 (pa_cons (pv 0) pa_nil))))
  pss_nil)
  (pss_cons (ps_if (pt_cmpR op_eq (pv 1) pe_int (nomark _))
  (pss_one (ps_ret pe_bl))
  pss_nil)
  (pss_cons (ps_for PassesOwn.never rfl (pi_tup (pv 0)) (pg_name (i := 2) sc__is_value_within.nd rfl (.inl rfl))
  (pss_one (ps_if (pt_not (pt_val (pe_call G__is_value_within (hr.mono (by omega)) (by rfl) D__is_value_within.g D__is_value_within.F.kp D__is_value_within.b .nil pass0 (pa_cons (pv 2) (pa_cons (pe_op op_sub (pv 1) pe_int) pa_nil)))))
  (pss_one (ps_ret pe_bl))
  pss_nil)))
  (pss_one (ps_ret pe_bl))))), ?_⟩
      by_cases hT : isTup d = true
      · obtain ⟨ds, rfl⟩ := tup_of hT
        have hd' := hd
        cases ok with
        | tup hds hall =>
          cases hd with
          | @tup ta ys _ hs hda =>
            have hyl := dxa_len hda
            refine' q_when (b := false) (et_is (et_not (et_B (ev_isiX (K := K) (ex_var rfl hd') (kit_tup _)))) rfl) (fun hb => nomatch hb) (fun _ H1 e1 => ?_)
            refine' q_when (b := false) (et_is (et_test (ev_op (ev_var rfl) ev_c (rv_eq rfl))) (decide_eq_false (fun e => by have := V.int.inj e; omega))) (fun hb => nomatch hb) (fun _ H2 e2 => ?_)
            have e12 := e1.trans e2
            refine' q_forTn (K := K) (a := ta) (xs := ys) (ev_var rfl) (ex_t e12 hs) (fun i σ' H' => ∃ y2 : Option V, σ' = [some (.ref ta), some (.int lv), y2] ∧ Ex H H' ∧ ∀ j, j < i → isV (ds.getD j .none) = true) (fun H3 e3 => ⟨none, rfl, e12.trans e3, fun j hj => absurd hj (by omega)⟩) (fun i σ' H' _ hp => ?_) (fun i x σ' H' hx hp => ?_) (fun σ' H' hp => ?_)
            · obtain ⟨_, _, e, _⟩ := hp
              exact ex_t e hs
            · obtain ⟨y2, rfl, e, hj⟩ := hp
              obtain ⟨di, hdi, hdx⟩ := dxa_atV hda hx
              have hgi : ds.getD i .none = di := by rw [List.getD_eq_getElem?_getD, hdi]; rfl
              have hil : i < ds.length := (List.getElem?_eq_some_iff.mp hdi).1
              have hall' : isV (.tuple ds) = ds.all isV := by
                show isVs ds = _
                exact isVs_iff ds
              refine' s_when (b := !isV di) (et_not (et_B (ev_call (ea_cons (ev_var rfl) (ea_cons (ev_op (ev_var rfl) ev_c rv_I0) ea_nil)) (spW_v (dx_mono e _ _ hdx) (hall di (List.mem_of_getElem? hdi)) (by omega))))) (fun hb H3 e3 => ?_) (fun hb H3 e3 => ?_)
              · have hf : isV (.tuple ds) = false := by
                  rw [hall', Bool.eq_false_iff]
                  intro h
                  have := List.all_eq_true.mp h di (List.mem_of_getElem? hdi)
                  rw [this] at hb
                  cases hb
                rw [hf] at q
                exact s_ret ev_c (fun H4 e4 => q H4 ((e.trans e3).trans e4))
              · refine ⟨_, rfl, e.trans e3, fun j hj' => ?_⟩
                by_cases hji : j = i
                · rw [hji, hgi]
                  simpa using hb
                · exact hj j (by omega)
            · obtain ⟨y2, rfl, e, hj⟩ := hp
              have ht : isV (.tuple ds) = true := by
                show isVs ds = true
                rw [isVs_iff, List.all_eq_true]
                intro d hd
                obtain ⟨j, hjl, rfl⟩ := List.getElem_of_mem hd
                have := hj j (by omega)
                rwa [List.getD_eq_getElem?_getD, List.getElem?_eq_getElem hjl] at this
              rw [ht] at q
              exact s_ret ev_c (fun H4 e4 => q H4 (e.trans e4))
      · have hT : isTup d = false := by simpa using hT
        rw [isV_not hT] at q
        exact q_when (b := true) (et_is (et_not (et_B (ev_isiX (K := K) (ex_var rfl hd) (kit_tup d)))) (by rw [hT]; rfl)) (fun _ H1 e1 => s_ret (ev_call (ea_cons (ev_var rfl) ea_nil) (spB_v (dx_mono e1 _ _ hd) ok)) (fun H2 e2 => q H2 (e1.trans e2))) (fun hb => nomatch hb)
theorem ok_is_value {tN tT tP tD : Tok} {f f_w f_p f_i f_t f_c : Addr} {fd fd_w fd_p fd_i fd_t fd_c : FuncData} (F : Fun K "is_value" "is_value" s_is_value f fd) (D__is_value_within : Df K mg "_is_value_within" s__is_value_within ["thing", "levels"] f_w fd_w) (D_is_plain : Df K mg "is_plain" s_is_plain ["thing"] f_p fd_p) (D_is_integer : Df K mg "is_integer" s_is_integer ["thing"] f_i fd_i) (D_is_text : Df K mg "is_text" s_is_text ["thing"] f_t fd_t)
    (D__may_stand_in_text : Df K mg "_may_stand_in_text" s__may_stand_in_text ["code"] f_c fd_c) (c_NUMBER_MOST : mg "NUMBER_MOST" = some (.int (10 ^ 18) tN)) (c_TEXT_MOST : mg "TEXT_MOST" = some (.int 200 tT)) (c__PERCENT : mg "_PERCENT" = some (.int 37 tP)) (c_DEPTH_MOST : mg "DEPTH_MOST" = some (.int 12 tD)) (T : Glo mg) : FnOk P w K mg base CX0 17 f fd ["thing"] (spB K 12 isV) := by
  have G__is_value_within : FnOk P w K mg base CX0 16 f_w fd_w _ _ := ok_within D__is_value_within D_is_plain D_is_integer D_is_text D__may_stand_in_text c_NUMBER_MOST c_TEXT_MOST c__PERCENT T 12
  refine F.ok sc_is_value (fun vs H Q E h => ?_) (fun cdv A outer s H vs Q E hr h => ?_)
  · obtain ⟨v, d, rfl, _⟩ := h
    rfl
  · obtain ⟨v, d, rfl, hd, ok, q⟩ := h
    refine ⟨_, (pss_one (ps_ret (pe_call G__is_value_within (hr.mono (by decide)) (by rfl) D__is_value_within.g D__is_value_within.F.kp D__is_value_within.b .nil pass0 (pa_cons (pv 0) (pa_cons (pe_glob (v := .int 12) rfl c_DEPTH_MOST ⟨_, rfl⟩) pa_nil))))), ?_⟩
    exact s_ret (ev_call (ea_cons (ev_var rfl) (ea_cons ev_c ea_nil)) (spW_v hd ok (by decide))) q

theorem bnot_t {b : Bool} (h : (!b) = true) : b = false := by
  cases b with
  | false => rfl
  | true => cases h
theorem bnot_f {b : Bool} (h : (!b) = false) : b = true := by
  cases b with
  | true => rfl
  | false => cases h
theorem ok_is_deed {n : Nat} {tN tT tP tM : Tok} {f f_p f_i f_t f_c : Addr} {fd fd_p fd_i fd_t fd_c : FuncData} (F : Fun K "is_deed" "is_deed" s_is_deed f fd) (D_is_plain : Df K mg "is_plain" s_is_plain ["thing"] f_p fd_p) (D_is_integer : Df K mg "is_integer" s_is_integer ["thing"] f_i fd_i) (D_is_text : Df K mg "is_text" s_is_text ["thing"] f_t fd_t)
    (D__may_stand_in_text : Df K mg "_may_stand_in_text" s__may_stand_in_text ["code"] f_c fd_c) (c_NUMBER_MOST : mg "NUMBER_MOST" = some (.int (10 ^ 18) tN)) (c_TEXT_MOST : mg "TEXT_MOST" = some (.int 200 tT)) (c__PERCENT : mg "_PERCENT" = some (.int 37 tP)) (c__DEED_MOST : mg "_DEED_MOST" = some (.int 4 tM)) (T : Glo mg) : FnOk P w K mg base CX0 4 f fd ["thing"] (spB K (n + 1) isDeed) := by
  have G_is_plain : FnOk P w K mg base CX0 3 f_p fd_p _ _ := ok_is_plain (n := n) D_is_plain.F D_is_integer D_is_text D__may_stand_in_text c_NUMBER_MOST c_TEXT_MOST c__PERCENT T
  have G_is_text : FnOk P w K mg base CX0 2 f_t fd_t _ _ := ok_is_text (n := n) D_is_text.F D__may_stand_in_text c_TEXT_MOST c__PERCENT T
  refine F.ok sc_is_deed (fun vs H Q E h => ?_) (fun cdv A outer s H vs Q E hr h => ?_)
  · obtain ⟨v, d, rfl, _⟩ := h
    rfl
  · obtain ⟨v, d, rfl, hd, ok, q⟩ := h
    refine ⟨_, (pss_cons (ps_if (PW.pt (pw_or (pt_not (pt_val (pe_callB call_isi (by rfl) T.isinstance (by decide +kernel) (pa_cons (pv 0) (pa_cons (pe_bltn (v := .ty "tuple") (u := .type "tuple") (by rfl) T.tuple (by decide +kernel) rfl) pa_nil))))) (pw_or1 (pt_not (pt_chain op_le op_le pe_int (pe_callB call_len_seq (by rfl) T.len PySem.boot_len (pa_cons (pv 0) pa_nil)) (pe_glob (v := .int 4) rfl c__DEED_MOST ⟨_, rfl⟩))))))
  (pss_one (ps_ret pe_bl))
  pss_nil)
  (pss_cons (ps_if (PW.pt (pw_or (pt_not (pt_val (pe_call G_is_text (hr.mono (by decide)) (by rfl) D_is_text.g D_is_text.F.kp D_is_text.b .nil pass0 (pa_cons (pe_ix ix_tup (pv 0) pe_int (fun _ _ => rfl)) pa_nil)))) (pw_or1 (pt_cmpR op_eq (pe_ix ix_tup (pv 0) pe_int (fun _ _ => rfl)) pe_str (nomark _)))))
  (pss_one (ps_ret pe_bl))
  pss_nil)
  (pss_one (ps_ret (pe_callB (cr_all rfl) (by rfl) T.all (by decide +kernel) (pa_cons (pe_lc (own := [("item", 1)]) (g := gName 1) rfl sc_is_deed.nd (pi_tup (pv 0)) (blkOk_by (N := N_is_deed) (sc := defScope s_is_deed) (by decide +kernel)) (fun _ _ _ _ _ => (pg_name (i := 1) sc_is_deed.nd rfl (.inl rfl))) (fun _ _ _ _ _ => pts_nil) (fun _ _ _ _ _ => (pe_call G_is_plain (hr.mono (by decide)) (by rfl) D_is_plain.g D_is_plain.F.kp D_is_plain.b .nil pass0 (pa_cons (pv 1) pa_nil)))) pa_nil)))))), ?_⟩
    by_cases hT : isTup d = true
    · obtain ⟨ds, rfl⟩ := tup_of hT
      have hd' := hd
      cases ok with
      | tup hds hall =>
        have q : RetV (.bl (((decide (1 ≤ (ds.length : Int)) && decide ((ds.length : Int) ≤ 4)) && (isT (ds.getD 0 .none) && neS (ds.getD 0 .none))) && ds.all isP)) H Q := q
        refine' q_when (b := !(decide (1 ≤ (ds.length : Int)) && decide ((ds.length : Int) ≤ 4))) (et_is (et_or (a := false) (b := !(decide (1 ≤ (ds.length : Int)) && decide ((ds.length : Int) ≤ 4))) (et_is (et_not (et_B (ev_isiX (K := K) (ex_var rfl hd') (kit_tup _)))) rfl) (fun _ => et_not (et_test (ev_chain ev_c (ev_lenXT (K := K) (ex_var rfl hd)) rv_I0 ev_c rv_I0)))) (Bool.false_or _)) (fun hb H1 e1 => ?_) (fun hb H1 e1 => ?_)
        · have hb' : (decide (1 ≤ (ds.length : Int)) && decide ((ds.length : Int) ≤ 4)) = false := bnot_t hb
          rw [hb', Bool.false_and, Bool.false_and] at q
          exact s_ret ev_c (fun H2 e2 => q H2 (e1.trans e2))
        · have hb' : (decide (1 ≤ (ds.length : Int)) && decide ((ds.length : Int) ≤ 4)) = true := bnot_f hb
          rw [hb', Bool.true_and] at q
          have hlen : 1 ≤ (ds.length : Int) := of_decide_eq_true (Bool.and_eq_true_iff.mp hb').1
          cases hd with
          | @tup ta ys _ hs hda =>
            have hyl := dxa_len hda
            obtain ⟨d0, hd0⟩ : ∃ d0, ds[0]? = some d0 := ⟨ds[0]'(by omega), List.getElem?_eq_getElem (by omega)⟩
            have hg0 : ds.getD 0 .none = d0 := by rw [List.getD_eq_getElem?_getD, hd0]; rfl
            obtain ⟨x0, hx0, hdx0⟩ := dxa_at hda hd0
            have ok0 := hall d0 (List.mem_of_getElem? hd0)
            have hix : atI ys 0 = some x0 := atI_nat hx0
            rw [hg0] at q
            have hs1 := ex_t e1 hs
            refine' q_when (b := !isT d0 || !neS d0) (et_or (a := !isT d0) (b := !neS d0) (et_not (et_B (ev_call (ea_cons (ev_op (ev_var rfl) ev_c (rv_ixT hs1 hix)) ea_nil) (spB_v (dx_mono e1 _ _ hdx0) ok0)))) (fun hx => ?_)) (fun hb H2 e2 => ?_) (fun hb H2 e2 => ?_)
            · have hT0 : isT d0 = true := by simpa using hx
              obtain ⟨x, rfl⟩ : ∃ x, d0 = .str x := by
                cases d0 <;> simp_all [isT]
              cases hdx0
              refine et_is (et_test (ev_op (ev_op (ev_var rfl) ev_c (rv_ixT hs1 hix)) ev_c (rv_eq rfl))) ?_
              show _ = !(!decide (V.str x = V.str ""))
              rw [Bool.not_not]
            · have : (isT d0 && neS d0) = false := by
                cases h1 : isT d0 <;> cases h2 : neS d0 <;> simp_all
              rw [this, Bool.false_and] at q
              exact s_ret ev_c (fun H3 e3 => q H3 ((e1.trans e2).trans e3))
            · have : (isT d0 && neS d0) = true := by
                cases h1 : isT d0 <;> cases h2 : neS d0 <;> simp_all
              rw [this, Bool.true_and] at q
              have hmap := given_map ds isP
              have q2 : RetV (.bl ((ds.map isP).all id)) H Q := by
                rw [List.all_map]
                exact q
              refine s_ret (ev_all (K := K) (bs := ds.map isP) (hmap ▸ hyl ▸ el_lcT (K := K) (fun i => V.bl (isP (ds.getD i .none))) (ev_var rfl) (ex_t (e1.trans e2) hs) (by omega) (fun _ => rfl) (fun x H3 e3 => et_nil) (fun i x H3 e3 hx => ?_))) (fun H3 e3 => q2 H3 ((e1.trans e2).trans e3))
              obtain ⟨di, hdi, hdx⟩ := dxa_atV hda hx
              rw [List.getD_eq_getElem?_getD, hdi]
              exact ev_call (ea_cons (ev_var rfl) ea_nil) (spB_v (dx_mono ((e1.trans e2).trans e3) _ _ hdx) (hall di (List.mem_of_getElem? hdi)))
    · have hT : isTup d = false := by simpa using hT
      have : isDeed d = false := by
        cases d <;> simp_all [isTup, isDeed]
      rw [this] at q
      exact q_when (b := true) (et_is (et_or (a := true) (b := true) (et_is (et_not (et_B (ev_isiX (K := K) (ex_var rfl hd) (kit_tup d)))) (by rw [hT]; rfl)) (fun h => nomatch h)) rfl) (fun hb H1 e1 => s_ret ev_c (fun H2 e2 => q H2 (e1.trans e2))) (fun hb => nomatch hb)
/-- client, serial, deed = thing -/
theorem ok_is_record {n : Nat} {tN tT tP tM : Tok} {f f_d f_n f_p f_i f_t f_c : Addr} {fd fd_d fd_n fd_p fd_i fd_t fd_c : FuncData} (F : Fun K "is_record" "is_record" s_is_record f fd) (D_is_deed : Df K mg "is_deed" s_is_deed ["thing"] f_d fd_d) (D_is_number : Df K mg "is_number" s_is_number ["thing"] f_n fd_n) (D_is_plain : Df K mg "is_plain" s_is_plain ["thing"] f_p fd_p) (D_is_integer : Df K mg "is_integer" s_is_integer ["thing"] f_i fd_i) (D_is_text : Df K mg "is_text" s_is_text ["thing"] f_t fd_t)
    (D__may_stand_in_text : Df K mg "_may_stand_in_text" s__may_stand_in_text ["code"] f_c fd_c) (c_NUMBER_MOST : mg "NUMBER_MOST" = some (.int (10 ^ 18) tN)) (c_TEXT_MOST : mg "TEXT_MOST" = some (.int 200 tT)) (c__PERCENT : mg "_PERCENT" = some (.int 37 tP)) (c__DEED_MOST : mg "_DEED_MOST" = some (.int 4 tM)) (T : Glo mg) : FnOk P w K mg base CX0 5 f fd ["thing"] (spB K (n + 2) isRec) := by
  have G_is_deed : FnOk P w K mg base CX0 4 f_d fd_d _ _ := ok_is_deed (n := n) D_is_deed.F D_is_plain D_is_integer D_is_text D__may_stand_in_text c_NUMBER_MOST c_TEXT_MOST c__PERCENT c__DEED_MOST T
  have G_is_number : FnOk P w K mg base CX0 2 f_n fd_n _ _ := ok_is_number (n := n + 1) D_is_number.F D_is_integer c_NUMBER_MOST T
  refine F.ok sc_is_record (fun vs H Q E h => ?_) (fun cdv A outer s H vs Q E hr h => ?_)
  · obtain ⟨v, d, rfl, _⟩ := h
    rfl
  · obtain ⟨v, d, rfl, hd, ok, q⟩ := h
    refine ⟨_, (pss_cons (ps_if (PW.pt (pw_or (pt_not (pt_val (pe_callB call_isi (by rfl) T.isinstance (by decide +kernel) (pa_cons (pv 0) (pa_cons (pe_bltn (v := .ty "tuple") (u := .type "tuple") (by rfl) T.tuple (by decide +kernel) rfl) pa_nil))))) (pw_or1 (pt_cmpR op_ne (pe_callB call_len_seq (by rfl) T.len PySem.boot_len (pa_cons (pv 0) pa_nil)) pe_int (nomark _)))))
  (pss_one (ps_ret pe_bl))
  pss_nil)
  (pss_cons (ps_asg (pv 0) (pg_tup (by rfl) (pgs_cons (pg_name (i := 1) sc_is_record.nd rfl (.inl rfl)) (pgs_cons (pg_name (i := 2) sc_is_record.nd rfl (.inl rfl)) (pgs_cons (pg_name (i := 3) sc_is_record.nd rfl (.inl rfl)) pgs_nil)))))
  (pss_one (ps_ret (pe_and (pe_call G_is_number (hr.mono (by decide)) (by rfl) D_is_number.g D_is_number.F.kp D_is_number.b .nil pass0 (pa_cons (pv 1) pa_nil)) (pe_and (pe_call G_is_number (hr.mono (by decide)) (by rfl) D_is_number.g D_is_number.F.kp D_is_number.b .nil pass0 (pa_cons (pv 2) pa_nil)) (pe_and (pe_cmpR op_ge (pv 2) pe_int (nomark _)) (pe_one (pe_call G_is_deed (hr.mono (by decide)) (by rfl) D_is_deed.g D_is_deed.F.kp D_is_deed.b .nil pass0 (pa_cons (pv 3) pa_nil)))))))))), ?_⟩
    by_cases hT : isTup d = true
    · obtain ⟨ds, rfl⟩ := tup_of hT
      have hd' := hd
      cases ok with
      | tup hds hall =>
        have q : RetV (.bl (decide (ds.length = 3) && (isN (ds.getD 0 .none) && (isN (ds.getD 1 .none) && (geB 1 (ds.getD 1 .none) && isDeed (ds.getD 2 .none)))))) H Q := q
        by_cases h3 : ds.length = 3
        · rw [decide_eq_true h3, Bool.true_and] at q
          cases hd with
          | @tup ta ys _ hs hda =>
            obtain ⟨d0, d1, d2, rfl⟩ : ∃ d0 d1 d2, ds = [d0, d1, d2] := by
              match ds, h3 with
              | [a, b, c], _ => exact ⟨a, b, c, rfl⟩
            cases hda with
            | @cons x0 _ _ _ g0 r0 => cases r0 with
              | @cons x1 _ _ _ g1 r1 => cases r1 with
                | @cons x2 _ _ _ g2 r2 =>
                  cases r2
                  refine' q_when (b := false) (et_is (et_or (a := false) (b := false) (et_is (et_not (et_B (ev_isiX (K := K) (ex_var rfl hd') (kit_tup _)))) rfl) (fun _ => et_test (ev_is (ev_op (ev_lenXT (K := K) (ex_var rfl hd')) ev_c (rv_ne rfl)) (by simp)))) rfl) (fun hb => nomatch hb) (fun _ H1 e1 => ?_)
                  refine ⟨.ref ta, rfl, ta, _, rfl, ex_t e1 hs, rfl, x0, _, rfl, x1, _, rfl, x2, _, rfl, rfl, ?_⟩
                  have o0 := hall d0 List.mem_cons_self
                  have o1 := hall d1 (List.mem_cons_of_mem _ List.mem_cons_self)
                  have o2 := hall d2 (List.mem_cons_of_mem _ (List.mem_cons_of_mem _ List.mem_cons_self))
                  have f0 := dx_mono e1 _ _ g0
                  have f1 := dx_mono e1 _ _ g1
                  have f2 := dx_mono e1 _ _ g2
                  refine s_ret (v := .bl (isN d0 && (isN d1 && (geB 1 d1 && isDeed d2)))) (ev_andV (a := isN d0) (b := isN d1 && (geB 1 d1 && isDeed d2)) (ev_call (ea_cons (ev_var rfl) ea_nil) (spB_v f0 o0)) (fun _ => ev_andV (a := isN d1) (b := geB 1 d1 && isDeed d2) (ev_call (ea_cons (ev_var rfl) ea_nil) (spB_v f1 o1)) (fun h1 => ev_andV (a := geB 1 d1) (b := isDeed d2) ?_ (fun _ => ev_call (ea_cons (ev_var rfl) ea_nil) (spB_v f2 o2))))) (fun H2 e2 => q H2 (e1.trans e2))
                  cases f1 with
                  | int i => exact ev_op (ev_var rfl) ev_c rv_I0
                  | _ => exact absurd h1 (by simp [isN, isI])
        · rw [decide_eq_false h3, Bool.false_and] at q
          exact q_when (b := true) (et_is (et_or (a := false) (b := true) (et_is (et_not (et_B (ev_isiX (K := K) (ex_var rfl hd') (kit_tup _)))) rfl) (fun _ => et_test (ev_is (ev_op (ev_lenXT (K := K) (ex_var rfl hd')) ev_c (rv_ne rfl)) (by
            rw [decide_eq_false (fun e => by have := V.int.inj e; omega)]
            rfl)))) rfl) (fun hb H1 e1 => s_ret ev_c (fun H2 e2 => q H2 (e1.trans e2))) (fun hb => nomatch hb)
    · have hT : isTup d = false := by simpa using hT
      have : isRec d = false := by
        cases d <;> simp_all [isTup, isRec]
      rw [this] at q
      exact q_when (b := true) (et_is (et_or (a := true) (b := true) (et_is (et_not (et_B (ev_isiX (K := K) (ex_var rfl hd) (kit_tup d)))) (by rw [hT]; rfl)) (fun h => nomatch h)) rfl) (fun hb H1 e1 => s_ret ev_c (fun H2 e2 => q H2 (e1.trans e2))) (fun hb => nomatch hb)

theorem ok_are_records {n : Nat} {tN tT tP tM : Tok} {f f_r f_d f_n f_p f_i f_t f_c : Addr} {fd fd_r fd_d fd_n fd_p fd_i fd_t fd_c : FuncData} (F : Fun K "_are_records" "_are_records" s__are_records f fd) (D_is_record : Df K mg "is_record" s_is_record ["thing"] f_r fd_r) (D_is_deed : Df K mg "is_deed" s_is_deed ["thing"] f_d fd_d) (D_is_number : Df K mg "is_number" s_is_number ["thing"] f_n fd_n) (D_is_plain : Df K mg "is_plain" s_is_plain ["thing"] f_p fd_p) (D_is_integer : Df K mg "is_integer" s_is_integer ["thing"] f_i fd_i) (D_is_text : Df K mg "is_text" s_is_text ["thing"] f_t fd_t)
    (D__may_stand_in_text : Df K mg "_may_stand_in_text" s__may_stand_in_text ["code"] f_c fd_c) (c_NUMBER_MOST : mg "NUMBER_MOST" = some (.int (10 ^ 18) tN)) (c_TEXT_MOST : mg "TEXT_MOST" = some (.int 200 tT)) (c__PERCENT : mg "_PERCENT" = some (.int 37 tP)) (c__DEED_MOST : mg "_DEED_MOST" = some (.int 4 tM)) (T : Glo mg) : FnOk P w K mg base CX0 6 f fd ["things"] (spB K (n + 3) isRecs) := by
  have G_is_record : FnOk P w K mg base CX0 5 f_r fd_r _ _ := ok_is_record (n := n) D_is_record.F D_is_deed D_is_number D_is_plain D_is_integer D_is_text D__may_stand_in_text c_NUMBER_MOST c_TEXT_MOST c__PERCENT c__DEED_MOST T
  refine F.ok sc__are_records (fun vs H Q E h => ?_) (fun cdv A outer s H vs Q E hr h => ?_)
  · obtain ⟨v, d, rfl, _⟩ := h
    rfl
  · obtain ⟨v, d, rfl, hd, ok, q⟩ := h
    refine ⟨_, (pss_one (ps_ret (pe_and (pe_callB call_isi (by rfl) T.isinstance (by decide +kernel) (pa_cons (pv 0) (pa_cons (pe_bltn (v := .ty "tuple") (u := .type "tuple") (by rfl) T.tuple (by decide +kernel) rfl) pa_nil))) (pe_one (pe_callB (cr_all rfl) (by rfl) T.all (by decide +kernel) (pa_cons (pe_lc (own := [("thing", 1)]) (g := gName 1) rfl sc__are_records.nd (pi_tup (pv 0)) (blkOk_by (N := N__are_records) (sc := defScope s__are_records) (by decide +kernel)) (fun _ _ _ _ _ => (pg_name (i := 1) sc__are_records.nd rfl (.inl rfl))) (fun _ _ _ _ _ => pts_nil) (fun _ _ _ _ _ => (pe_call G_is_record (hr.mono (by decide)) (by rfl) D_is_record.g D_is_record.F.kp D_is_record.b .nil pass0 (pa_cons (pv 1) pa_nil)))) pa_nil)))))), ?_⟩
    by_cases hT : isTup d = true
    · obtain ⟨ds, rfl⟩ := tup_of hT
      have hd' := hd
      cases ok with
      | tup hds hall =>
        cases hd with
        | @tup ta ys _ hs hda =>
          have hyl := dxa_len hda
          have q2 : RetV (.bl (true && (ds.map isRec).all id)) H Q := by
            rw [List.all_map, Bool.true_and]
            exact q
          refine s_ret (ev_andV (a := true) (b := (ds.map isRec).all id) (ev_isiX (K := K) (ex_var rfl hd') (kit_tup _)) (fun _ => ev_all (K := K) (bs := ds.map isRec) (given_map ds isRec ▸ hyl ▸ el_lcT (K := K) (fun i => V.bl (isRec (ds.getD i .none))) (ev_var rfl) hs (by omega) (fun _ => rfl) (fun x H3 e3 => et_nil) (fun i x H3 e3 hx => ?_)))) q2
          obtain ⟨di, hdi, hdx⟩ := dxa_atV hda hx
          rw [List.getD_eq_getElem?_getD, hdi]
          exact ev_call (ea_cons (ev_var rfl) ea_nil) (spB_v (dx_mono e3 _ _ hdx) (hall di (List.mem_of_getElem? hdi)))
    · have hT : isTup d = false := by simpa using hT
      have : isRecs d = false := by
        cases d <;> simp_all [isTup, isRecs]
      rw [this] at q
      exact s_ret (v := .bl false) (ev_is (ev_andV (a := false) (b := false) (ev_is (ev_isiX (K := K) (ex_var rfl hd) (kit_tup d)) (by rw [hT])) (fun h => nomatch h)) rfl) q
/-! ### the law's own predicates, which say the same -/
theorem bool3 : ∀ a b c : Bool, (!(a && b) || c) = !((a && b) && !c) := by decide
theorem cpow18 : CPow 10 18 := ⟨by decide, by decide, by decide⟩
theorem ok_l_integer {n : Nat} {f : Addr} {fd : FuncData} (F : Fun K "_law_is_integer" "_law_is_integer" s__law_is_integer f fd) (T : Glo mg) : FnOk P w K mg base CX0 1 f fd ["thing"] (spB K n isI) := by
  refine F.ok sc__law_is_integer (fun vs H Q E h => ?_) (fun cdv A outer s H vs Q E hr h => ?_)
  · obtain ⟨v, d, rfl, _⟩ := h
    rfl
  · obtain ⟨v, d, rfl, hd, ok, q⟩ := h
    refine ⟨_, (pss_one (ps_ret (pe_and (pe_callB call_isi (by rfl) T.isinstance (by decide +kernel) (pa_cons (pv 0) (pa_cons (pe_bltn (v := .ty "int") (u := .type "int") (by rfl) T.int (by decide +kernel) rfl) pa_nil))) (pe_and (pe_not (pe_callB call_isi (by rfl) T.isinstance (by decide +kernel) (pa_cons (pv 0) (pa_cons (pe_bltn (v := .ty "bool") (u := .type "bool") (by rfl) T.bool (by decide +kernel) rfl) pa_nil)))) (pe_one (pe_chain op_le op_le (pe_un un_neg (pe_op op_pow pe_int pe_int)) (pv 0) (pe_op op_pow pe_int pe_int))))))), ?_⟩
    have hv : (isInt d && (!isBoo d && isI d)) = isI d := by
      cases d <;> simp [isInt, isBoo, isI]
    rw [← hv] at q
    refine s_ret (ev_andV (a := isInt d) (b := !isBoo d && isI d) (ev_isiX (K := K) (ex_var rfl hd) (kit_int d)) (fun h1 => ev_andV (a := !isBoo d) (b := isI d) (ev_notV (ev_isiX (K := K) (ex_var rfl hd) (kit_bool d))) (fun h2 => ?_))) q
    obtain ⟨i, rfl⟩ := int_of (d := d) (by rw [h1, bnot_t h2]; rfl)
    cases hd
    exact ev_is (ev_chain (k := decide (-(10 ^ (18 : Int).toNat) ≤ i)) (m := decide (i ≤ 10 ^ (18 : Int).toNat)) (ev_un (ev_op ev_c ev_c (rv_I cpow18)) ru_neg) (ev_var rfl) rv_I0 (ev_op ev_c ev_c (rv_I cpow18)) rv_I0) rfl
theorem ok_l_text {n : Nat} {f : Addr} {fd : FuncData} (F : Fun K "_law_is_text" "_law_is_text" s__law_is_text f fd) (T : Glo mg) : FnOk P w K mg base CX0 1 f fd ["thing"] (spB K n isT) := by
  refine F.ok sc__law_is_text (fun vs H Q E h => ?_) (fun cdv A outer s H vs Q E hr h => ?_)
  · obtain ⟨v, d, rfl, _⟩ := h
    rfl
  · obtain ⟨v, d, rfl, hd, ok, q⟩ := h
    refine ⟨_, (pss_cons (ps_if (PW.pt (pw_or (pt_not (pt_val (pe_callB call_isi (by rfl) T.isinstance (by decide +kernel) (pa_cons (pv 0) (pa_cons (pe_bltn (v := .ty "str") (u := .type "str") (by rfl) T.str (by decide +kernel) rfl) pa_nil))))) (pw_or1 (pt_cmpR op_gt (pe_callB call_len_str (by rfl) T.len PySem.boot_len (pa_cons (pv 0) pa_nil)) pe_int (nomark _)))))
  (pss_one (ps_ret pe_bl))
  pss_nil)
  (pss_cons (ps_for PassesOwn.never rfl (pi_str (pv 0)) (pg_name (i := 1) sc__law_is_text.nd rfl (.inl rfl))
  (pss_one (ps_if (PW.pt (pw_or (pt_not (pt_chain op_le op_le pe_int (pe_callB call_ord (by rfl) T.ord (by decide +kernel) (pa_cons (pv 1) pa_nil)) pe_int)) (pw_or1 (pt_cmpR op_eq (pe_callB call_ord (by rfl) T.ord (by decide +kernel) (pa_cons (pv 1) pa_nil)) pe_int (nomark _)))))
  (pss_one (ps_ret pe_bl))
  pss_nil)))
  (pss_one (ps_ret pe_bl)))), ?_⟩
    by_cases hS : isStr d = true
    · obtain ⟨x, rfl⟩ := str_of hS
      have hxl : x.length ≤ 1000 := by
        cases ok
        assumption
      have hd' := hd
      cases hd
      refine' q_when (b := decide ((x.length : Int) > 200)) (et_is (et_or (a := false) (b := decide ((x.length : Int) > 200)) (et_is (et_not (et_B (ev_isiX (K := K) (ex_var rfl hd') (kit_str _)))) rfl) (fun _ => et_test (ev_op (ev_cb (ea_cons (ev_var rfl) ea_nil) (rc_lenS (by omega))) ev_c rv_I0))) (Bool.false_or _)) (fun hb H1 e1 => ?_) (fun hb H1 e1 => ?_)
      · have hb := of_decide_eq_true hb
        have : isT (.str x) = false := by
          show (decide (x.length ≤ 200) && _) = false
          rw [decide_eq_false (by omega)]
          rfl
        rw [this] at q
        exact s_ret ev_c (fun H2 e2 => q H2 (e1.trans e2))
      · have hb := of_decide_eq_false hb
        have hit : isT (.str x) = x.cps.toList.all chOk := by
          show (decide (x.length ≤ 200) && _) = _
          rw [decide_eq_true (by omega)]
          rfl
        rw [hit] at q
        refine q_forS (ev_var rfl) (fun i σ' H' => ∃ y : Option V, σ' = [some (.str x), y] ∧ Ex H H' ∧ ∀ j c, j < i → x.cps[j]? = some c → chOk c = true) (fun H2 e2 => ⟨none, rfl, e1.trans e2, fun j c hj => absurd hj (by omega)⟩) (fun i c σ' H' hc hp => ?_) (fun σ' H' hp => ?_)
        · obtain ⟨y, rfl, e, hj⟩ := hp
          refine' s_when (b := !chOk c) (et_is (et_or (a := !(decide ((32 : Int) ≤ (c : Int)) && decide ((c : Int) ≤ 126))) (b := decide (V.int (c : Int) = V.int 37)) (et_not (et_test (ev_chain ev_c (ev_cb (ea_cons (ev_var rfl) ea_nil) rc_ord) rv_I0 ev_c rv_I0))) (fun _ => et_test (ev_op (ev_cb (ea_cons (ev_var rfl) ea_nil) rc_ord) ev_c (rv_eq rfl)))) ?_) (fun hb H3 e3 => ?_) (fun hb H3 e3 => ?_)
          · exact bool3 _ _ _
          · have hf : x.cps.toList.all chOk = false := by
              rw [Bool.eq_false_iff]
              intro h
              have := List.all_eq_true.mp h c (by
                obtain ⟨hi, rfl⟩ := Array.getElem?_eq_some_iff.mp hc
                exact Array.mem_toList_iff.mpr (Array.getElem_mem hi))
              rw [this] at hb
              cases hb
            rw [hf] at q
            exact s_ret ev_c (fun H4 e4 => q H4 ((e.trans e3).trans e4))
          · refine ⟨_, rfl, e.trans e3, fun j c' hj' hc' => ?_⟩
            by_cases hji : j = i
            · rw [hji, hc] at hc'
              rw [← Option.some.inj hc']
              exact bnot_f hb
            · exact hj j c' (by omega) hc'
        · obtain ⟨y, rfl, e, hj⟩ := hp
          have ht : x.cps.toList.all chOk = true := by
            rw [List.all_eq_true]
            intro c hc
            obtain ⟨i, hi, rfl⟩ := Array.getElem_of_mem (Array.mem_toList_iff.mp hc)
            exact hj i _ hi (Array.getElem?_eq_getElem hi)
          rw [ht] at q
          exact s_ret ev_c (fun H4 e4 => q H4 (e.trans e4))
    · have hS : isStr d = false := by simpa using hS
      rw [isT_not hS] at q
      refine' q_when (b := true) (et_is (et_or (a := true) (b := true) (et_is (et_not (et_B (ev_isiX (K := K) (ex_var rfl hd) (kit_str d)))) (by rw [hS]; rfl)) (fun h => nomatch h)) rfl) (fun hb H1 e1 => s_ret ev_c (fun H2 e2 => q H2 (e1.trans e2))) (fun hb => nomatch hb)
def spLV (K : PySem.W.Frag) : Nat → Sp
  | 0 => fun _ _ _ _ => False
  | n + 1 => spB K n isV
theorem ok_l_value {f f_i f_t : Addr} {fd fd_i fd_t : FuncData} (D__law_is_value : Df K mg "_law_is_value" s__law_is_value ["thing"] f fd) (D__law_is_integer : Df K mg "_law_is_integer" s__law_is_integer ["thing"] f_i fd_i) (D__law_is_text : Df K mg "_law_is_text" s__law_is_text ["thing"] f_t fd_t) (T : Glo mg) : ∀ n : Nat, FnOk P w K mg base CX0 (n + 3) f fd ["thing"] (spB K n isV) := fun n => by
  have plain : ∀ (n : Nat) (G : FnOk P w K mg base CX0 (n + 2) f fd ["thing"] (spLV K n)), FnOk P w K mg base CX0 (n + 3) f fd ["thing"] (spB K n isV) := fun n G__law_is_value => by
    have G__law_is_integer : FnOk P w K mg base CX0 1 f_i fd_i _ _ := ok_l_integer (n := n) D__law_is_integer.F T
    have G__law_is_text : FnOk P w K mg base CX0 1 f_t fd_t _ _ := ok_l_text (n := n) D__law_is_text.F T
    refine D__law_is_value.F.ok sc__law_is_value (fun vs H Q E h => ?_) (fun cdv A outer s H vs Q E hr h => ?_)
    · obtain ⟨v, d, rfl, _⟩ := h
      rfl
    · obtain ⟨v, d, rfl, hd, ok, q⟩ := h
      refine ⟨_, (pss_cons (ps_if (pt_val (pe_callB call_isi (by rfl) T.isinstance (by decide +kernel) (pa_cons (pv 0) (pa_cons (pe_bltn (v := .ty "tuple") (u := .type "tuple") (by rfl) T.tuple (by decide +kernel) rfl) pa_nil))))
  (pss_cons (ps_for PassesOwn.never rfl (pi_tup (pv 0)) (pg_name (i := 1) sc__law_is_value.nd rfl (.inl rfl))
  (pss_one (ps_if (pt_not (pt_val (pe_call G__law_is_value (hr.mono (by omega)) (by rfl) D__law_is_value.g D__law_is_value.F.kp D__law_is_value.b .nil pass0 (pa_cons (pv 1) pa_nil))))
  (pss_one (ps_ret pe_bl))
  pss_nil)))
  (pss_one (ps_ret pe_bl)))
  pss_nil)
  (pss_one (ps_ret (pe_or (pe_call G__law_is_integer (hr.mono (by omega)) (by rfl) D__law_is_integer.g D__law_is_integer.F.kp D__law_is_integer.b .nil pass0 (pa_cons (pv 0) pa_nil)) (pe_one (pe_call G__law_is_text (hr.mono (by omega)) (by rfl) D__law_is_text.g D__law_is_text.F.kp D__law_is_text.b .nil pass0 (pa_cons (pv 0) pa_nil))))))), ?_⟩
      by_cases hT : isTup d = true
      · obtain ⟨ds, rfl⟩ := tup_of hT
        have hd' := hd
        cases ok with
        | @tup m _ hds hall =>
          cases hd with
          | @tup ta ys _ hs hda =>
            have hyl := dxa_len hda
            have hall' : isV (.tuple ds) = ds.all isV := by
              show isVs ds = _
              exact isVs_iff ds
            rw [hall'] at q
            refine' q_when (b := true) (et_B (ev_isiX (K := K) (ex_var rfl hd') (kit_tup _))) (fun _ H1 e1 => ?_) (fun hb => nomatch hb)
            refine' q_forTn (K := K) (a := ta) (xs := ys) (ev_var rfl) (ex_t e1 hs) (fun i σ' H' => ∃ y : Option V, σ' = [some (.ref ta), y] ∧ Ex H H' ∧ ∀ j, j < i → isV (ds.getD j .none) = true) (fun H3 e3 => ⟨none, rfl, e1.trans e3, fun j hj => absurd hj (by omega)⟩) (fun i σ' H' _ hp => ?_) (fun i x σ' H' hx hp => ?_) (fun σ' H' hp => ?_)
            · obtain ⟨_, _, e, _⟩ := hp
              exact ex_t e hs
            · obtain ⟨y, rfl, e, hj⟩ := hp
              obtain ⟨di, hdi, hdx⟩ := dxa_atV hda hx
              have hgi : ds.getD i .none = di := by rw [List.getD_eq_getElem?_getD, hdi]; rfl
              refine' s_when (b := !isV di) (et_not (et_B (ev_call (ea_cons (ev_var rfl) ea_nil) (spB_v (n := m) (dx_mono e _ _ hdx) (hall di (List.mem_of_getElem? hdi)))))) (fun hb H3 e3 => ?_) (fun hb H3 e3 => ?_)
              · have hf : ds.all isV = false := by
                  rw [Bool.eq_false_iff]
                  intro h
                  have := List.all_eq_true.mp h di (List.mem_of_getElem? hdi)
                  rw [this] at hb
                  cases hb
                rw [hf] at q
                exact s_ret ev_c (fun H4 e4 => q H4 ((e.trans e3).trans e4))
              · refine ⟨_, rfl, e.trans e3, fun j hj' => ?_⟩
                by_cases hji : j = i
                · rw [hji, hgi]
                  exact bnot_f hb
                · exact hj j (by omega)
            · obtain ⟨y, rfl, e, hj⟩ := hp
              have ht : ds.all isV = true := by
                rw [List.all_eq_true]
                intro d hd
                obtain ⟨j, hjl, rfl⟩ := List.getElem_of_mem hd
                have := hj j (by omega)
                rwa [List.getD_eq_getElem?_getD, List.getElem?_eq_getElem hjl] at this
              rw [ht] at q
              exact s_ret ev_c (fun H4 e4 => q H4 (e.trans e4))
      · have hT : isTup d = false := by simpa using hT
        rw [isV_not hT] at q
        refine' q_when (b := false) (et_is (et_B (ev_isiX (K := K) (ex_var rfl hd) (kit_tup d))) hT) (fun hb => nomatch hb) (fun _ H1 e1 => ?_)
        exact s_ret (ev_orV (a := isI d) (b := isT d) (ev_call (ea_cons (ev_var rfl) ea_nil) (spB_v (dx_mono e1 _ _ hd) ok)) (fun _ => ev_call (ea_cons (ev_var rfl) ea_nil) (spB_v (dx_mono e1 _ _ hd) ok))) (fun H2 e2 => q H2 (e1.trans e2))
  induction n with
  | zero => exact plain 0 fn_false
  | succ n ih => exact plain (n + 1) ih

theorem p_of {d : PyData} (h : isP d = true) : isStr d = isT d := by
  cases d <;> simp_all [isP, isStr, isT, isI]
theorem ok_l_deed {n : Nat} {f f_i f_t : Addr} {fd fd_i fd_t : FuncData} (F : Fun K "_law_is_deed" "_law_is_deed" s__law_is_deed f fd) (D__law_is_integer : Df K mg "_law_is_integer" s__law_is_integer ["thing"] f_i fd_i) (D__law_is_text : Df K mg "_law_is_text" s__law_is_text ["thing"] f_t fd_t) (T : Glo mg) : FnOk P w K mg base CX0 2 f fd ["thing"] (spB K (n + 1) isDeed) := by
  have G__law_is_integer : FnOk P w K mg base CX0 1 f_i fd_i _ _ := ok_l_integer (n := n) D__law_is_integer.F T
  have G__law_is_text : FnOk P w K mg base CX0 1 f_t fd_t _ _ := ok_l_text (n := n) D__law_is_text.F T
  refine F.ok sc__law_is_deed (fun vs H Q E h => ?_) (fun cdv A outer s H vs Q E hr h => ?_)
  · obtain ⟨v, d, rfl, _⟩ := h
    rfl
  · obtain ⟨v, d, rfl, hd, ok, q⟩ := h
    refine ⟨_, (pss_cons (ps_if (PW.pt (pw_or (pt_not (pt_val (pe_callB call_isi (by rfl) T.isinstance (by decide +kernel) (pa_cons (pv 0) (pa_cons (pe_bltn (v := .ty "tuple") (u := .type "tuple") (by rfl) T.tuple (by decide +kernel) rfl) pa_nil))))) (pw_or (pt_cmpR op_lt (pe_callB call_len_seq (by rfl) T.len PySem.boot_len (pa_cons (pv 0) pa_nil)) pe_int (nomark _)) (pw_or1 (pt_cmpR op_gt (pe_callB call_len_seq (by rfl) T.len PySem.boot_len (pa_cons (pv 0) pa_nil)) pe_int (nomark _))))))
  (pss_one (ps_ret pe_bl))
  pss_nil)
  (pss_cons (ps_for PassesOwn.never rfl (pi_tup (pv 0)) (pg_name (i := 1) sc__law_is_deed.nd rfl (.inl rfl))
  (pss_one (ps_if (PW.pt (pw_and (pt_not (pt_val (pe_call G__law_is_integer (hr.mono (by decide)) (by rfl) D__law_is_integer.g D__law_is_integer.F.kp D__law_is_integer.b .nil pass0 (pa_cons (pv 1) pa_nil)))) (pw_and1 (pt_not (pt_val (pe_call G__law_is_text (hr.mono (by decide)) (by rfl) D__law_is_text.g D__law_is_text.F.kp D__law_is_text.b .nil pass0 (pa_cons (pv 1) pa_nil)))))))
  (pss_one (ps_ret pe_bl))
  pss_nil)))
  (pss_one (ps_ret (pe_and (pe_callB call_isi (by rfl) T.isinstance (by decide +kernel) (pa_cons (pe_ix ix_tup (pv 0) pe_int (fun _ _ => rfl)) (pa_cons (pe_bltn (v := .ty "str") (u := .type "str") (by rfl) T.str (by decide +kernel) rfl) pa_nil))) (pe_one (pe_cmpR op_ne (pe_ix ix_tup (pv 0) pe_int (fun _ _ => rfl)) pe_str (nomark _)))))))), ?_⟩
    by_cases hT : isTup d = true
    · obtain ⟨ds, rfl⟩ := tup_of hT
      have hd' := hd
      cases ok with
      | tup hds hall =>
        have q : RetV (.bl (((decide (1 ≤ (ds.length : Int)) && decide ((ds.length : Int) ≤ 4)) && (isT (ds.getD 0 .none) && neS (ds.getD 0 .none))) && ds.all isP)) H Q := q
        refine' q_when (b := decide ((ds.length : Int) < 1) || decide ((ds.length : Int) > 4)) (et_is (et_or (a := false) (b := decide ((ds.length : Int) < 1) || decide ((ds.length : Int) > 4)) (et_is (et_not (et_B (ev_isiX (K := K) (ex_var rfl hd') (kit_tup _)))) rfl) (fun _ => et_or (et_test (ev_op (ev_lenXT (K := K) (ex_var rfl hd)) ev_c rv_I0)) (fun _ => et_test (ev_op (ev_lenXT (K := K) (ex_var rfl hd)) ev_c rv_I0)))) (Bool.false_or _)) (fun hb H1 e1 => ?_) (fun hb H1 e1 => ?_)
        · have hb' : (decide (1 ≤ (ds.length : Int)) && decide ((ds.length : Int) ≤ 4)) = false := by
            rcases Bool.or_eq_true_iff.mp hb with h | h
            · have h := of_decide_eq_true h
              rw [decide_eq_false (show ¬ 1 ≤ (ds.length : Int) by omega)]
              rfl
            · have h := of_decide_eq_true h
              rw [decide_eq_false (show ¬ (ds.length : Int) ≤ 4 by omega), Bool.and_false]
          rw [hb', Bool.false_and, Bool.false_and] at q
          exact s_ret ev_c (fun H2 e2 => q H2 (e1.trans e2))
        · obtain ⟨k1, k2⟩ := Bool.or_eq_false_iff.mp hb
          have k1 := of_decide_eq_false k1
          have k2 := of_decide_eq_false k2
          rw [decide_eq_true (show 1 ≤ (ds.length : Int) by omega), decide_eq_true (show (ds.length : Int) ≤ 4 by omega), Bool.and_self, Bool.true_and] at q
          cases hd with
          | @tup ta ys _ hs hda =>
            have hyl := dxa_len hda
            refine' q_forTn (K := K) (a := ta) (xs := ys) (ev_var rfl) (ex_t e1 hs) (fun i σ' H' => ∃ y : Option V, σ' = [some (.ref ta), y] ∧ Ex H H' ∧ ∀ j, j < i → isP (ds.getD j .none) = true) (fun H3 e3 => ⟨none, rfl, e1.trans e3, fun j hj => absurd hj (by omega)⟩) (fun i σ' H' _ hp => ?_) (fun i x σ' H' hx hp => ?_) (fun σ' H' hp => ?_)
            · obtain ⟨_, _, e, _⟩ := hp
              exact ex_t e hs
            · obtain ⟨y, rfl, e, hj⟩ := hp
              obtain ⟨di, hdi, hdx⟩ := dxa_atV hda hx
              have hgi : ds.getD i .none = di := by rw [List.getD_eq_getElem?_getD, hdi]; rfl
              have oki := hall di (List.mem_of_getElem? hdi)
              refine' s_when (b := !isP di) (et_is (et_and (a := !isI di) (b := !isT di) (et_not (et_B (ev_call (ea_cons (ev_var rfl) ea_nil) (spB_v (dx_mono e _ _ hdx) oki)))) (fun _ => et_not (et_B (ev_call (ea_cons (ev_var rfl) ea_nil) (spB_v (dx_mono e _ _ hdx) oki))))) ?_) (fun hb H3 e3 => ?_) (fun hb H3 e3 => ?_)
              · unfold isP
                rw [Bool.not_or]
              · have hf : ds.all isP = false := by
                  rw [Bool.eq_false_iff]
                  intro h
                  have := List.all_eq_true.mp h di (List.mem_of_getElem? hdi)
                  rw [this] at hb
                  cases hb
                rw [hf, Bool.and_false] at q
                exact s_ret ev_c (fun H4 e4 => q H4 ((e.trans e3).trans e4))
              · refine ⟨_, rfl, e.trans e3, fun j hj' => ?_⟩
                by_cases hji : j = i
                · rw [hji, hgi]
                  exact bnot_f hb
                · exact hj j (by omega)
            · obtain ⟨y, rfl, e, hj⟩ := hp
              have ht : ds.all isP = true := by
                rw [List.all_eq_true]
                intro d hd
                obtain ⟨j, hjl, rfl⟩ := List.getElem_of_mem hd
                have := hj j (by omega)
                rwa [List.getD_eq_getElem?_getD, List.getElem?_eq_getElem hjl] at this
              rw [ht, Bool.and_true] at q
              have hp0 := hj 0 (by omega)
              obtain ⟨d0, hd0⟩ : ∃ d0, ds[0]? = some d0 := ⟨ds[0]'(by omega), List.getElem?_eq_getElem (by omega)⟩
              have hg0 : ds.getD 0 .none = d0 := by rw [List.getD_eq_getElem?_getD, hd0]; rfl
              obtain ⟨x0, hx0, hdx0⟩ := dxa_at hda hd0
              have hix : atI ys 0 = some x0 := atI_nat hx0
              rw [hg0] at q hp0
              have hse := ex_t e hs
              rw [← p_of hp0] at q
              have hdx0e := dx_mono e _ _ hdx0
              refine s_ret (ev_andV (a := isStr d0) (b := neS d0) (ev_isiX (K := K) (ex_of (ev_op (ev_var rfl) ev_c (rv_ixT hse hix)) hdx0e) (kit_str d0)) (fun h1 => ?_)) (fun H4 e4 => q H4 (e.trans e4))
              obtain ⟨x, rfl⟩ := str_of h1
              cases hdx0e
              exact ev_op (ev_op (ev_var rfl) ev_c (rv_ixT hse hix)) ev_c (rv_ne rfl)
    · have hT : isTup d = false := by simpa using hT
      have : isDeed d = false := by
        cases d <;> simp_all [isTup, isDeed]
      rw [this] at q
      exact q_when (b := true) (et_is (et_or (a := true) (b := true) (et_is (et_not (et_B (ev_isiX (K := K) (ex_var rfl hd) (kit_tup d)))) (by rw [hT]; rfl)) (fun h => nomatch h)) rfl) (fun hb H1 e1 => s_ret ev_c (fun H2 e2 => q H2 (e1.trans e2))) (fun hb => nomatch hb)

theorem geB_op {σ : L2.St} {H : Hp} {te : TE} {d : PyData} {k : Int} {v : V} (h : Ev te σ H v) (hd : Dx K H v d) (hi : isI d = true) : Ev (tOp (rI0 fun i j => .bl (decide (i ≥ j))) te (tC (.int k))) σ H (.bl (geB k d)) := by
  cases hd with
  | int i => exact ev_op h ev_c rv_I0
  | _ => exact absurd hi (by simp [isI])
theorem ltB_op {σ : L2.St} {H : Hp} {te : TE} {d : PyData} {k : Int} {v : V} (h : Ev te σ H v) (hd : Dx K H v d) (hi : isI d = true) : Ev (tOp (rI0 fun i j => .bl (decide (i < j))) te (tC (.int k))) σ H (.bl (!geB k d)) := by
  cases hd with
  | int i =>
    refine ev_is (ev_op h ev_c rv_I0) ?_
    show V.bl (decide (i < k)) = V.bl (!decide (i ≥ k))
    by_cases hi : i < k
    · rw [decide_eq_true hi, decide_eq_false (by omega)]
      rfl
    · rw [decide_eq_false hi, decide_eq_true (by omega)]
      rfl
  | _ => exact absurd hi (by simp [isI])
theorem isN_ge (d : PyData) : isN d = (isI d && geB 0 d) := by
  cases d <;> rfl
theorem ok_l_record {n : Nat} {f f_d f_i f_t : Addr} {fd fd_d fd_i fd_t : FuncData} (F : Fun K "_law_is_record" "_law_is_record" s__law_is_record f fd) (D__law_is_deed : Df K mg "_law_is_deed" s__law_is_deed ["thing"] f_d fd_d) (D__law_is_integer : Df K mg "_law_is_integer" s__law_is_integer ["thing"] f_i fd_i) (D__law_is_text : Df K mg "_law_is_text" s__law_is_text ["thing"] f_t fd_t) (T : Glo mg) : FnOk P w K mg base CX0 3 f fd ["thing"] (spB K (n + 2) isRec) := by
  have G__law_is_deed : FnOk P w K mg base CX0 2 f_d fd_d _ _ := ok_l_deed (n := n) D__law_is_deed.F D__law_is_integer D__law_is_text T
  have G__law_is_integer : FnOk P w K mg base CX0 1 f_i fd_i _ _ := ok_l_integer (n := n + 1) D__law_is_integer.F T
  refine F.ok sc__law_is_record (fun vs H Q E h => ?_) (fun cdv A outer s H vs Q E hr h => ?_)
  · obtain ⟨v, d, rfl, _⟩ := h
    rfl
  · obtain ⟨v, d, rfl, hd, ok, q⟩ := h
    refine ⟨_, (pss_cons (ps_if (PW.pt (pw_or (pt_not (pt_val (pe_callB call_isi (by rfl) T.isinstance (by decide +kernel) (pa_cons (pv 0) (pa_cons (pe_bltn (v := .ty "tuple") (u := .type "tuple") (by rfl) T.tuple (by decide +kernel) rfl) pa_nil))))) (pw_or (pt_cmpR op_ne (pe_callB call_len_seq (by rfl) T.len PySem.boot_len (pa_cons (pv 0) pa_nil)) pe_int (nomark _)) (pw_or1 (pt_not (pt_val (pe_call G__law_is_deed (hr.mono (by decide)) (by rfl) D__law_is_deed.g D__law_is_deed.F.kp D__law_is_deed.b .nil pass0 (pa_cons (pe_ix ix_tup (pv 0) pe_int (fun _ _ => rfl)) pa_nil))))))))
  (pss_one (ps_ret pe_bl))
  pss_nil)
  (pss_one (ps_ret (pe_and (pe_call G__law_is_integer (hr.mono (by decide)) (by rfl) D__law_is_integer.g D__law_is_integer.F.kp D__law_is_integer.b .nil pass0 (pa_cons (pe_ix ix_tup (pv 0) pe_int (fun _ _ => rfl)) pa_nil)) (pe_and (pe_cmpR op_ge (pe_ix ix_tup (pv 0) pe_int (fun _ _ => rfl)) pe_int (nomark _)) (pe_and (pe_call G__law_is_integer (hr.mono (by decide)) (by rfl) D__law_is_integer.g D__law_is_integer.F.kp D__law_is_integer.b .nil pass0 (pa_cons (pe_ix ix_tup (pv 0) pe_int (fun _ _ => rfl)) pa_nil)) (pe_one (pe_cmpR op_ge (pe_ix ix_tup (pv 0) pe_int (fun _ _ => rfl)) pe_int (nomark _))))))))), ?_⟩
    by_cases hT : isTup d = true
    · obtain ⟨ds, rfl⟩ := tup_of hT
      have hd' := hd
      cases ok with
      | tup hds hall =>
        have q : RetV (.bl (decide (ds.length = 3) && (isN (ds.getD 0 .none) && (isN (ds.getD 1 .none) && (geB 1 (ds.getD 1 .none) && isDeed (ds.getD 2 .none)))))) H Q := q
        by_cases h3 : ds.length = 3
        · rw [decide_eq_true h3, Bool.true_and] at q
          cases hd with
          | @tup ta ys _ hs hda =>
            obtain ⟨d0, d1, d2, rfl⟩ : ∃ d0 d1 d2, ds = [d0, d1, d2] := by
              match ds, h3 with
              | [a, b, c], _ => exact ⟨a, b, c, rfl⟩
            have o0 := hall d0 List.mem_cons_self
            have o1 := hall d1 (List.mem_cons_of_mem _ List.mem_cons_self)
            have o2 := hall d2 (List.mem_cons_of_mem _ (List.mem_cons_of_mem _ List.mem_cons_self))
            cases hda with
            | @cons x0 _ _ _ g0 r0 => cases r0 with
              | @cons x1 _ _ _ g1 r1 => cases r1 with
                | @cons x2 _ _ _ g2 r2 =>
                  cases r2
                  have q : RetV (.bl (isN d0 && (isN d1 && (geB 1 d1 && isDeed d2)))) H Q := q
                  have i0 : atI [x0, x1, x2] 0 = some x0 := rfl
                  have i1 : atI [x0, x1, x2] 1 = some x1 := rfl
                  have i2 : atI [x0, x1, x2] 2 = some x2 := rfl
                  refine' q_when (b := !isDeed d2) (et_is (et_or (a := false) (b := !isDeed d2) (et_is (et_not (et_B (ev_isiX (K := K) (ex_var rfl hd') (kit_tup _)))) rfl) (fun _ => et_is (et_or (a := false) (b := !isDeed d2) (et_test (ev_is (ev_op (ev_lenXT (K := K) (ex_var rfl hd')) ev_c (rv_ne rfl)) (by simp))) (fun _ => et_not (et_B (ev_call (ea_cons (ev_op (ev_var rfl) ev_c (rv_ixT hs i2)) ea_nil) (spB_v g2 o2))))) (Bool.false_or _))) (Bool.false_or _)) (fun hb H1 e1 => ?_) (fun hb H1 e1 => ?_)
                  · rw [bnot_t hb] at q
                    simp only [Bool.and_false] at q
                    exact s_ret ev_c (fun H2 e2 => q H2 (e1.trans e2))
                  · rw [bnot_f hb, Bool.and_true] at q
                    have hv : (isI d0 && (geB 0 d0 && (isI d1 && geB 1 d1))) = (isN d0 && (isN d1 && geB 1 d1)) := by
                      rw [isN_ge d0, isN_ge d1]
                      cases h0 : isI d0 <;> cases h1 : isI d1 <;> cases h2 : geB 0 d0 <;> cases h3 : geB 1 d1 <;> simp_all
                      · cases d1 <;> simp_all [geB, isI]
                        omega
                    rw [← hv] at q
                    have hs1 := ex_t e1 hs
                    have g0' := dx_mono e1 _ _ g0
                    have g1' := dx_mono e1 _ _ g1
                    exact s_ret (ev_andV (a := isI d0) (b := geB 0 d0 && (isI d1 && geB 1 d1)) (ev_call (ea_cons (ev_op (ev_var rfl) ev_c (rv_ixT hs1 i0)) ea_nil) (spB_v g0' o0)) (fun h0 => ev_andV (a := geB 0 d0) (b := isI d1 && geB 1 d1) (geB_op (ev_op (ev_var rfl) ev_c (rv_ixT hs1 i0)) g0' h0) (fun _ => ev_andV (a := isI d1) (b := geB 1 d1) (ev_call (ea_cons (ev_op (ev_var rfl) ev_c (rv_ixT hs1 i1)) ea_nil) (spB_v g1' o1)) (fun h1 => geB_op (ev_op (ev_var rfl) ev_c (rv_ixT hs1 i1)) g1' h1)))) (fun H2 e2 => q H2 (e1.trans e2))
        · rw [decide_eq_false h3, Bool.false_and] at q
          exact q_when (b := true) (et_is (et_or (a := false) (b := true) (et_is (et_not (et_B (ev_isiX (K := K) (ex_var rfl hd') (kit_tup _)))) rfl) (fun _ => et_is (et_or (a := true) (b := true) (et_test (ev_is (ev_op (ev_lenXT (K := K) (ex_var rfl hd')) ev_c (rv_ne rfl)) (by
            rw [decide_eq_false (fun e => by have := V.int.inj e; omega)]
            rfl))) (fun h => nomatch h)) rfl)) rfl) (fun hb H1 e1 => s_ret ev_c (fun H2 e2 => q H2 (e1.trans e2))) (fun hb => nomatch hb)
    · have hT : isTup d = false := by simpa using hT
      have : isRec d = false := by
        cases d <;> simp_all [isTup, isRec]
      rw [this] at q
      exact q_when (b := true) (et_is (et_or (a := true) (b := true) (et_is (et_not (et_B (ev_isiX (K := K) (ex_var rfl hd) (kit_tup d)))) (by rw [hT]; rfl)) (fun h => nomatch h)) rfl) (fun hb H1 e1 => s_ret ev_c (fun H2 e2 => q H2 (e1.trans e2))) (fun hb => nomatch hb)
theorem ok_l_log {f f_r f_v f_d f_i f_t : Addr} {fd fd_r fd_v fd_d fd_i fd_t : FuncData} (F : Fun K "_law_is_log" "_law_is_log" s__law_is_log f fd) (D__law_is_record : Df K mg "_law_is_record" s__law_is_record ["thing"] f_r fd_r) (D__law_is_value : Df K mg "_law_is_value" s__law_is_value ["thing"] f_v fd_v) (D__law_is_deed : Df K mg "_law_is_deed" s__law_is_deed ["thing"] f_d fd_d) (D__law_is_integer : Df K mg "_law_is_integer" s__law_is_integer ["thing"] f_i fd_i) (D__law_is_text : Df K mg "_law_is_text" s__law_is_text ["thing"] f_t fd_t) (T : Glo mg) : FnOk P w K mg base CX0 9 f fd ["thing"] (spB K 6 isLogD) := by
  have G__law_is_record : FnOk P w K mg base CX0 3 f_r fd_r _ _ := ok_l_record (n := 2) D__law_is_record.F D__law_is_deed D__law_is_integer D__law_is_text T
  have G__law_is_value : FnOk P w K mg base CX0 8 f_v fd_v _ _ := ok_l_value D__law_is_value D__law_is_integer D__law_is_text T 5
  have G__law_is_integer : FnOk P w K mg base CX0 1 f_i fd_i _ _ := ok_l_integer (n := 5) D__law_is_integer.F T
  refine F.ok sc__law_is_log (fun vs H Q E h => ?_) (fun cdv A outer s H vs Q E hr h => ?_)
  · obtain ⟨v, d, rfl, _⟩ := h
    rfl
  · obtain ⟨v, d, rfl, hd, ok, q⟩ := h
    refine ⟨_, (pss_cons (ps_if (PW.pt (pw_or (pt_not (pt_val (pe_callB call_isi (by rfl) T.isinstance (by decide +kernel) (pa_cons (pv 0) (pa_cons (pe_bltn (v := .ty "tuple") (u := .type "tuple") (by rfl) T.tuple (by decide +kernel) rfl) pa_nil))))) (pw_or (pt_cmpR op_ne (pe_callB call_len_seq (by rfl) T.len PySem.boot_len (pa_cons (pv 0) pa_nil)) pe_int (nomark _)) (pw_or1 (pt_not (pt_val (pe_callB call_isi (by rfl) T.isinstance (by decide +kernel) (pa_cons (pe_ix ix_tup (pv 0) pe_int (fun _ _ => rfl)) (pa_cons (pe_bltn (v := .ty "tuple") (u := .type "tuple") (by rfl) T.tuple (by decide +kernel) rfl) pa_nil)))))))))
  (pss_one (ps_ret pe_bl))
  pss_nil)
  (pss_cons (ps_if (PW.pt (pw_or (pt_not (pt_val (pe_call G__law_is_integer (hr.mono (by decide)) (by rfl) D__law_is_integer.g D__law_is_integer.F.kp D__law_is_integer.b .nil pass0 (pa_cons (pe_ix ix_tup (pv 0) pe_int (fun _ _ => rfl)) pa_nil)))) (pw_or (pt_cmpR op_lt (pe_ix ix_tup (pv 0) pe_int (fun _ _ => rfl)) pe_int (nomark _)) (pw_or1 (pt_not (pt_val (pe_call G__law_is_value (hr.mono (by decide)) (by rfl) D__law_is_value.g D__law_is_value.F.kp D__law_is_value.b .nil pass0 (pa_cons (pe_ix ix_tup (pv 0) pe_int (fun _ _ => rfl)) pa_nil))))))))
  (pss_one (ps_ret pe_bl))
  pss_nil)
  (pss_cons (ps_for PassesOwn.never rfl (pi_tup (pe_ix ix_tup (pv 0) pe_int (fun _ _ => rfl))) (pg_name (i := 1) sc__law_is_log.nd rfl (.inl rfl))
  (pss_one (ps_if (pt_not (pt_val (pe_call G__law_is_record (hr.mono (by decide)) (by rfl) D__law_is_record.g D__law_is_record.F.kp D__law_is_record.b .nil pass0 (pa_cons (pv 1) pa_nil))))
  (pss_one (ps_ret pe_bl))
  pss_nil)))
  (pss_one (ps_ret pe_bl))))), ?_⟩
    by_cases hT : isTup d = true
    · obtain ⟨ds, rfl⟩ := tup_of hT
      have hd' := hd
      cases ok with
      | tup hds hall =>
        have q : RetV (.bl (decide (ds.length = 3) && (isN (ds.getD 0 .none) && (isV (ds.getD 1 .none) && isRecs (ds.getD 2 .none))))) H Q := q
        by_cases h3 : ds.length = 3
        · rw [decide_eq_true h3, Bool.true_and] at q
          cases hd with
          | @tup ta ys _ hs hda =>
            obtain ⟨d0, d1, d2, rfl⟩ : ∃ d0 d1 d2, ds = [d0, d1, d2] := by
              match ds, h3 with
              | [a, b, c], _ => exact ⟨a, b, c, rfl⟩
            have o0 := hall d0 List.mem_cons_self
            have o1 := hall d1 (List.mem_cons_of_mem _ List.mem_cons_self)
            have o2 := hall d2 (List.mem_cons_of_mem _ (List.mem_cons_of_mem _ List.mem_cons_self))
            cases hda with
            | @cons x0 _ _ _ g0 r0 => cases r0 with
              | @cons x1 _ _ _ g1 r1 => cases r1 with
                | @cons x2 _ _ _ g2 r2 =>
                  cases r2
                  have q : RetV (.bl (isN d0 && (isV d1 && isRecs d2))) H Q := q
                  have i0 : atI [x0, x1, x2] 0 = some x0 := rfl
                  have i1 : atI [x0, x1, x2] 1 = some x1 := rfl
                  have i2 : atI [x0, x1, x2] 2 = some x2 := rfl
                  refine' q_when (b := !isTup d2) (et_is (et_or (a := false) (b := !isTup d2) (et_is (et_not (et_B (ev_isiX (K := K) (ex_var rfl hd') (kit_tup _)))) rfl) (fun _ => et_is (et_or (a := false) (b := !isTup d2) (et_test (ev_is (ev_op (ev_lenXT (K := K) (ex_var rfl hd')) ev_c (rv_ne rfl)) (by simp))) (fun _ => et_not (et_B (ev_isiX (K := K) (ex_of (ev_op (ev_var rfl) ev_c (rv_ixT hs i2)) g2) (kit_tup d2))))) (Bool.false_or _))) (Bool.false_or _)) (fun hb H1 e1 => ?_) (fun hb H1 e1 => ?_)
                  · have hf : isRecs d2 = false := by
                      have := bnot_t hb
                      cases d2 <;> simp_all [isTup, isRecs]
                    rw [hf] at q
                    simp only [Bool.and_false] at q
                    exact s_ret ev_c (fun H2 e2 => q H2 (e1.trans e2))
                  · obtain ⟨rs, rfl⟩ := tup_of (bnot_f hb)
                    have hs1 := ex_t e1 hs
                    have g0' := dx_mono e1 _ _ g0
                    have g1' := dx_mono e1 _ _ g1
                    refine' q_when (b := !isI d0 || (!geB 0 d0 || !isV d1)) (et_or (a := !isI d0) (b := !geB 0 d0 || !isV d1) (et_not (et_B (ev_call (ea_cons (ev_op (ev_var rfl) ev_c (rv_ixT hs1 i0)) ea_nil) (spB_v g0' o0)))) (fun h0 => et_or (a := !geB 0 d0) (b := !isV d1) (et_test (ltB_op (ev_op (ev_var rfl) ev_c (rv_ixT hs1 i0)) g0' (bnot_f h0))) (fun _ => et_not (et_B (ev_call (ea_cons (ev_op (ev_var rfl) ev_c (rv_ixT hs1 i1)) ea_nil) (spB_v g1' o1)))))) (fun hb2 H2 e2 => ?_) (fun hb2 H2 e2 => ?_)
                    · have hf : (isN d0 && (isV d1 && isRecs (.tuple rs))) = false := by
                        rw [isN_ge]
                        cases h0 : isI d0 <;> cases h1 : geB 0 d0 <;> cases h2 : isV d1 <;> simp_all
                      rw [hf] at q
                      exact s_ret ev_c (fun H3 e3 => q H3 ((e1.trans e2).trans e3))
                    · have hf : (isN d0 && (isV d1 && isRecs (.tuple rs))) = rs.all isRec := by
                        rw [isN_ge]
                        show _ = isRecs (.tuple rs)
                        cases h0 : isI d0 <;> cases h1 : geB 0 d0 <;> cases h2 : isV d1 <;> simp_all
                      rw [hf] at q
                      cases o2 with
                      | tup hrl hral =>
                        cases g2 with
                        | @tup tb zs _ hsz hdz =>
                          have hzl := dxa_len hdz
                          have e12 := e1.trans e2
                          refine' q_forTn (K := K) (a := tb) (xs := zs) (ev_op (ev_var rfl) ev_c (rv_ixT (ex_t e12 hs) i2)) (ex_t e12 hsz) (fun i σ' H' => ∃ y : Option V, σ' = [some (.ref ta), y] ∧ Ex H H' ∧ ∀ j, j < i → isRec (rs.getD j .none) = true) (fun H3 e3 => ⟨none, rfl, e12.trans e3, fun j hj => absurd hj (by omega)⟩) (fun i σ' H' _ hp => ?_) (fun i x σ' H' hx hp => ?_) (fun σ' H' hp => ?_)
                          · obtain ⟨_, _, e, _⟩ := hp
                            exact ex_t e hsz
                          · obtain ⟨y, rfl, e, hj⟩ := hp
                            obtain ⟨di, hdi, hdx⟩ := dxa_atV hdz hx
                            have hgi : rs.getD i .none = di := by rw [List.getD_eq_getElem?_getD, hdi]; rfl
                            refine' s_when (b := !isRec di) (et_not (et_B (ev_call (ea_cons (ev_var rfl) ea_nil) (spB_v (dx_mono e _ _ hdx) (hral di (List.mem_of_getElem? hdi)))))) (fun hb H3 e3 => ?_) (fun hb H3 e3 => ?_)
                            · have hf : rs.all isRec = false := by
                                rw [Bool.eq_false_iff]
                                intro h
                                have := List.all_eq_true.mp h di (List.mem_of_getElem? hdi)
                                rw [this] at hb
                                cases hb
                              rw [hf] at q
                              exact s_ret ev_c (fun H4 e4 => q H4 ((e.trans e3).trans e4))
                            · refine ⟨_, rfl, e.trans e3, fun j hj' => ?_⟩
                              by_cases hji : j = i
                              · rw [hji, hgi]
                                exact bnot_f hb
                              · exact hj j (by omega)
                          · obtain ⟨y, rfl, e, hj⟩ := hp
                            have ht : rs.all isRec = true := by
                              rw [List.all_eq_true]
                              intro d hd
                              obtain ⟨j, hjl, rfl⟩ := List.getElem_of_mem hd
                              have := hj j (by omega)
                              rwa [List.getD_eq_getElem?_getD, List.getElem?_eq_getElem hjl] at this
                            rw [ht] at q
                            exact s_ret ev_c (fun H4 e4 => q H4 (e.trans e4))
        · rw [decide_eq_false h3, Bool.false_and] at q
          exact q_when (b := true) (et_is (et_or (a := false) (b := true) (et_is (et_not (et_B (ev_isiX (K := K) (ex_var rfl hd') (kit_tup _)))) rfl) (fun _ => et_is (et_or (a := true) (b := true) (et_test (ev_is (ev_op (ev_lenXT (K := K) (ex_var rfl hd')) ev_c (rv_ne rfl)) (by
            rw [decide_eq_false (fun e => by have := V.int.inj e; omega)]
            rfl))) (fun h => nomatch h)) rfl)) rfl) (fun hb H1 e1 => s_ret ev_c (fun H2 e2 => q H2 (e1.trans e2))) (fun hb => nomatch hb)
    · have hT : isTup d = false := by simpa using hT
      have : isLogD d = false := by
        cases d <;> simp_all [isTup, isLogD]
      rw [this] at q
      exact q_when (b := true) (et_is (et_or (a := true) (b := true) (et_is (et_not (et_B (ev_isiX (K := K) (ex_var rfl hd) (kit_tup d)))) (by rw [hT]; rfl)) (fun h => nomatch h)) rfl) (fun hb H1 e1 => s_ret ev_c (fun H2 e2 => q H2 (e1.trans e2))) (fun hb => nomatch hb)

/-! ### a log: an object with a base, an image and a tuple of records -/
def fLog (b im r : V) : List (Str × V) := [("base", b), ("image", im), ("records", r)]
theorem fl_put (b im r : V) : putF "records" r (putF "image" im (putF "base" b [])) = fLog b im r := by rfl
theorem fl_base (b im r : V) : (fLog b im r).lookup ("base" : Str) = some b := by rfl
theorem fl_image (b im r : V) : (fLog b im r).lookup ("image" : Str) = some im := by rfl
theorem fl_records (b im r : V) : (fLog b im r).lookup ("records" : Str) = some r := by rfl
theorem fl_no (b im r : V) {m : Str} (h1 : (m == ("base" : Str)) = false) (h2 : (m == ("image" : Str)) = false) (h3 : (m == ("records" : Str)) = false) : (fLog b im r).lookup m = none := by
  unfold fLog
  rw [List.lookup_cons, h1, List.lookup_cons, h2, List.lookup_cons, h3]
  rfl
/-- the log of these at p -/
def LogAt (K : PySem.W.Frag) (C : Addr) (H : Hp) (p : Addr) (b : Int) (im : PyData) (rs : List PyData) : Prop := ∃ dx vi t, H p = some (.ins C dx (fLog (.int b) vi t)) ∧ Dp K H vi im ∧ Dp K H t (.tuple rs)
theorem LogAt.mono {K : PySem.W.Frag} {C : Addr} {H H' : Hp} {p : Addr} {b : Int} {im : PyData} {rs : List PyData} (e : Ex H H') (h : LogAt K C H p b im rs) : LogAt K C H' p b im rs := by
  obtain ⟨dx, vi, t, h1, h2, h3⟩ := h
  exact ⟨dx, vi, t, e _ _ h1, dp_mono e _ _ h2, dp_mono e _ _ h3⟩
structure LogC (K : PySem.W.Frag) (C : Addr) : Prop where
  cl : Cls K C
  nB : NoAttr K C "base"
  nI : NoAttr K C "image"
  nR : NoAttr K C "records"
section
variable {K : PySem.W.Frag} {σ : L2.St} {H B : Hp} {ta : TE} {C p : Addr} {b : Int} {im : PyData} {rs : List PyData}
theorem ev_base (L : LogC K C) (h : Ev ta σ H (.ref p)) (l : LogAt K C H p b im rs) : Ev (tFld K ta "base") σ H (.int b) := fun H1 e Q q => h H1 e _ fun H2 e2 => by
  obtain ⟨dx, vi, t, h1, _, _⟩ := l
  exact ⟨p, C, dx, _, _, rfl, (e.trans e2) _ _ h1, L.cl, L.nB, fl_base _ _ _, q H2 e2⟩
theorem ed_image (L : LogC K C) (h : Ev ta σ H (.ref p)) (l : LogAt K C H p b im rs) : EvD K (tFld K ta "image") σ H im := fun H1 e Q q => h H1 e _ fun H2 e2 => by
  obtain ⟨dx, vi, t, h1, h2, _⟩ := l
  exact ⟨p, C, dx, _, _, rfl, (e.trans e2) _ _ h1, L.cl, L.nI, fl_image _ _ _, q vi H2 e2 (dp_mono ov_base _ _ h2)⟩
theorem ed_records (L : LogC K C) (h : Ev ta σ H (.ref p)) (l : LogAt K C H p b im rs) : EvD K (tFld K ta "records") σ H (.tuple rs) := fun H1 e Q q => h H1 e _ fun H2 e2 => by
  obtain ⟨dx, vi, t, h1, _, h3⟩ := l
  exact ⟨p, C, dx, _, _, rfl, (e.trans e2) _ _ h1, L.cl, L.nR, fl_records _ _ _, q t H2 e2 (dp_mono ov_base _ _ h3)⟩
end
def spLogInit (C : Addr) : Sp := fun vs H Q _ => ∃ (p dx : Addr) (b im r : V), vs = [.ref p, b, im, r] ∧ H p = some (.ins C dx []) ∧ ∀ H', H' p = some (.ins C dx (fLog b im r)) → (∀ a, a ≠ p → H' a = H a) → Q .non H'
theorem ok_log_init {f C : Addr} {fd : FuncData} (F : Fun K "__init__" "Log.__init__" s_Log___init__ f fd) (L : LogC K C) : FnOk P w K mg base CX0 1 f fd ["self", "base", "image", "records"] (spLogInit C) := by
  refine F.ok sc_Log___init__ (fun vs H Q E h => ?_) (fun cdv A outer s H vs Q E hr h => ?_)
  · obtain ⟨p, dx, b, im, r, rfl, _⟩ := h
    rfl
  · obtain ⟨p, dx, b, im, r, rfl, hp, q⟩ := h
    refine ⟨_, (pss_cons (ps_fld (pv 0) (pv 1) rfl)
  (pss_cons (ps_fld (pv 0) (pv 2) rfl)
  (pss_one (ps_fld (pv 0) (pv 3) rfl)))), ?_⟩
    refine ⟨_, rfl, _, rfl, p, C, dx, [], rfl, hp, L.cl, L.nB, (by show 0 < 1000; decide), ?_⟩
    refine ⟨_, rfl, _, rfl, p, C, dx, _, rfl, upd_same, L.cl, L.nI, (by show 1 < 1000; decide), ?_⟩
    refine ⟨_, rfl, _, rfl, p, C, dx, _, rfl, upd_same, L.cl, L.nR, (by show 2 < 1000; decide), ?_⟩
    refine q _ ?_ (fun a ha => ?_)
    · rw [upd_same, fl_put]
    · rw [upd_ne ha, upd_ne ha, upd_ne ha]
/-- Log(b, im, r) -/
theorem s_mkLog {σ : L2.St} {B H : Hp} {C : Addr} {ta : TA} {E : XK} {Q : VK} {vb : Int} {im : PyData} {rs : List PyData} (eB : Ex B H) (h : EvDs K ta σ B [.int vb, im, .tuple rs]) (q : ∀ p H1, H p = none → Ex H H1 → LogAt K C (ov B H H1) p vb im rs → Q (.ref p) H1) :
    tMake C (spLogInit C) [] E ta σ H Q := h H eB _ fun vs H1 e hd x dx nx ndx nex => by
  cases hd with
  | cons d1 r1 => cases r1 with
    | cons d2 r2 => cases r2 with
      | cons d3 r3 =>
        cases r3
        cases d1
        rename_i vi vr
        refine ⟨x, dx, _, vi, vr, rfl, upd_same, fun H2 h2 ho => ⟨rfl, ?_⟩⟩
        have e2 : Ex H1 H2 := fun a o ha1 => by
          have n1 : a ≠ x := ne_of_none ha1 nx
          rw [ho a n1, upd_ne n1, upd_ne (ne_of_none ha1 ndx)]
          exact ha1
        have n0 := fresh_back e nx
        have o2 : Ex (ov B H H1) (ov B H H2) := ov_grow e2
        exact q x H2 n0 (e.trans e2) ⟨dx, _, _, by unfold ov; rw [fresh_back eB n0, n0]; exact h2, dp_mono o2 _ _ d2, dp_mono o2 _ _ d3⟩
theorem q_mkLog {σ : L2.St} {B H : Hp} {D : Ends} {tz : TS} {C : Addr} {ta : TA} {E : XK} {i : Nat} {vb : Int} {im : PyData} {rs : List PyData} (eB : Ex B H) (h : EvDs K ta σ B [.int vb, im, .tuple rs]) (q : ∀ p H1, H p = none → Ex H H1 → LogAt K C (ov B H H1) p vb im rs → tz D (σ.set i (some (.ref p))) H1) :
    tSeq (tAsg (tMake C (spLogInit C) [] E ta) (gName i)) tz D σ H := (show tMake C (spLogInit C) [] E ta σ H (fun v H1 => tz D (σ.set i (some v)) H1) from s_mkLog eB h q)

def spLogValue (K : PySem.W.Frag) (C : Addr) : Sp := fun vs H Q _ => ∃ (p : Addr) (b : Int) (im : PyData) (rs : List PyData) (B : Hp), vs = [.ref p] ∧ Ex B H ∧ LogAt K C B p b im rs ∧ RetD K B (.tuple [.int b, im, .tuple rs]) H Q
theorem ok_log_value {f C : Addr} {fd : FuncData} (F : Fun K "value" "Log.value" s_Log_value f fd) (L : LogC K C) : FnOk P w K mg base CX0 1 f fd ["self"] (spLogValue K C) := by
  refine F.ok sc_Log_value (fun vs H Q E h => ?_) (fun cdv A outer s H vs Q E hr h => ?_)
  · obtain ⟨p, b, im, rs, B, rfl, _⟩ := h
    rfl
  · obtain ⟨p, b, im, rs, B, rfl, eB, l, q⟩ := h
    refine ⟨_, (pss_one (ps_ret (pe_tup (pa_cons (pe_fld (pv 0) rfl) (pa_cons (pe_fld (pv 0) rfl) (pa_cons (pe_fld (pv 0) rfl) pa_nil)))))), ?_⟩
    exact s_retDB eB (ed_tup (eds_cons (ed_int (ev_base L (ev_var rfl) l)) (eds_cons (ed_image L (ev_var rfl) l) (eds_cons (ed_records L (ev_var rfl) l) eds_nil))) (by show 3 ≤ 100000; decide)) q
/-- p.value() as an expression -/
theorem ed_value {σ : L2.St} {H : Hp} {C p : Addr} {ta : TE} {E : XK} {b : Int} {im : PyData} {rs : List PyData} (h : Ev ta σ H (.ref p)) (l : LogAt K C H p b im rs) : EvD K (tMeth C "value" (spLogValue K C) [] E ta tNil) σ H (.tuple [.int b, im, .tuple rs]) := fun H1 e Q q => h H1 e _ fun H2 e2 => by
  obtain ⟨dx, vi, t, h1, h2, h3⟩ := id l
  exact ⟨p, dx, _, rfl, (e.trans e2) _ _ h1, fl_no _ _ _ (by decide +kernel) (by decide +kernel) (by decide +kernel), p, b, im, rs, H, rfl, e.trans e2, l, fun v H3 e3 hv => q v H3 (e2.trans e3) (dp_mono (ov_later e2) _ _ hv)⟩

/-! ### Log.from_value, and caught -/
def spFV (K : PySem.W.Frag) (C CB : Addr) : Sp := fun vs H Q E => ∃ (v : V) (d : PyData), vs = [v] ∧ Dx K H v d ∧ Okd 6 d ∧ (isLogD d = false → ∀ H1, Ex H H1 → E (.ref CB) none H1) ∧
  (∀ (b : Int) (im : PyData) (rs : List PyData), d = .tuple [.int b, im, .tuple rs] → isLogD d = true → ∀ p H1, H p = none → Ex H H1 → LogAt K C H1 p b im rs → Q (.ref p) H1)
theorem ok_from {tN tT tP tD tM : Tok} {mc : Value} {pm f C C_BadValue C_HallError f_i f_v f_w f_ar f_r f_d f_n f_p f_in f_t f_c : Addr} {fd fd_i fd_v fd_w fd_ar fd_r fd_d fd_n fd_p fd_in fd_t fd_c : FuncData} (D_Log_from_value : Sm K C mc "from_value" "Log.from_value" s_Log_from_value ["value"] pm f fd) (D_Log___init__ : Dm K C "__init__" "Log.__init__" s_Log___init__ ["self", "base", "image", "records"] f_i fd_i)
    (D_is_value : Df K mg "is_value" s_is_value ["thing"] f_v fd_v) (D__is_value_within : Df K mg "_is_value_within" s__is_value_within ["thing", "levels"] f_w fd_w) (D__are_records : Df K mg "_are_records" s__are_records ["things"] f_ar fd_ar) (D_is_record : Df K mg "is_record" s_is_record ["thing"] f_r fd_r) (D_is_deed : Df K mg "is_deed" s_is_deed ["thing"] f_d fd_d) (D_is_number : Df K mg "is_number" s_is_number ["thing"] f_n fd_n) (D_is_plain : Df K mg "is_plain" s_is_plain ["thing"] f_p fd_p) (D_is_integer : Df K mg "is_integer" s_is_integer ["thing"] f_in fd_in) (D_is_text : Df K mg "is_text" s_is_text ["thing"] f_t fd_t)
    (D__may_stand_in_text : Df K mg "_may_stand_in_text" s__may_stand_in_text ["code"] f_c fd_c) (c_NUMBER_MOST : mg "NUMBER_MOST" = some (.int (10 ^ 18) tN)) (c_TEXT_MOST : mg "TEXT_MOST" = some (.int 200 tT)) (c__PERCENT : mg "_PERCENT" = some (.int 37 tP)) (c_DEPTH_MOST : mg "DEPTH_MOST" = some (.int 12 tD)) (c__DEED_MOST : mg "_DEED_MOST" = some (.int 4 tM))
    (L_Log : Kl K mg "Log" C) (L : LogC K C) (E_BadValue : Err K mg "BadValue" C_BadValue C_HallError) (T : Glo mg) : FnOk P w K mg base (L2.CX P w) 18 f fd ["value"] (spFV K C C_BadValue) := by
  have G_Log___init__ : FnOk P w K mg base CX0 1 f_i fd_i _ _ := ok_log_init D_Log___init__.F L
  have G_is_value : FnOk P w K mg base CX0 17 f_v fd_v _ _ := ok_is_value D_is_value.F D__is_value_within D_is_plain D_is_integer D_is_text D__may_stand_in_text c_NUMBER_MOST c_TEXT_MOST c__PERCENT c_DEPTH_MOST T
  have G__are_records : FnOk P w K mg base CX0 6 f_ar fd_ar _ _ := ok_are_records (n := 2) D__are_records.F D_is_record D_is_deed D_is_number D_is_plain D_is_integer D_is_text D__may_stand_in_text c_NUMBER_MOST c_TEXT_MOST c__PERCENT c__DEED_MOST T
  have G_is_number : FnOk P w K mg base CX0 2 f_n fd_n _ _ := ok_is_number (n := 5) D_is_number.F D_is_integer c_NUMBER_MOST T
  refine D_Log_from_value.F.okX sc_Log_from_value (fun vs H Q E h => ?_) (fun cdv A outer s H vs Q E hr h => ?_)
  · obtain ⟨v, d, rfl, _⟩ := h
    rfl
  · obtain ⟨v, d, rfl, hd, ok, q1, q2⟩ := h
    refine ⟨_, (pss_cons (ps_if (PW.pt (pw_or (pt_not (pt_val (pe_callB call_isi (by rfl) T.isinstance (by decide +kernel) (pa_cons (pv 0) (pa_cons (pe_bltn (v := .ty "tuple") (u := .type "tuple") (by rfl) T.tuple (by decide +kernel) rfl) pa_nil))))) (pw_or1 (pt_cmpR op_ne (pe_callB call_len_seq (by rfl) T.len PySem.boot_len (pa_cons (pv 0) pa_nil)) pe_int (nomark _)))))
  (pss_one (ps_raise rfl (takes_of rfl rfl rfl rfl) (Err.mk' E_BadValue rfl)))
  pss_nil)
  (pss_cons (ps_asg (pv 0) (pg_tup (by rfl) (pgs_cons (pg_name (i := 1) sc_Log_from_value.nd rfl (.inl rfl)) (pgs_cons (pg_name (i := 2) sc_Log_from_value.nd rfl (.inl rfl)) (pgs_cons (pg_name (i := 3) sc_Log_from_value.nd rfl (.inl rfl)) pgs_nil)))))
  (pss_cons (ps_if (PW.pt (pw_or (pt_not (pt_val (pe_call G_is_number (hr.mono (by decide)) (by rfl) D_is_number.g D_is_number.F.kp D_is_number.b .nil pass0 (pa_cons (pv 1) pa_nil)))) (pw_or (pt_not (pt_val (pe_call G_is_value (hr.mono (by decide)) (by rfl) D_is_value.g D_is_value.F.kp D_is_value.b .nil pass0 (pa_cons (pv 2) pa_nil)))) (pw_or1 (pt_not (pt_val (pe_call G__are_records (hr.mono (by decide)) (by rfl) D__are_records.g D__are_records.F.kp D__are_records.b .nil pass0 (pa_cons (pv 3) pa_nil))))))))
  (pss_one (ps_raise rfl (takes_of rfl rfl rfl rfl) (Err.mk' E_BadValue rfl)))
  pss_nil)
  (pss_one (ps_ret (pe_make (L_Log.make D_Log___init__) G_Log___init__ (hr.mono (by decide)) (by rfl) L_Log.g D_Log___init__.b .nil pass0 (pa_cons (pv 1) (pa_cons (pv 2) (pa_cons (pv 3) pa_nil))))))))), ?_⟩
    by_cases hT : isTup d = true
    · obtain ⟨ds, rfl⟩ := tup_of hT
      have hd' := hd
      cases ok with
      | tup hds hall =>
        by_cases h3 : ds.length = 3
        · cases hd with
          | @tup ta ys _ hs hda =>
            obtain ⟨d0, d1, d2, rfl⟩ : ∃ d0 d1 d2, ds = [d0, d1, d2] := by
              match ds, h3 with
              | [a, b, c], _ => exact ⟨a, b, c, rfl⟩
            have o0 := hall d0 List.mem_cons_self
            have o1 := hall d1 (List.mem_cons_of_mem _ List.mem_cons_self)
            have o2 := hall d2 (List.mem_cons_of_mem _ (List.mem_cons_of_mem _ List.mem_cons_self))
            cases hda with
            | @cons x0 _ _ _ g0 r0 => cases r0 with
              | @cons x1 _ _ _ g1 r1 => cases r1 with
                | @cons x2 _ _ _ g2 r2 =>
                  cases r2
                  have hlog : isLogD (.tuple [d0, d1, d2]) = (isN d0 && (isV d1 && isRecs d2)) := rfl
                  refine' q_when (b := false) (et_is (et_or (a := false) (b := false) (et_is (et_not (et_B (ev_isiX (K := K) (ex_var rfl hd') (kit_tup _)))) rfl) (fun _ => et_test (ev_is (ev_op (ev_lenXT (K := K) (ex_var rfl hd')) ev_c (rv_ne rfl)) (by simp)))) rfl) (fun hb => nomatch hb) (fun _ H1 e1 => ?_)
                  refine ⟨.ref ta, rfl, ta, _, rfl, ex_t e1 hs, rfl, x0, _, rfl, x1, _, rfl, x2, _, rfl, rfl, ?_⟩
                  have f0 := dx_mono e1 _ _ g0
                  have f1 := dx_mono e1 _ _ g1
                  have f2 := dx_mono e1 _ _ g2
                  have t2 : SpV (spB K (2 + 3) isRecs) ([x2] ++ []) H1 (.bl (isRecs d2)) := spB_v f2 o2
                  have h3' : EvT (tNot (tB (tCall (spB K (2 + 3) isRecs) [] E0 (tCons (tVar 3) tNil)))) (L2.start N_Log_from_value [V.ref ta] |>.set 1 (some x0) |>.set 2 (some x1) |>.set 3 (some x2)) H1 (!isRecs d2) := et_not (et_B (ev_call (vs := [x2]) (ea_cons (ev_var rfl) ea_nil) t2))
                  dsimp only
                  refine' q_when (b := !isN d0 || (!isV d1 || !isRecs d2)) (et_or (a := !isN d0) (b := !isV d1 || !isRecs d2) (et_not (et_B (ev_call (ea_cons (ev_var rfl) ea_nil) (spB_v f0 o0)))) (fun _ => et_or (a := !isV d1) (b := !isRecs d2) (et_not (et_B (ev_call (ea_cons (ev_var rfl) ea_nil) (spB_v (n := 12) f1 (o1.mono (by decide)))))) (fun _ => h3'))) (fun hb H2 e2 => ?_) (fun hb H2 e2 => ?_)
                  · refine q1 ?_ H2 (e1.trans e2)
                    rw [hlog]
                    cases h0 : isN d0 <;> cases h1 : isV d1 <;> cases h2 : isRecs d2 <;> simp_all
                  · have hl : isLogD (.tuple [d0, d1, d2]) = true := by
                      rw [hlog]
                      cases h0 : isN d0 <;> cases h1 : isV d1 <;> cases h2 : isRecs d2 <;> simp_all
                    obtain ⟨b, im, rs, ed, hv⟩ := isLog_of hl
                    obtain ⟨rfl, rfl, rfl⟩ : d0 = .int b ∧ d1 = im ∧ d2 = .tuple rs := by
                      have := (PyData.tuple.inj ed)
                      exact ⟨(List.cons.inj this).1, (List.cons.inj (List.cons.inj this).2).1, (List.cons.inj (List.cons.inj (List.cons.inj this).2).2).1⟩
                    have hvs : ∀ d ∈ [PyData.int b, d1, PyData.tuple rs], isV d = true := by
                      have h : isVs [PyData.int b, d1, PyData.tuple rs] = true := hv
                      rw [isVs_iff] at h
                      exact List.all_eq_true.mp h
                    have p1 : Dp K H2 x1 d1 := dx_dp _ _ (dx_mono e2 _ _ f1) (isV_sd o1 (hvs d1 (List.mem_cons_of_mem _ List.mem_cons_self))).1
                    have p2 : Dp K H2 x2 (.tuple rs) := dx_dp _ _ (dx_mono e2 _ _ f2) (isV_sd o2 (hvs _ (List.mem_cons_of_mem _ (List.mem_cons_of_mem _ List.mem_cons_self)))).1
                    cases g0
                    exact s_mkLog (K := K) (B := H2) (vb := b) (im := d1) (rs := rs) (Ex.refl H2) (eds_cons (ed_int (ev_var rfl)) (eds_cons (ed_var rfl p1) (eds_cons (ed_var rfl p2) eds_nil))) (fun p' H3 np e3 l3 => q2 b d1 rs rfl hl p' H3 (fresh_back (e1.trans e2) np) ((e1.trans e2).trans e3) (l3.mono (ov_ex (Ex.refl H2) e3)))
        · refine q_when (b := true) (et_is (et_or (a := false) (b := true) (et_is (et_not (et_B (ev_isiX (K := K) (ex_var rfl hd') (kit_tup _)))) rfl) (fun _ => et_test (ev_is (ev_op (ev_lenXT (K := K) (ex_var rfl hd')) ev_c (rv_ne rfl)) (by
            rw [decide_eq_false (fun e => by have := V.int.inj e; omega)]
            rfl)))) rfl) (fun hb H1 e1 => q1 ?_ H1 e1) (fun hb => nomatch hb)
          show (decide (ds.length = 3) && _) = false
          rw [decide_eq_false h3]
          rfl
    · have hT : isTup d = false := by simpa using hT
      have : isLogD d = false := by
        cases d <;> simp_all [isTup, isLogD]
      exact q_when (b := true) (et_is (et_or (a := true) (b := true) (et_is (et_not (et_B (ev_isiX (K := K) (ex_var rfl hd) (kit_tup d)))) (by rw [hT]; rfl)) (fun h => nomatch h)) rfl) (fun hb H1 e1 => q1 this H1 e1) (fun hb => nomatch hb)
def badD : PyData := .tuple [.str "bad", .bool true]
def fvD (d : PyData) : PyData := if isLogD d = true then .tuple [.str "log", d, d] else badD
def spLF (K : PySem.W.Frag) : Sp := fun vs H Q _ => ∃ (v : V) (d : PyData), vs = [v] ∧ Dx K H v d ∧ Okd 6 d ∧ ∀ v2 H1, Ex H H1 → Dp K H1 v2 (fvD d) → Q v2 H1
theorem ok_lf {tN tT tP tD tM : Tok} {mc : Value} {pm f f_fv C_Log C_BadValue C_HallError f_i f_vl f_v f_w f_ar f_r f_d f_n f_p f_in f_t f_c : Addr} {fd fd_fv fd_i fd_vl fd_v fd_w fd_ar fd_r fd_d fd_n fd_p fd_in fd_t fd_c : FuncData} (F : Fun K "_law_from_value" "_law_from_value" s__law_from_value f fd) (D_Log_from_value : Sm K C_Log mc "from_value" "Log.from_value" s_Log_from_value ["value"] pm f_fv fd_fv) (R_Log : ClX.CRead K C_Log mc) (D_Log___init__ : Dm K C_Log "__init__" "Log.__init__" s_Log___init__ ["self", "base", "image", "records"] f_i fd_i) (D_Log_value : Dm K C_Log "value" "Log.value" s_Log_value ["self"] f_vl fd_vl)
    (D_is_value : Df K mg "is_value" s_is_value ["thing"] f_v fd_v) (D__is_value_within : Df K mg "_is_value_within" s__is_value_within ["thing", "levels"] f_w fd_w) (D__are_records : Df K mg "_are_records" s__are_records ["things"] f_ar fd_ar) (D_is_record : Df K mg "is_record" s_is_record ["thing"] f_r fd_r) (D_is_deed : Df K mg "is_deed" s_is_deed ["thing"] f_d fd_d) (D_is_number : Df K mg "is_number" s_is_number ["thing"] f_n fd_n) (D_is_plain : Df K mg "is_plain" s_is_plain ["thing"] f_p fd_p) (D_is_integer : Df K mg "is_integer" s_is_integer ["thing"] f_in fd_in) (D_is_text : Df K mg "is_text" s_is_text ["thing"] f_t fd_t)
    (D__may_stand_in_text : Df K mg "_may_stand_in_text" s__may_stand_in_text ["code"] f_c fd_c) (c_NUMBER_MOST : mg "NUMBER_MOST" = some (.int (10 ^ 18) tN)) (c_TEXT_MOST : mg "TEXT_MOST" = some (.int 200 tT)) (c__PERCENT : mg "_PERCENT" = some (.int 37 tP)) (c_DEPTH_MOST : mg "DEPTH_MOST" = some (.int 12 tD)) (c__DEED_MOST : mg "_DEED_MOST" = some (.int 4 tM))
    (L_Log : Kl K mg "Log" C_Log) (L : LogC K C_Log) (E_BadValue : Err K mg "BadValue" C_BadValue C_HallError) (g_HallError : mg "HallError" = some (.ref C_HallError)) (T : Glo mg) : FnOk P w K mg base CX0 19 f fd ["thing"] (spLF K) := by
  have G_Log_from_value : FnOk P w K mg base (L2.CX P w) 18 f_fv fd_fv _ _ := ok_from D_Log_from_value D_Log___init__ D_is_value D__is_value_within D__are_records D_is_record D_is_deed D_is_number D_is_plain D_is_integer D_is_text D__may_stand_in_text c_NUMBER_MOST c_TEXT_MOST c__PERCENT c_DEPTH_MOST c__DEED_MOST L_Log L E_BadValue T
  have G_Log_value : FnOk P w K mg base CX0 1 f_vl fd_vl _ _ := ok_log_value D_Log_value.F L
  refine F.ok sc__law_from_value (fun vs H Q E h => ?_) (fun cdv A outer s H vs Q E hr h => ?_)
  · obtain ⟨v, d, rfl, _⟩ := h
    rfl
  · obtain ⟨v, d, rfl, hd, ok, q⟩ := h
    refine ⟨_, (pss_cons (ps_try_own (C := C_BadValue) (i := 2) rfl rfl sc__law_from_value.nd rfl rfl ⟨rfl, by decide, .inl E_BadValue.g⟩ takes0 (fun W pn xe tk => (pss_one (ps_set (i := 1) sc__law_from_value.nd rfl (.inl rfl) (pe_smx (pe_glob (v := .ref C_Log) (by rfl) L_Log.g rfl) R_Log D_Log_from_value.m G_Log_from_value (hr.mono (by decide)) D_Log_from_value.b (fun σ => passAt tk σ) (pa_cons (pv 0) pa_nil))))) (fun a oe pn hz hf => (pss_one (ps_ret (pe_tup (pa_cons pe_str (pa_cons (pe_and (pe_callB (call_isE E_BadValue.ec hz hf) (by rfl) T.isinstance (by decide +kernel) (pa_cons (pv 2) (pa_cons (pe_glob (v := .ref C_HallError) (by rfl) g_HallError rfl) pa_nil))) (pe_one (pe_callB (call_isE E_BadValue.ec hz hf) (by rfl) T.isinstance (by decide +kernel) (pa_cons (pv 2) (pa_cons (pe_bltn (v := .ty "ValueError") (u := .type "ValueError") (by rfl) T.ValueError (by decide +kernel) rfl) pa_nil))))) pa_nil)))))))
  (pss_one (ps_ret (pe_tup (pa_cons pe_str (pa_cons (pe_tup (pa_cons (pe_fld (pv 1) rfl) (pa_cons (pe_fld (pv 1) rfl) (pa_cons (pe_fld (pv 1) rfl) pa_nil)))) (pa_cons (pe_meth0 (pv 1) L_Log.cl D_Log_value.m G_Log_value (hr.mono (by decide)) D_Log_value.b .nil pass0) pa_nil))))))), ?_⟩
    refine ⟨rfl, v, rfl, v, d, rfl, hd, ok, fun hn H1 e1 => ?_, fun b im rs ed hl p H1 np e1 l1 => ?_⟩
    · refine ⟨true, E_BadValue.me, fun _ a na => ⟨⟨rfl, rfl⟩, ?_⟩, fun z => nomatch z⟩
      have edd : fvD d = badD := if_neg (by rw [hn]; decide)
      rw [edd] at q
      refine s_retD (K := K) (d := badD) ?_ (fun v2 H2 e2 h2 => q v2 H2 (e1.trans e2) (dp_mono (ov_ex (Ex.refl H1) e2) _ _ h2))
      exact ed_tup (eds_cons ed_str (eds_cons (ed_bool (ev_andV (a := true) (b := true) (ev_isE rfl ev_c (fun u hu => hu) E_BadValue.k1) (fun _ => ev_isE rfl ev_c (fun u hu => hu) E_BadValue.k2))) eds_nil)) (Nat.le_of_ble_eq_true rfl)
    · have edd : fvD d = .tuple [.str "log", d, d] := if_pos hl
      rw [edd, ed] at q
      dsimp only [gName]
      refine s_retD (K := K) (d := .tuple [.str "log", .tuple [.int b, im, .tuple rs], .tuple [.int b, im, .tuple rs]]) ?_ (fun v2 H2 e2 h2 => q v2 H2 (e1.trans e2) (dp_mono (ov_ex (Ex.refl H1) e2) _ _ h2))
      exact ed_tup (eds_cons ed_str (eds_cons (ed_tup (eds_cons (ed_int (ev_base L (ev_var rfl) l1)) (eds_cons (ed_image L (ev_var rfl) l1) (eds_cons (ed_records L (ev_var rfl) l1) eds_nil))) (Nat.le_of_ble_eq_true rfl)) (eds_cons (ed_value (ev_var rfl) l1) eds_nil))) (Nat.le_of_ble_eq_true rfl)

/-! ### a drawn item -/
theorem cpow30 : CPow 10 30 := ⟨by decide, by decide, by decide⟩
def numsD : List PyData := [.int 0, .int 1, .int 2, .int 7, .int (10 ^ (18 : Int).toNat), .int (10 ^ (18 : Int).toNat + 1), .int (-1), .int (-(10 ^ (18 : Int).toNat)), .int (-(10 ^ (18 : Int).toNat) - 1), .int (10 ^ (30 : Int).toNat)]
def txtsD : List PyData := [.str "a", .str "append", .str "", .str (Txt.mul "z" 200), .str (Txt.mul "z" 201), .str "line\nend", .str "tab\t", .str "~ !", .str "/a/b", .str "x"]
def othD : List PyData := [.none, .bool true, .bool false, .list [.int 1], .list [.str "a"], .tuple [], .tuple [.int 1, .str "b"], .dict [], .tuple [.str "a"], .int 3]
def itemD (d : Int) : PyData := if d % 3 = 0 then numsD.getD (d / 3 % 10).toNat .none else if d % 3 = 1 then txtsD.getD (d / 3 % 10).toNat .none else othD.getD (d / 3 % 10).toNat .none
def Okds (n : Nat) (ds : List PyData) : Prop := ∀ d, d ∈ ds → Okd n d
theorem okds_nil {n : Nat} : Okds n [] := fun _ h => nomatch h
theorem okds_cons {n : Nat} {d : PyData} {ds : List PyData} (h : Okd n d) (hs : Okds n ds) : Okds n (d :: ds) := fun e he => by
  rcases List.mem_cons.mp he with q | q
  · rw [q]; exact h
  · exact hs e q
theorem Okds.getD {n : Nat} {ds : List PyData} (h : Okds n ds) (i : Nat) : Okd n (ds.getD i .none) := by
  rw [List.getD_eq_getElem?_getD]
  cases e : ds[i]? with
  | none => exact .non
  | some d => exact h d (List.mem_of_getElem? e)
theorem okds_nums : Okds 1 numsD := fun d hd => by
  obtain ⟨i, rfl⟩ : ∃ i, d = .int i := by
    simp only [numsD, List.mem_cons, List.not_mem_nil, or_false] at hd
    rcases hd with h | h | h | h | h | h | h | h | h | h <;> exact ⟨_, h⟩
  exact .int i
theorem okds_txts : Okds 1 txtsD := okds_cons (.str (by decide +kernel)) (okds_cons (.str (by decide +kernel)) (okds_cons (.str (by decide +kernel)) (okds_cons (.str (by decide +kernel)) (okds_cons (.str (by decide +kernel)) (okds_cons (.str (by decide +kernel)) (okds_cons (.str (by decide +kernel)) (okds_cons (.str (by decide +kernel)) (okds_cons (.str (by decide +kernel)) (okds_cons (.str (by decide +kernel)) okds_nil)))))))))
theorem okds_oth : Okds 1 othD := okds_cons .non (okds_cons (.bl _) (okds_cons (.bl _) (okds_cons (.lst (by decide) (okds_cons (.int _) okds_nil)) (okds_cons (.lst (by decide) (okds_cons (.str (by decide +kernel)) okds_nil)) (okds_cons (.tup (by decide) okds_nil) (okds_cons (.tup (by decide) (okds_cons (.int _) (okds_cons (.str (by decide +kernel)) okds_nil))) (okds_cons .dic (okds_cons (.tup (by decide) (okds_cons (.str (by decide +kernel)) okds_nil)) (okds_cons (.int _) okds_nil)))))))))
theorem ok_itemD (d : Int) : Okd 1 (itemD d) := by
  unfold itemD
  split
  · exact okds_nums.getD _
  · split
    · exact okds_txts.getD _
    · exact okds_oth.getD _
def spItem (K : PySem.W.Frag) : Sp := fun vs H Q _ => ∃ (d : Int) (B : Hp), vs = [.int d] ∧ 0 ≤ d ∧ Ex B H ∧ RetX K B (itemD d) H Q
theorem spItem_x {H : Hp} {d : Int} (h : 0 ≤ d) : SpX K (spItem K) [.int d] H (itemD d) := fun H1 e1 Q q E => ⟨d, H, rfl, h, e1, q⟩
theorem mulz (n : Int) (h : n = 200 ∨ n = 201) : PySem.MulOk "z" n := by
  rcases h with rfl | rfl
  · exact ⟨by decide +kernel, fun _ _ => by decide +kernel, fun _ _ => by decide +kernel⟩
  · exact ⟨by decide +kernel, fun _ _ => by decide +kernel, fun _ _ => by decide +kernel⟩
theorem ex_mulz {σ : L2.St} {H : Hp} {n : Int} (h : n = 200 ∨ n = 201) : EvX K (tOp (fun x y H Q => ∃ (z : Str) (n : Int), x = .str z ∧ y = .int n ∧ PySem.MulOk z n ∧ Q (.str (Txt.mul z n)) H) (tC (.str "z")) (tC (.int n))) σ H (.str (Txt.mul "z" n)) :=
  ex_of (ev_op ev_c ev_c (fun H1 _ Q q => ⟨"z", n, rfl, rfl, mulz n h, q H1 (Ex.refl H1)⟩)) (.str _)
theorem ex_dict {σ : L2.St} {H : Hp} : EvX K tDNewK σ H (.dict []) := fun H1 e Q q p hp => q _ _ (Ex.new hp) (.dic (by
  unfold ov
  rw [fresh_back e hp, hp]
  exact upd_same))
theorem ok_item {f : Addr} {fd : FuncData} (F : Fun K "_law_item" "_law_item" s__law_item f fd) (T : Glo mg) : FnOk P w K mg base CX0 1 f fd ["draw"] (spItem K) := by
  refine F.ok sc__law_item (fun vs H Q E h => ?_) (fun cdv A outer s H vs Q E hr h => ?_)
  · obtain ⟨d, B, rfl, _⟩ := h
    rfl
  · obtain ⟨d, B, rfl, hd, eB, q⟩ := h
    refine ⟨_, (pss_cons (ps_set (i := 1) sc__law_item.nd rfl (.inl rfl) (pe_tup (pa_cons pe_int (pa_cons pe_int (pa_cons pe_int (pa_cons pe_int (pa_cons (pe_op op_pow pe_int pe_int) (pa_cons (pe_op op_add (pe_op op_pow pe_int pe_int) pe_int) (pa_cons (pe_un un_neg pe_int) (pa_cons (pe_un un_neg (pe_op op_pow pe_int pe_int)) (pa_cons (pe_op op_sub (pe_un un_neg (pe_op op_pow pe_int pe_int)) pe_int) (pa_cons (pe_op op_pow pe_int pe_int) pa_nil))))))))))))
  (pss_cons (ps_if (pt_cmpR op_eq (pe_op op_mod (pv 0) pe_int) pe_int (nomark _))
  (pss_one (ps_ret (pe_ix ix_tup (pv 1) (pe_op op_mod (pe_op op_fdiv (pv 0) pe_int) pe_int) (fun _ _ => rfl))))
  pss_nil)
  (pss_cons (ps_if (pt_cmpR op_eq (pe_op op_mod (pv 0) pe_int) pe_int (nomark _))
  (pss_cons (ps_set (i := 2) sc__law_item.nd rfl (.inl rfl) (pe_tup (pa_cons pe_str (pa_cons pe_str (pa_cons pe_str (pa_cons (pe_op op_mulS pe_str pe_int) (pa_cons (pe_op op_mulS pe_str pe_int) (pa_cons pe_str (pa_cons pe_str (pa_cons pe_str (pa_cons pe_str (pa_cons pe_str pa_nil))))))))))))
  (pss_one (ps_ret (pe_ix ix_tup (pv 2) (pe_op op_mod (pe_op op_fdiv (pv 0) pe_int) pe_int) (fun _ _ => rfl)))))
  pss_nil)
  (pss_cons (ps_set (i := 3) sc__law_item.nd rfl (.inl rfl) (pe_tup (pa_cons pe_non (pa_cons pe_bl (pa_cons pe_bl (pa_cons (pe_lst (pa_cons pe_int pa_nil)) (pa_cons (pe_lst (pa_cons pe_str pa_nil)) (pa_cons (pe_tup pa_nil) (pa_cons (pe_tup (pa_cons pe_int (pa_cons pe_str pa_nil))) (pa_cons pe_dnewK (pa_cons (pe_tup (pa_cons pe_str pa_nil)) (pa_cons pe_int pa_nil))))))))))))
  (pss_one (ps_ret (pe_ix ix_tup (pv 3) (pe_op op_mod (pe_op op_fdiv (pv 0) pe_int) pe_int) (fun _ _ => rfl)))))))), ?_⟩
    refine q_asgXB (K := K) (d := .tuple numsD) eB (ex_tup (exs_cons (ex_int ev_c) (exs_cons (ex_int ev_c) (exs_cons (ex_int ev_c) (exs_cons (ex_int ev_c) (exs_cons (ex_int (ev_op ev_c ev_c (rv_I cpow18))) (exs_cons (ex_int (ev_op (ev_op ev_c ev_c (rv_I cpow18)) ev_c rv_I0)) (exs_cons (ex_int (ev_un ev_c ru_neg)) (exs_cons (ex_int (ev_un (ev_op ev_c ev_c (rv_I cpow18)) ru_neg)) (exs_cons (ex_int (ev_op (ev_un (ev_op ev_c ev_c (rv_I cpow18)) ru_neg) ev_c rv_I0)) (exs_cons (ex_int (ev_op ev_c ev_c (rv_I cpow30))) exs_nil)))))))))) (Nat.le_of_ble_eq_true rfl)) (fun v1 H1 e1 h1 => ?_)
    have eB1 : Ex (ov B H H1) H1 := ov_ex eB e1
    have hl1 : (numsD.length : Int) = 10 := rfl
    have hl2 : (txtsD.length : Int) = 10 := rfl
    have hl3 : (othD.length : Int) = 10 := rfl
    refine' q_when (b := decide (V.int (d % 3) = V.int 0)) ?w1 (fun hb H2 e2 => ?_) (fun hb H2 e2 => ?_)
    case w1 => walk_at "ev"
    · have hz := V.int.inj (of_decide_eq_true hb)
      rw [show itemD d = numsD.getD (d / 3 % 10).toNat .none from if_pos hz] at q
      refine' s_retXB (K := K) (d := numsD.getD (d / 3 % 10).toNat .none) (eB1.trans e2) (ex_ixT (i := d / 3 % 10) (ex_var rfl h1) ?w2 (atI_getD ?g1 ?g2)) (fun v H3 e3 h3 => q v H3 ((e1.trans e2).trans e3) (dx_mono ((ov_later e2).trans (ov_ov eB e1 (e2.trans e3))) _ _ h3))
      case w2 => walk_at "ev"
      case g1 => omega
      case g2 => omega
    · have hz : ¬ d % 3 = 0 := fun e => of_decide_eq_false hb (congrArg V.int e)
      refine' q_when (b := decide (V.int (d % 3) = V.int 1)) ?w3 (fun hb H3 e3 => ?_) (fun hb H3 e3 => ?_)
      case w3 => walk_at "ev"
      · have hz1 := V.int.inj (of_decide_eq_true hb)
        rw [show itemD d = txtsD.getD (d / 3 % 10).toNat .none from (if_neg hz).trans (if_pos hz1)] at q
        have eH := (e1.trans e2).trans e3
        refine q_asgXB (K := K) (B := B) (d := .tuple txtsD) (eB.trans eH) (ex_tup (exs_cons ex_str (exs_cons ex_str (exs_cons ex_str (exs_cons (ex_mulz (.inl rfl)) (exs_cons (ex_mulz (.inr rfl)) (exs_cons ex_str (exs_cons ex_str (exs_cons ex_str (exs_cons ex_str (exs_cons ex_str exs_nil)))))))))) (Nat.le_of_ble_eq_true rfl)) (fun v4 H4 e4 h4 => ?_)
        have eB4 : Ex (ov B H3 H4) H4 := ov_ex (eB.trans eH) e4
        refine' s_retXB (K := K) (d := txtsD.getD (d / 3 % 10).toNat .none) eB4 (ex_ixT (i := d / 3 % 10) (ex_var rfl h4) ?w4 (atI_getD ?g3 ?g4)) (fun v H5 e5 h5 => q v H5 ((eH.trans e4).trans e5) (dx_mono ((ov_ov (eB.trans eH) e4 e5).trans (ov_later eH)) _ _ h5))
        case w4 => walk_at "ev"
        case g3 => omega
        case g4 => omega
      · have hz1 : ¬ d % 3 = 1 := fun e => of_decide_eq_false hb (congrArg V.int e)
        rw [show itemD d = othD.getD (d / 3 % 10).toNat .none from (if_neg hz).trans (if_neg hz1)] at q
        have eH := (e1.trans e2).trans e3
        refine q_asgXB (K := K) (B := B) (d := .tuple othD) (eB.trans eH) (ex_tup (exs_cons ex_non (exs_cons (ex_bool ev_c) (exs_cons (ex_bool ev_c) (exs_cons (ex_new (exn_lst (exs_cons (ex_int ev_c) exs_nil) (Nat.le_of_ble_eq_true rfl))) (exs_cons (ex_new (exn_lst (exs_cons ex_str exs_nil) (Nat.le_of_ble_eq_true rfl))) (exs_cons (ex_tup exs_nil (Nat.le_of_ble_eq_true rfl)) (exs_cons (ex_tup (exs_cons (ex_int ev_c) (exs_cons ex_str exs_nil)) (Nat.le_of_ble_eq_true rfl)) (exs_cons ex_dict (exs_cons (ex_tup (exs_cons ex_str exs_nil) (Nat.le_of_ble_eq_true rfl)) (exs_cons (ex_int ev_c) exs_nil)))))))))) (Nat.le_of_ble_eq_true rfl)) (fun v4 H4 e4 h4 => ?_)
        have eB4 : Ex (ov B H3 H4) H4 := ov_ex (eB.trans eH) e4
        refine' s_retXB (K := K) (d := othD.getD (d / 3 % 10).toNat .none) eB4 (ex_ixT (i := d / 3 % 10) (ex_var rfl h4) ?w5 (atI_getD ?g5 ?g6)) (fun v H5 e5 h5 => q v H5 ((eH.trans e4).trans e5) (dx_mono ((ov_ov (eB.trans eH) e4 e5).trans (ov_later eH)) _ _ h5))
        case w5 => walk_at "ev"
        case g5 => omega
        case g6 => omega

section
variable {σ : L2.St} {H : Hp} {ta tb te tl : TE} {ds : List PyData}
theorem exn_el {xs : List V} (h : EvL te σ H xs) (hd : DxAll K H xs ds) : EvXN K te σ H ds := fun H1 e Q q => h H1 e _ fun p H2 np e2 hp => q p xs H2 np e2 hp (dxa_mono ov_base ds xs hd)
theorem dxa_rep {v : V} {d : PyData} (h : Dx K H v d) : ∀ n : Nat, DxAll K H (List.replicate n [v]).flatten (List.replicate n [d]).flatten
  | 0 => .nil
  | n + 1 => .cons h (dxa_rep h n)
theorem exn_listT (h : EvX K ta σ H (.tuple ds)) : EvXN K (tCB (rListS K) (tCons ta tNil)) σ H ds := fun H1 e Q q => h H1 e _ fun v H2 e2 hv => by
  cases hv with
  | @tup a xs _ hs hd => exact ⟨a, xs, rfl, .inr (ex_t (ov_ex e e2) hs), fun l hl => q l xs _ (fresh_back e2 hl) (e2.trans (Ex.new hl)) upd_same (dxa_mono (ov_grow (Ex.new hl)) ds xs hd)⟩
theorem q_forXN {D : Ends} {tz tu : TS} {j : Nat} (h : EvXN K tl σ H ds) (Pv : L2.St → Prop) (h0 : Pv σ) (hs : ∀ H1 x d σ' H', Ex H H1 → Ex H1 H' → d ∈ ds → Dx K H' x d → Pv σ' → tu { D with nx := fun σ2 H2 => Pv σ2 ∧ Ex H1 H2, ct := fun σ2 H2 => Pv σ2 ∧ Ex H1 H2, bk := tz D } (σ'.set j (some x)) H')
    (hd : ∀ σ' H', Ex H H' → Pv σ' → tz D σ' H') : tSeq (tFor (iList K tl) (gName j) tu) tz D σ H := h H (Ex.refl H) _ fun p xs H1 np e1 hp hx => by
  have hx1 := dxa_mono (ov_ex (Ex.refl H) e1) ds xs hx
  exact ⟨p, rfl, ⟨xs, sq_of hp⟩, for_it (walk_list (xs := xs)) (fun _ σ' H' => Pv σ' ∧ Ex H1 H') ⟨h0, Ex.refl H1⟩ (fun _ _ _ _ q => ex_l q.2 (sq_of hp)) (fun i x σ' H2 H' hi q y => by
    obtain ⟨rfl, hxi⟩ := y
    obtain ⟨d, hdi, hdx⟩ := dxa_atV hx1 hxi
    exact hs H1 x d σ' _ e1 q.2 (List.mem_of_getElem? hdi) (dx_mono q.2 _ _ hdx) q.1) (fun σ' H' q => hd σ' H' (e1.trans q.2) q.1)⟩
theorem rv_isn {a b : Bool} : RV (fun x y H Q => ∃ a b, x = .bl a ∧ y = .bl b ∧ Q (.bl (!decide (a = b))) H) (.bl a) (.bl b) H (.bl (!decide (a = b))) := fun H1 _ Q q => ⟨a, b, rfl, rfl, q H1 (Ex.refl H1)⟩
theorem ev_neLF {E : XK} {v : V} {d : PyData} (h : Ev ta σ H v) (hd : Dx K H v d) (ok : Okd 6 d) (hb : EvD K tb σ H (fvD d)) (sd : Sd 8 (fvD d)) : Ev (tOp (rNeD K) (tCall (spLF K) [] E (tCons ta tNil)) tb) σ H (.bl false) := fun H1 e Q q => h H1 e _ fun H2 e2 => ⟨v, d, rfl, dx_mono (e.trans e2) _ _ hd, ok, fun v2 H3 e3 h3 => hb H3 ((e.trans e2).trans e3) _ fun w H4 e4 hw => ⟨fvD d, fvD d, dp_mono e4 _ _ h3, dp_mono (ov_ex ((e.trans e2).trans e3) e4) _ _ hw, sd.shaped (by decide), sd.shaped (by decide), by
  rw [sd.self]
  exact q H4 ((e2.trans e3).trans e4)⟩⟩
end
theorem sd_fv {d : PyData} (ok : Okd 6 d) : Sd 8 (fvD d) := by
  unfold fvD
  split
  · rename_i h
    obtain ⟨_, _, _, _, hv⟩ := isLog_of h
    have s := isV_sd ok hv
    exact (sd_tuple (n := 6) (sds_cons (sd_str (by decide +kernel)) (sds_cons s (sds_cons s sds_nil)))).up (by decide)
  · exact (sd_tuple (n := 0) (sds_cons (sd_str (by decide +kernel)) (sds_cons sd_bool sds_nil))).up (by decide)
theorem Okds.mono {n m : Nat} {ds : List PyData} (h : Okds n ds) (l : n ≤ m) : Okds m ds := fun d hd => (h d hd).mono l
theorem okds_cut {n : Nat} {ds : List PyData} (h : Okds n ds) (lo hi : Option Int) : Okds n (cutA ds lo hi) := fun d hd => h d (List.mem_of_mem_drop (List.mem_of_mem_take hd))
theorem cut_le {ds : List PyData} (lo hi : Option Int) : (cutA ds lo hi).length ≤ ds.length := by
  unfold cutA
  rw [List.length_take, List.length_drop]
  omega
theorem rep_mem {d e : PyData} {n : Nat} (h : e ∈ (List.replicate n [d]).flatten) : e = d := by
  obtain ⟨l, hl, he⟩ := List.mem_flatten.mp h
  rw [List.eq_of_mem_replicate hl] at he
  exact List.mem_singleton.mp he
theorem rep_len (d : PyData) (n : Nat) : ((List.replicate n [d]).flatten).length = n := by
  induction n with
  | zero => rfl
  | succ n ih =>
    rw [List.replicate_succ, List.flatten_cons, List.length_append, ih, List.length_singleton]
    omega

theorem law_of {f f1 f2 f3 f4 f5 f6 f7 f8 f9 : Addr} {fd fd1 fd2 fd3 fd4 fd5 fd6 fd7 fd8 fd9 : FuncData} (F : Fun K "law" "law" s_law f fd) (D__law_stream : Df K mg "_law_stream" s__law_stream ["script", "many"] f1 fd1) (D__law_draw : Df K mg "_law_draw" s__law_draw ["draws", "k"] f2 fd2) (D__law_item : Df K mg "_law_item" s__law_item ["draw"] f3 fd3) (D_is_deed : Df K mg "is_deed" s_is_deed ["thing"] f4 fd4) (D__law_is_deed : Df K mg "_law_is_deed" s__law_is_deed ["thing"] f5 fd5)
    (D_is_record : Df K mg "is_record" s_is_record ["thing"] f6 fd6) (D__law_is_record : Df K mg "_law_is_record" s__law_is_record ["thing"] f7 fd7) (D__law_is_log : Df K mg "_law_is_log" s__law_is_log ["thing"] f8 fd8) (D__law_from_value : Df K mg "_law_from_value" s__law_from_value ["thing"] f9 fd9)
    (G__law_stream : FnOk P w K mg base CX0 1 f1 fd1 ["script", "many"] (spStream K)) (G__law_draw : FnOk P w K mg base CX0 1 f2 fd2 ["draws", "k"] (spDraw K)) (G__law_item : FnOk P w K mg base CX0 1 f3 fd3 ["draw"] (spItem K)) (G_is_deed : FnOk P w K mg base CX0 4 f4 fd4 ["thing"] (spB K (2 + 1) isDeed)) (G__law_is_deed : FnOk P w K mg base CX0 2 f5 fd5 ["thing"] (spB K (2 + 1) isDeed))
    (G_is_record : FnOk P w K mg base CX0 5 f6 fd6 ["thing"] (spB K (1 + 2) isRec)) (G__law_is_record : FnOk P w K mg base CX0 3 f7 fd7 ["thing"] (spB K (1 + 2) isRec)) (G__law_is_log : FnOk P w K mg base CX0 9 f8 fd8 ["thing"] (spB K 6 isLogD)) (G__law_from_value : FnOk P w K mg base CX0 19 f9 fd9 ["thing"] (spLF K)) (T : Glo mg) :
    FnOk P w K mg base CX0 20 f fd ["script"] (spLaw K) := by
  refine F.ok sc_law (fun vs H Q E h => ?_) (fun cdv A outer s H vs Q E hr h => ?_)
  · obtain ⟨a, ns, rfl, _⟩ := h
    rfl
  · obtain ⟨a, ns, rfl, hS, hn, q⟩ := h
    refine ⟨_, (pss_cons (ps_set (i := 1) sc_law.nd rfl (.inr rfl) (pe_call G__law_stream (hr.mono (by decide)) (by rfl) D__law_stream.g D__law_stream.F.kp D__law_stream.b .nil pass0 (pa_cons (pv 0) (pa_cons pe_int pa_nil))))
  (pss_cons (ps_set (i := 2) sc_law.nd rfl (.inl rfl) (pe_tupleOf (by rfl) T.tuple (pe_lc (own := [("k", 3)]) (g := gName 3) rfl sc_law.nd (pi_range1 (by rfl) T.range (pa_cons (pe_op op_mod (pe_call G__law_draw (hr.mono (by decide)) (by rfl) D__law_draw.g D__law_draw.F.kp D__law_draw.b .nil pass0 (pa_cons (pv 1) (pa_cons pe_int pa_nil))) pe_int) pa_nil)) (blkOk_by (N := N_law) (sc := defScope s_law) (by decide +kernel)) (fun _ _ _ _ _ => (pg_name (i := 3) sc_law.nd rfl (.inl rfl))) (fun _ _ _ _ _ => pts_nil) (fun _ _ _ _ _ => (pe_call G__law_item (hr.mono (by decide)) (by rfl) D__law_item.g D__law_item.F.kp D__law_item.b .nil pass0 (pa_cons (pe_call G__law_draw (hr.mono (by decide)) (by rfl) D__law_draw.g D__law_draw.F.kp D__law_draw.b .nil pass0 (pa_cons (pv 1) (pa_cons (pe_op op_add pe_int (pv 3)) pa_nil))) pa_nil))))))
  (pss_cons (ps_set (i := 4) sc_law.nd rfl (.inl rfl) (pe_tup (pa_cons pe_str (pa_cons pe_str (pa_cons (pe_call G__law_draw (hr.mono (by decide)) (by rfl) D__law_draw.g D__law_draw.F.kp D__law_draw.b .nil pass0 (pa_cons (pv 1) (pa_cons pe_int pa_nil))) pa_nil)))))
  (pss_cons (ps_set (i := 5) sc_law.nd rfl (.inl rfl) (pe_ix ix_list (pe_lst (pa_cons (pv 2) (pa_cons (pv 4) (pa_cons (pe_call G__law_item (hr.mono (by decide)) (by rfl) D__law_item.g D__law_item.F.kp D__law_item.b .nil pass0 (pa_cons (pe_call G__law_draw (hr.mono (by decide)) (by rfl) D__law_draw.g D__law_draw.F.kp D__law_draw.b .nil pass0 (pa_cons (pv 1) (pa_cons pe_int pa_nil))) pa_nil)) pa_nil)))) (pe_op op_mod (pe_call G__law_draw (hr.mono (by decide)) (by rfl) D__law_draw.g D__law_draw.F.kp D__law_draw.b .nil pass0 (pa_cons (pv 1) (pa_cons pe_int pa_nil))) pe_int) (fun _ _ => rfl)))
  (pss_cons (ps_set (i := 6) sc_law.nd rfl (.inl rfl) (pe_tup (pa_cons (pe_call G__law_item (hr.mono (by decide)) (by rfl) D__law_item.g D__law_item.F.kp D__law_item.b .nil pass0 (pa_cons (pe_call G__law_draw (hr.mono (by decide)) (by rfl) D__law_draw.g D__law_draw.F.kp D__law_draw.b .nil pass0 (pa_cons (pv 1) (pa_cons pe_int pa_nil))) pa_nil)) (pa_cons (pe_call G__law_item (hr.mono (by decide)) (by rfl) D__law_item.g D__law_item.F.kp D__law_item.b .nil pass0 (pa_cons (pe_call G__law_draw (hr.mono (by decide)) (by rfl) D__law_draw.g D__law_draw.F.kp D__law_draw.b .nil pass0 (pa_cons (pv 1) (pa_cons pe_int pa_nil))) pa_nil)) (pa_cons (pv 5) pa_nil)))))
  (pss_cut (ps_if (pt_cmpR op_eq (pe_op op_mod (pe_call G__law_draw (hr.mono (by decide)) (by rfl) D__law_draw.g D__law_draw.F.kp D__law_draw.b .nil pass0 (pa_cons (pv 1) (pa_cons pe_int pa_nil))) pe_int) pe_int (nomark _))
  (pss_one (ps_set (i := 6) sc_law.nd rfl (.inl rfl) (pe_tup (pa_cons (pe_call G__law_draw (hr.mono (by decide)) (by rfl) D__law_draw.g D__law_draw.F.kp D__law_draw.b .nil pass0 (pa_cons (pv 1) (pa_cons pe_int pa_nil))) (pa_cons (pe_call G__law_draw (hr.mono (by decide)) (by rfl) D__law_draw.g D__law_draw.F.kp D__law_draw.b .nil pass0 (pa_cons (pv 1) (pa_cons pe_int pa_nil))) (pa_cons (pv 5) pa_nil))))))
  pss_nil)
  (pss_cut (ps_if (pt_cmpR op_eq (pe_op op_mod (pe_op op_fdiv (pe_call G__law_draw (hr.mono (by decide)) (by rfl) D__law_draw.g D__law_draw.F.kp D__law_draw.b .nil pass0 (pa_cons (pv 1) (pa_cons pe_int pa_nil))) pe_int) pe_int) pe_int (nomark _))
  (pss_one (ps_set (i := 6) sc_law.nd rfl (.inl rfl) (pe_op op_catA (pe_slice sl_tupA (pv 6) po_none (po_some pe_int)) (pe_tupleOf (by rfl) T.tuple (pe_op op_rep (pe_lst (pa_cons (pv 5) pa_nil)) (pe_op op_mod (pe_op op_fdiv (pe_call G__law_draw (hr.mono (by decide)) (by rfl) D__law_draw.g D__law_draw.F.kp D__law_draw.b .nil pass0 (pa_cons (pv 1) (pa_cons pe_int pa_nil))) pe_int) pe_int))))))
  pss_nil)
  (pss_cons (ps_for PassesOwn.never rfl (pi_list (pe_lst (pa_cons (pv 2) (pa_cons (pe_callTy call_list_of (by rfl) T.list (by decide +kernel) (pa_cons (pv 2) pa_nil)) (pa_cons (pv 6) (pa_cons (pe_callTy call_list_of (by rfl) T.list (by decide +kernel) (pa_cons (pv 6) pa_nil)) (pa_cons (pv 5) pa_nil))))))) (pg_name (i := 7) sc_law.nd rfl (.inl rfl))
  (pss_cons (ps_if (PW.pt (pw_or (PW.pt (pw_and (pt_cmpR op_isnot_bl (pe_call G_is_deed (hr.mono (by decide)) (by rfl) D_is_deed.g D_is_deed.F.kp D_is_deed.b .nil pass0 (pa_cons (pv 7) pa_nil)) pe_bl (nomark _)) (pw_and1 (pt_val (pe_call G__law_is_deed (hr.mono (by decide)) (by rfl) D__law_is_deed.g D__law_is_deed.F.kp D__law_is_deed.b .nil pass0 (pa_cons (pv 7) pa_nil)))))) (pw_or1 (PW.pt (pw_and (pt_cmpR op_isnot_bl (pe_call G_is_deed (hr.mono (by decide)) (by rfl) D_is_deed.g D_is_deed.F.kp D_is_deed.b .nil pass0 (pa_cons (pv 7) pa_nil)) pe_bl (nomark _)) (pw_and1 (pt_not (pt_val (pe_call G__law_is_deed (hr.mono (by decide)) (by rfl) D__law_is_deed.g D__law_is_deed.F.kp D__law_is_deed.b .nil pass0 (pa_cons (pv 7) pa_nil))))))))))
  (pss_one (ps_ret pe_bl))
  pss_nil)
  (pss_cons (ps_if (PW.pt (pw_and (pt_cmpR op_isnot_bl (pe_call G_is_record (hr.mono (by decide)) (by rfl) D_is_record.g D_is_record.F.kp D_is_record.b .nil pass0 (pa_cons (pv 7) pa_nil)) pe_bl (nomark _)) (pw_and1 (pt_val (pe_call G__law_is_record (hr.mono (by decide)) (by rfl) D__law_is_record.g D__law_is_record.F.kp D__law_is_record.b .nil pass0 (pa_cons (pv 7) pa_nil))))))
  (pss_one (ps_ret pe_bl))
  pss_nil)
  (pss_one (ps_if (PW.pt (pw_and (pt_cmpR op_isnot_bl (pe_call G_is_record (hr.mono (by decide)) (by rfl) D_is_record.g D_is_record.F.kp D_is_record.b .nil pass0 (pa_cons (pv 7) pa_nil)) pe_bl (nomark _)) (pw_and1 (pt_not (pt_val (pe_call G__law_is_record (hr.mono (by decide)) (by rfl) D__law_is_record.g D__law_is_record.F.kp D__law_is_record.b .nil pass0 (pa_cons (pv 7) pa_nil)))))))
  (pss_one (ps_ret pe_bl))
  pss_nil)))))
  (pss_cons (ps_set (i := 8) sc_law.nd rfl (.inl rfl) (pe_tup (pa_cons (pe_op op_mod (pe_call G__law_draw (hr.mono (by decide)) (by rfl) D__law_draw.g D__law_draw.F.kp D__law_draw.b .nil pass0 (pa_cons (pv 1) (pa_cons pe_int pa_nil))) pe_int) (pa_cons (pe_op op_add pe_int (pe_op op_fdiv (pe_call G__law_draw (hr.mono (by decide)) (by rfl) D__law_draw.g D__law_draw.F.kp D__law_draw.b .nil pass0 (pa_cons (pv 1) (pa_cons pe_int pa_nil))) pe_int)) (pa_cons (pv 4) pa_nil)))))
  (pss_cons (ps_set (i := 9) sc_law.nd rfl (.inl rfl) (pe_ix ix_list (pe_lst (pa_cons (pe_lst (pa_cons (pv 8) pa_nil)) (pa_cons (pe_lst (pa_cons (pv 8) (pa_cons (pv 6) pa_nil))) (pa_cons (pe_lst pa_nil) (pa_cons (pe_lst (pa_cons (pv 6) (pa_cons (pv 8) (pa_cons (pv 8) pa_nil)))) pa_nil))))) (pe_op op_mod (pe_call G__law_draw (hr.mono (by decide)) (by rfl) D__law_draw.g D__law_draw.F.kp D__law_draw.b .nil pass0 (pa_cons (pv 1) (pa_cons pe_int pa_nil))) pe_int) (fun _ _ => rfl)))
  (pss_cons (ps_set (i := 10) sc_law.nd rfl (.inl rfl) (pe_ix ix_list (pe_lst (pa_cons (pe_call G__law_draw (hr.mono (by decide)) (by rfl) D__law_draw.g D__law_draw.F.kp D__law_draw.b .nil pass0 (pa_cons (pv 1) (pa_cons pe_int pa_nil))) (pa_cons (pe_call G__law_item (hr.mono (by decide)) (by rfl) D__law_item.g D__law_item.F.kp D__law_item.b .nil pass0 (pa_cons (pe_call G__law_draw (hr.mono (by decide)) (by rfl) D__law_draw.g D__law_draw.F.kp D__law_draw.b .nil pass0 (pa_cons (pv 1) (pa_cons pe_int pa_nil))) pa_nil)) pa_nil))) (pe_op op_mod (pe_call G__law_draw (hr.mono (by decide)) (by rfl) D__law_draw.g D__law_draw.F.kp D__law_draw.b .nil pass0 (pa_cons (pv 1) (pa_cons pe_int pa_nil))) pe_int) (fun _ _ => rfl)))
  (pss_cons (ps_set (i := 11) sc_law.nd rfl (.inl rfl) (pe_ix ix_list (pe_lst (pa_cons (pe_tup (pa_cons pe_str (pa_cons (pe_tup (pa_cons pe_int (pa_cons (pe_tup (pa_cons pe_str (pa_cons (pe_un un_neg pe_int) pa_nil))) pa_nil))) pa_nil))) (pa_cons (pe_call G__law_item (hr.mono (by decide)) (by rfl) D__law_item.g D__law_item.F.kp D__law_item.b .nil pass0 (pa_cons (pe_call G__law_draw (hr.mono (by decide)) (by rfl) D__law_draw.g D__law_draw.F.kp D__law_draw.b .nil pass0 (pa_cons (pv 1) (pa_cons pe_int pa_nil))) pa_nil)) pa_nil))) (pe_op op_mod (pe_op op_fdiv (pe_call G__law_draw (hr.mono (by decide)) (by rfl) D__law_draw.g D__law_draw.F.kp D__law_draw.b .nil pass0 (pa_cons (pv 1) (pa_cons pe_int pa_nil))) pe_int) pe_int) (fun _ _ => rfl)))
  (pss_cons (ps_set (i := 12) sc_law.nd rfl (.inl rfl) (pe_tup (pa_cons (pv 10) (pa_cons (pv 11) (pa_cons (pe_tupleOf (by rfl) T.tuple (pv 9)) pa_nil)))))
  (pss_cons (ps_for PassesOwn.never rfl (pi_list (pe_lst (pa_cons (pv 12) (pa_cons (pe_callTy call_list_of (by rfl) T.list (by decide +kernel) (pa_cons (pv 12) pa_nil)) (pa_cons (pe_slice sl_tupA (pv 12) po_none (po_some pe_int)) (pa_cons (pe_op op_catA (pv 12) (pe_tup (pa_cons pe_int pa_nil))) (pa_cons (pe_tup (pa_cons (pv 10) (pa_cons (pv 11) (pa_cons (pv 9) pa_nil)))) (pa_cons (pv 5) (pa_cons pe_non pa_nil))))))))) (pg_name (i := 7) sc_law.nd rfl (.inl rfl))
  (pss_cons (ps_set (i := 13) sc_law.nd rfl (.inl rfl) (pe_tup (pa_cons pe_str (pa_cons pe_bl pa_nil))))
  (pss_cut (ps_if (pt_val (pe_call G__law_is_log (hr.mono (by decide)) (by rfl) D__law_is_log.g D__law_is_log.F.kp D__law_is_log.b .nil pass0 (pa_cons (pv 7) pa_nil)))
  (pss_one (ps_set (i := 13) sc_law.nd rfl (.inl rfl) (pe_tup (pa_cons pe_str (pa_cons (pv 7) (pa_cons (pv 7) pa_nil))))))
  pss_nil)
  (pss_one (ps_if (pt_cmpR (op_neD hr.units) (pe_call G__law_from_value (hr.mono (by decide)) (by rfl) D__law_from_value.g D__law_from_value.F.kp D__law_from_value.b .nil pass0 (pa_cons (pv 7) pa_nil)) (pv 13) (nomark _))
  (pss_one (ps_ret pe_bl))
  pss_nil)))))
  (pss_one (ps_ret pe_bl)))))))))))))))), ?_⟩
    refine q_stream rfl hS hn (by decide) fun ds l H1 hD hdl nl e1 hl => ?_
    have hL1 : SqL K H1 l (ds.map V.int) := sq_of hl
    have dr := drI_ok hD
    -- deed
    have m0 : 0 ≤ drI ds 0 % 6 := by omega
    refine' q_asgX (K := K) (ex_tupOf (ex_new (exn_lcR1 (K := K) (n := drI ds 0 % 6) (fun _ => true) (fun i => itemD (drI ds (1 + (i : Int)))) ?w1 ⟨m0, by omega⟩ (fun _ => rfl) (fun i hi => et_nil) (fun i hi _ => ?_)))) (fun v2 H2 e2 h2 => ?_)
    case w1 => walk_at "ev"
    · refine' ex_call (vs := [.int (drI ds (1 + (i : Int)))]) ?w2 (spItem_x (dr _).1)
      case w2 => walk_at "ev"
    have hL2 := ex_l e2 hL1
    obtain ⟨dd, hdd, okd, od⟩ : ∃ dd, PyData.tuple (givenD (drI ds 0 % 6).toNat (fun _ => true) (fun i => itemD (drI ds (1 + (i : Int))))) = .tuple dd ∧ dd.length ≤ 1000 ∧ Okds 1 dd := ⟨_, rfl, Nat.le_trans (givenD_len _ _ _) (by omega), fun d hd => by
      obtain ⟨i, _, rfl⟩ := List.mem_map.mp hd
      exact ok_itemD _⟩
    rw [hdd] at h2
    -- good
    refine' q_asgX (K := K) (d := .tuple [.str "append", .str "/a", .int (drI ds 8)]) (ex_tup (exs_cons ex_str (exs_cons ex_str (exs_cons (ex_int ?w3) exs_nil))) (Nat.le_of_ble_eq_true rfl)) (fun v4 H3 e3 h4 => ?_)
    case w3 => walk_at "ev"
    have og : Okd 1 (.tuple [.str "append", .str "/a", .int (drI ds 8)]) := .tup (Nat.le_of_ble_eq_true rfl) (okds_cons (.str (by decide +kernel)) (okds_cons (.str (by decide +kernel)) (okds_cons (.int _) okds_nil)))
    generalize PyData.tuple [.str "append", .str "/a", .int (drI ds 8)] = gd at *
    have hL3 := ex_l e3 hL2
    have h23 := dx_mono e3 _ _ h2
    -- middle
    have d6 := (dr 6).1
    refine' q_asgX (K := K) (d := [PyData.tuple dd, gd, itemD (drI ds 6)].getD (drI ds 7 % 3).toNat .none) (ex_ixL (i := drI ds 7 % 3) (ex_new (exn_lst (exs_cons (ex_var rfl h23) (exs_cons (ex_var rfl h4) (exs_cons (ex_call (vs := [.int (drI ds 6)]) ?w4 (spItem_x d6)) exs_nil))) (Nat.le_of_ble_eq_true rfl))) ?w5 (atI_getD (by omega) (show drI ds 7 % 3 < 3 by omega))) (fun v5 H4 e4 h5 => ?_)
    case w4 => walk_at "ev"
    case w5 => walk_at "ev"
    have om : Okd 2 ([PyData.tuple dd, gd, itemD (drI ds 6)].getD (drI ds 7 % 3).toNat .none) := Okds.getD (okds_cons (.tup okd od) (okds_cons (og.mono (by decide)) (okds_cons ((ok_itemD _).mono (by decide)) okds_nil))) _
    generalize [PyData.tuple dd, gd, itemD (drI ds 6)].getD (drI ds 7 % 3).toNat .none = md at *
    have hL4 := ex_l e4 hL3
    have h24 := dx_mono e4 _ _ h23
    have h44 := dx_mono e4 _ _ h4
    -- record
    have d9 := (dr 9).1
    have d10 := (dr 10).1
    refine' q_asgX (K := K) (d := .tuple [itemD (drI ds 9), itemD (drI ds 10), md]) (ex_tup (exs_cons (ex_call (vs := [.int (drI ds 9)]) ?w6 (spItem_x d9)) (exs_cons (ex_call (vs := [.int (drI ds 10)]) ?w7 (spItem_x d10)) (exs_cons (ex_var rfl h5) exs_nil))) (Nat.le_of_ble_eq_true rfl)) (fun v6 H5 e5 h6 => ?_)
    case w6 => walk_at "ev"
    case w7 => walk_at "ev"
    have hL5 := ex_l e5 hL4
    have h55 := dx_mono e5 _ _ h5
    refine' q_cut (M := fun σ' H' => ∃ (v : V) (rd : List PyData), σ' = [some (.ref a), some (.ref l), some v2, none, some v4, some v5, some v, none, none, none, none, none, none, none] ∧ Dx K H' v (.tuple rd) ∧ rd.length = 3 ∧ Okds 2 rd ∧ Ex H5 H') ?cut (fun σ' H6 p => ?_)
    case cut =>
      refine' s_when ?w8 (fun _ H6 e6 => ?_) (fun _ H6 e6 => ?_)
      case w8 => walk_at "ev"
      · have hL6 := ex_l e6 hL5
        refine' s_asgX (K := K) (d := .tuple [.int (drI ds 9), .int (drI ds 10), md]) (ex_tup (exs_cons (ex_int ?w9) (exs_cons (ex_int ?w10) (exs_cons (ex_var rfl (dx_mono e6 _ _ h55)) exs_nil))) (Nat.le_of_ble_eq_true rfl)) (fun v H7 e7 h7 => ⟨v, _, rfl, h7, rfl, okds_cons (.int _) (okds_cons (.int _) (okds_cons om okds_nil)), e6.trans e7⟩)
        case w9 => walk_at "ev"
        case w10 => walk_at "ev"
      · exact ⟨v6, _, rfl, dx_mono e6 _ _ h6, rfl, okds_cons ((ok_itemD _).mono (by decide)) (okds_cons ((ok_itemD _).mono (by decide)) (okds_cons om okds_nil)), e6⟩
    obtain ⟨v6, rd, rfl, h6, hrl, or6, e6⟩ := p
    have hL6 := ex_l e6 hL5
    have h56 := dx_mono e6 _ _ h55
    refine' q_cut (M := fun σ' H' => ∃ (v : V) (rd : List PyData), σ' = [some (.ref a), some (.ref l), some v2, none, some v4, some v5, some v, none, none, none, none, none, none, none] ∧ Dx K H' v (.tuple rd) ∧ rd.length ≤ 10 ∧ Okds 2 rd ∧ Ex H6 H') ?cut2 (fun σ' H7 p => ?_)
    case cut2 =>
      refine' s_when ?w11 (fun _ H7 e7 => ?_) (fun _ H7 e7 => ?_)
      case w11 => walk_at "ev"
      · have hL7 := ex_l e7 hL6
        have h57 := dx_mono e7 _ _ h56
        have d11 := (dr 11).1
        have hk : (drI ds 11 / 14 % 3).toNat ≤ 2 := by omega
        have hc := cut_le (ds := rd) none (some 2)
        have hr := rep_len md (drI ds 11 / 14 % 3).toNat
        refine' s_asgX (K := K) (d := .tuple (cutA rd none (some 2) ++ (List.replicate (drI ds 11 / 14 % 3).toNat [md]).flatten)) (ex_catT (ex_slT (ex_var rfl (dx_mono e7 _ _ h6)) eo_none (eo_some ev_c)) (ex_tupOf (ex_new (exn_el (el_rep (vs := [v5]) (n := drI ds 11 / 14 % 3) (ea_cons (ev_var rfl) ea_nil) ?w12 (by rw [List.length_singleton]; omega) (Nat.le_of_ble_eq_true rfl) ⟨by omega, by omega⟩) (dxa_rep h57 _)))) (by omega)) (fun v H8 e8 h8 => ⟨v, _, rfl, h8, by rw [List.length_append]; omega, fun d hd => ?_, e7.trans e8⟩)
        case w12 => walk_at "ev"
        rcases List.mem_append.mp hd with h | h
        · exact okds_cut or6 _ _ d h
        · rw [rep_mem h]
          exact om
      · exact ⟨v6, rd, rfl, dx_mono e7 _ _ h6, by omega, or6, e7⟩
    obtain ⟨v6, rd, rfl, h6, hrl, or6, e7⟩ := p
    have e47 := (e5.trans e6).trans e7
    have hL7 := ex_l e7 hL6
    have h27 := dx_mono e47 _ _ h24
    have h47 := dx_mono e47 _ _ h44
    have h57 := dx_mono e7 _ _ h56
    have od3 : Okds 2 dd := od.mono (by decide)
    -- five things
    refine' q_forXN (K := K) (exn_lst (exs_cons (ex_var rfl h27) (exs_cons (ex_new (exn_listT (ex_var rfl h27))) (exs_cons (ex_var rfl h6) (exs_cons (ex_new (exn_listT (ex_var rfl h6))) (exs_cons (ex_var rfl h57) exs_nil))))) (Nat.le_of_ble_eq_true rfl)) (fun σ' => ∃ y : Option V, σ' = [some (.ref a), some (.ref l), some v2, none, some v4, some v5, some v6, y, none, none, none, none, none, none]) ⟨none, rfl⟩ (fun H8 x d σ' H9 e8 e9 hd hx hp => ?_) (fun σ' H9 e9 hp => ?_)
    · obtain ⟨y, rfl⟩ := hp
      have okx : Okd 3 d := by
        rcases List.mem_cons.mp hd with rfl | hd
        · exact .tup okd od3
        · rcases List.mem_cons.mp hd with rfl | hd
          · exact .lst okd od3
          · rcases List.mem_cons.mp hd with rfl | hd
            · exact .tup (by omega) or6
            · rcases List.mem_cons.mp hd with rfl | hd
              · exact .lst (by omega) or6
              · rw [List.mem_singleton.mp hd]
                exact om.mono (by decide)
      have c1 : ∀ {H' : Hp}, Ex H9 H' → ∀ {g : PyData → Bool}, SpV (spB K (2 + 1) g) ([x] ++ []) H' (.bl (g d)) := fun {H'} e {g} => spB_v (n := 2 + 1) (dx_mono e _ _ hx) okx
      have c2 : ∀ {H' : Hp}, Ex H9 H' → ∀ {g : PyData → Bool}, SpV (spB K (1 + 2) g) ([x] ++ []) H' (.bl (g d)) := fun {H'} e {g} => spB_v (n := 1 + 2) (dx_mono e _ _ hx) okx
      refine' q_when (b := false) (et_is (et_or (a := false) (b := false) (et_is (et_and (a := !decide (isDeed d = true)) (b := isDeed d) (et_test (ev_op (ev_call (vs := [x]) (ea_cons (ev_var rfl) ea_nil) (c1 (Ex.refl H9))) ev_c rv_isn)) (fun _ => et_B (ev_call (vs := [x]) (ea_cons (ev_var rfl) ea_nil) (c1 (Ex.refl H9))))) (by cases isDeed d <;> rfl)) (fun _ => et_is (et_and (a := !decide (isDeed d = false)) (b := !isDeed d) (et_test (ev_op (ev_call (vs := [x]) (ea_cons (ev_var rfl) ea_nil) (c1 (Ex.refl H9))) ev_c rv_isn)) (fun _ => et_not (et_B (ev_call (vs := [x]) (ea_cons (ev_var rfl) ea_nil) (c1 (Ex.refl H9)))))) (by cases isDeed d <;> rfl))) rfl) (fun hb => nomatch hb) (fun _ H10 e10 => ?_)
      refine' q_when (b := false) (et_is (et_and (a := !decide (isRec d = true)) (b := isRec d) (et_test (ev_op (ev_call (vs := [x]) (ea_cons (ev_var rfl) ea_nil) (c2 e10)) ev_c rv_isn)) (fun _ => et_B (ev_call (vs := [x]) (ea_cons (ev_var rfl) ea_nil) (c2 e10)))) (by cases isRec d <;> rfl)) (fun hb => nomatch hb) (fun _ H11 e11 => ?_)
      refine' s_when (b := false) (et_is (et_and (a := !decide (isRec d = false)) (b := !isRec d) (et_test (ev_op (ev_call (vs := [x]) (ea_cons (ev_var rfl) ea_nil) (c2 (e10.trans e11))) ev_c rv_isn)) (fun _ => et_not (et_B (ev_call (vs := [x]) (ea_cons (ev_var rfl) ea_nil) (c2 (e10.trans e11)))))) (by cases isRec d <;> rfl)) (fun hb => nomatch hb) (fun _ H12 e12 => ⟨⟨_, rfl⟩, e9.trans ((e10.trans e11).trans e12)⟩)
    · obtain ⟨y, rfl⟩ := hp
      have hL9 := ex_l e9 hL7
      have h49 := dx_mono e9 _ _ h47
      have h59 := dx_mono e9 _ _ h57
      have h69 := dx_mono e9 _ _ h6
      -- sure
      refine' q_asgX (K := K) (d := .tuple [.int (drI ds 12 % 3), .int (1 + drI ds 12 / 3), gd]) (ex_tup (exs_cons (ex_int ?w13) (exs_cons (ex_int ?w14) (exs_cons (ex_var rfl h49) exs_nil))) (Nat.le_of_ble_eq_true rfl)) (fun v8 H10 e10 h8 => ?_)
      case w13 => walk_at "ev"
      case w14 => walk_at "ev"
      have os : Okd 2 (.tuple [.int (drI ds 12 % 3), .int (1 + drI ds 12 / 3), gd]) := .tup (Nat.le_of_ble_eq_true rfl) (okds_cons (.int _) (okds_cons (.int _) (okds_cons og okds_nil)))
      generalize PyData.tuple [.int (drI ds 12 % 3), .int (1 + drI ds 12 / 3), gd] = sd at *
      have hL10 := ex_l e10 hL9
      have h610 := dx_mono e10 _ _ h69
      have h510 := dx_mono e10 _ _ h59
      -- records
      refine' q_asgX (K := K) (d := [PyData.list [sd], .list [sd, .tuple rd], .list [], .list [.tuple rd, sd, sd]].getD (drI ds 13 % 4).toNat .none) (ex_ixL (i := drI ds 13 % 4) (ex_new (exn_lst (exs_cons (ex_new (exn_lst (exs_cons (ex_var rfl h8) exs_nil) (Nat.le_of_ble_eq_true rfl))) (exs_cons (ex_new (exn_lst (exs_cons (ex_var rfl h8) (exs_cons (ex_var rfl h610) exs_nil)) (Nat.le_of_ble_eq_true rfl))) (exs_cons (ex_new (exn_lst exs_nil (Nat.le_of_ble_eq_true rfl))) (exs_cons (ex_new (exn_lst (exs_cons (ex_var rfl h610) (exs_cons (ex_var rfl h8) (exs_cons (ex_var rfl h8) exs_nil))) (Nat.le_of_ble_eq_true rfl))) exs_nil)))) (Nat.le_of_ble_eq_true rfl))) ?w15 (atI_getD (by omega) (show drI ds 13 % 4 < 4 by omega))) (fun v9 H11 e11 h9 => ?_)
      case w15 => walk_at "ev"
      have okr : Okd 3 (.tuple rd) := .tup (by omega) or6
      have oks3 : Okd 3 sd := os.mono (by decide)
      obtain ⟨rl, hrl9, orl, hrll⟩ : ∃ rl, [PyData.list [sd], .list [sd, .tuple rd], .list [], .list [.tuple rd, sd, sd]].getD (drI ds 13 % 4).toNat .none = .list rl ∧ Okds 3 rl ∧ rl.length ≤ 3 := by
        have hj : (drI ds 13 % 4).toNat < 4 := by omega
        generalize (drI ds 13 % 4).toNat = j at hj
        match j, hj with
        | 0, _ => exact ⟨_, rfl, okds_cons oks3 okds_nil, Nat.le_of_ble_eq_true rfl⟩
        | 1, _ => exact ⟨_, rfl, okds_cons oks3 (okds_cons okr okds_nil), Nat.le_of_ble_eq_true rfl⟩
        | 2, _ => exact ⟨_, rfl, okds_nil, Nat.le_of_ble_eq_true rfl⟩
        | 3, _ => exact ⟨_, rfl, okds_cons okr (okds_cons oks3 (okds_cons oks3 okds_nil)), Nat.le_of_ble_eq_true rfl⟩
      rw [hrl9] at h9
      have hL11 := ex_l e11 hL10
      -- base
      have d14 := (dr 14).1
      have d16 := (dr 16).1
      refine' q_asgX (K := K) (d := [PyData.int (drI ds 14), itemD (drI ds 14)].getD (drI ds 15 % 2).toNat .none) (ex_ixL (i := drI ds 15 % 2) (ex_new (exn_lst (exs_cons (ex_int ?w16) (exs_cons (ex_call (vs := [.int (drI ds 14)]) ?w17 (spItem_x d14)) exs_nil)) (Nat.le_of_ble_eq_true rfl))) ?w18 (atI_getD (by omega) (show drI ds 15 % 2 < 2 by omega))) (fun v10 H12 e12 h10 => ?_)
      case w16 => walk_at "ev"
      case w17 => walk_at "ev"
      case w18 => walk_at "ev"
      have ob : Okd 1 ([PyData.int (drI ds 14), itemD (drI ds 14)].getD (drI ds 15 % 2).toNat .none) := Okds.getD (okds_cons (.int _) (okds_cons (ok_itemD _) okds_nil)) _
      generalize [PyData.int (drI ds 14), itemD (drI ds 14)].getD (drI ds 15 % 2).toNat .none = bd at *
      have hL12 := ex_l e12 hL11
      -- image
      refine' q_asgX (K := K) (d := [PyData.tuple [.str "image", .tuple [.int 0, .tuple [.str "deep", .int (-4)]]], itemD (drI ds 16)].getD (drI ds 15 / 2 % 2).toNat .none) (ex_ixL (i := drI ds 15 / 2 % 2) (ex_new (exn_lst (exs_cons (ex_tup (exs_cons ex_str (exs_cons (ex_tup (exs_cons (ex_int ev_c) (exs_cons (ex_tup (exs_cons ex_str (exs_cons (ex_int (ev_un ev_c ru_neg)) exs_nil)) (Nat.le_of_ble_eq_true rfl)) exs_nil)) (Nat.le_of_ble_eq_true rfl)) exs_nil)) (Nat.le_of_ble_eq_true rfl)) (exs_cons (ex_call (vs := [.int (drI ds 16)]) ?w19 (spItem_x d16)) exs_nil)) (Nat.le_of_ble_eq_true rfl))) ?w20 (atI_getD (by omega) (show drI ds 15 / 2 % 2 < 2 by omega))) (fun v11 H13 e13 h11 => ?_)
      case w19 => walk_at "ev"
      case w20 => walk_at "ev"
      have oi : Okd 3 ([PyData.tuple [.str "image", .tuple [.int 0, .tuple [.str "deep", .int (-4)]]], itemD (drI ds 16)].getD (drI ds 15 / 2 % 2).toNat .none) := Okds.getD (okds_cons (.tup (Nat.le_of_ble_eq_true rfl) (okds_cons (.str (by decide +kernel)) (okds_cons (.tup (Nat.le_of_ble_eq_true rfl) (okds_cons (.int _) (okds_cons (.tup (Nat.le_of_ble_eq_true rfl) (okds_cons (.str (by decide +kernel)) (okds_cons (.int _) okds_nil))) okds_nil))) okds_nil))) (okds_cons ((ok_itemD _).mono (by decide)) okds_nil)) _
      generalize [PyData.tuple [.str "image", .tuple [.int 0, .tuple [.str "deep", .int (-4)]]], itemD (drI ds 16)].getD (drI ds 15 / 2 % 2).toNat .none = imd at *
      have h913 := dx_mono (e12.trans e13) _ _ h9
      have h1013 := dx_mono e13 _ _ h10
      -- value
      refine' q_asgX (K := K) (d := .tuple [bd, imd, .tuple rl]) (ex_tup (exs_cons (ex_var rfl h1013) (exs_cons (ex_var rfl h11) (exs_cons (ex_tupOf (ex_var rfl h913)) exs_nil))) (Nat.le_of_ble_eq_true rfl)) (fun v12 H14 e14 h12 => ?_)
      have h914 := dx_mono e14 _ _ h913
      have h1014 := dx_mono e14 _ _ h1013
      have h1114 := dx_mono e14 _ _ h11
      have h514 := dx_mono (((e11.trans e12).trans e13).trans e14) _ _ h510
      have ov4 : Okds 4 [bd, imd, .tuple rl] := okds_cons (ob.mono (by decide)) (okds_cons (oi.mono (by decide)) (okds_cons (.tup (by omega) orl) okds_nil))
      have ov5 : Okds 5 [bd, imd, .tuple rl] := ov4.mono (by decide)
      have hc2 := cut_le (ds := [bd, imd, .tuple rl]) none (some 2)
      -- seven things
      refine' q_forXN (K := K) (exn_lst (exs_cons (ex_var rfl h12) (exs_cons (ex_new (exn_listT (ex_var rfl h12))) (exs_cons (ex_slT (ex_var rfl h12) eo_none (eo_some ev_c)) (exs_cons (ex_catT (ex_var rfl h12) (ex_tup (exs_cons (ex_int ev_c) exs_nil) (Nat.le_of_ble_eq_true rfl)) (Nat.le_of_ble_eq_true rfl)) (exs_cons (ex_tup (exs_cons (ex_var rfl h1014) (exs_cons (ex_var rfl h1114) (exs_cons (ex_var rfl h914) exs_nil))) (Nat.le_of_ble_eq_true rfl)) (exs_cons (ex_var rfl h514) (exs_cons ex_non exs_nil))))))) (Nat.le_of_ble_eq_true rfl)) (fun σ' => ∃ y z : Option V, σ' = [some (.ref a), some (.ref l), some v2, none, some v4, some v5, some v6, y, some v8, some v9, some v10, some v11, some v12, z]) ⟨y, none, rfl⟩ (fun H15 x d σ' H16 e15 e16 hd hx hp => ?_) (fun σ' H16 e16 hp => ?_)
      · obtain ⟨y, z, rfl⟩ := hp
        have okx : Okd 6 d := by
          rcases List.mem_cons.mp hd with rfl | hd
          · exact .tup (Nat.le_of_ble_eq_true rfl) ov5
          · rcases List.mem_cons.mp hd with rfl | hd
            · exact .lst (Nat.le_of_ble_eq_true rfl) ov5
            · rcases List.mem_cons.mp hd with rfl | hd
              · exact .tup (Nat.le_trans hc2 (Nat.le_of_ble_eq_true rfl)) (okds_cut ov5 _ _)
              · rcases List.mem_cons.mp hd with rfl | hd
                · exact .tup (Nat.le_of_ble_eq_true rfl) (okds_cons (ov5 _ List.mem_cons_self) (okds_cons (ov5 _ (List.mem_cons_of_mem _ List.mem_cons_self)) (okds_cons (ov5 _ (List.mem_cons_of_mem _ (List.mem_cons_of_mem _ List.mem_cons_self))) (okds_cons (.int _) okds_nil))))
                · rcases List.mem_cons.mp hd with rfl | hd
                  · exact .tup (Nat.le_of_ble_eq_true rfl) (okds_cons (ob.mono (by decide)) (okds_cons (oi.mono (by decide)) (okds_cons (.lst (by omega) (orl.mono (by decide))) okds_nil)))
                  · rcases List.mem_cons.mp hd with rfl | hd
                    · exact om.mono (by decide)
                    · rw [List.mem_singleton.mp hd]
                      exact .non
        refine q_asgD (K := K) (d := badD) (ed_tup (eds_cons ed_str (eds_cons (ed_bool ev_c) eds_nil)) (Nat.le_of_ble_eq_true rfl)) (fun v13 H17 e17 h13 => ?_)
        have hx17 := dx_mono e17 _ _ hx
        refine' q_cut (M := fun σ' H' => ∃ v : V, σ' = [some (.ref a), some (.ref l), some v2, none, some v4, some v5, some v6, some x, some v8, some v9, some v10, some v11, some v12, some v] ∧ Dp K H' v (fvD d) ∧ Ex H17 H') ?cut3 (fun σ' H18 p => ?_)
        case cut3 =>
          refine' s_when (b := isLogD d) (et_B (ev_call (vs := [x]) (ea_cons (ev_var rfl) ea_nil) (spB_v hx17 okx))) (fun hb H18 e18 => ?_) (fun hb H18 e18 => ?_)
          · obtain ⟨_, _, _, _, hv⟩ := isLog_of hb
            have px : Dp K H18 x d := dx_dp _ _ (dx_mono e18 _ _ hx17) (isV_sd okx hv).1
            rw [show fvD d = .tuple [.str "log", d, d] from if_pos hb]
            exact s_asgD (K := K) (ed_tup (eds_cons ed_str (eds_cons (ed_var rfl px) (eds_cons (ed_var rfl px) eds_nil))) (Nat.le_of_ble_eq_true rfl)) (fun v H19 e19 h19 => ⟨v, rfl, h19, e18.trans e19⟩)
          · rw [show fvD d = badD from if_neg (by rw [hb]; decide)]
            exact ⟨v13, rfl, dp_mono e18 _ _ h13, e18⟩
        obtain ⟨v, rfl, hv, e18⟩ := p
        refine' s_when (b := false) (et_test (ev_neLF (K := K) (ev_var rfl) (dx_mono e18 _ _ hx17) okx (ed_var rfl hv) (sd_fv okx))) (fun hb => nomatch hb) (fun _ H19 e19 => ⟨⟨_, _, rfl⟩, e16.trans ((e17.trans e18).trans e19)⟩)
      · obtain ⟨y, z, rfl⟩ := hp
        exact s_ret (v := .bl true) ev_c (fun H17 _ => q H17)

theorem ok_law {tN tT tP tD tM : Tok} {mc : Value} {pm f C_Log C_BadValue C_HallError f_st f_dr f_it f_li f_lt f_ld f_lr f_lv f_ll f_lf f_fv f_i f_vl f_v f_w f_ar f_r f_d f_n f_p f_in f_t f_c : Addr} {fd fd_st fd_dr fd_it fd_li fd_lt fd_ld fd_lr fd_lv fd_ll fd_lf fd_fv fd_i fd_vl fd_v fd_w fd_ar fd_r fd_d fd_n fd_p fd_in fd_t fd_c : FuncData} (F : Fun K "law" "law" s_law f fd) (D__law_stream : Df K mg "_law_stream" s__law_stream ["script", "many"] f_st fd_st) (D__law_draw : Df K mg "_law_draw" s__law_draw ["draws", "k"] f_dr fd_dr) (D__law_item : Df K mg "_law_item" s__law_item ["draw"] f_it fd_it)
    (D__law_is_integer : Df K mg "_law_is_integer" s__law_is_integer ["thing"] f_li fd_li) (D__law_is_text : Df K mg "_law_is_text" s__law_is_text ["thing"] f_lt fd_lt) (D__law_is_deed : Df K mg "_law_is_deed" s__law_is_deed ["thing"] f_ld fd_ld) (D__law_is_record : Df K mg "_law_is_record" s__law_is_record ["thing"] f_lr fd_lr) (D__law_is_value : Df K mg "_law_is_value" s__law_is_value ["thing"] f_lv fd_lv) (D__law_is_log : Df K mg "_law_is_log" s__law_is_log ["thing"] f_ll fd_ll) (D__law_from_value : Df K mg "_law_from_value" s__law_from_value ["thing"] f_lf fd_lf)
    (D_Log_from_value : Sm K C_Log mc "from_value" "Log.from_value" s_Log_from_value ["value"] pm f_fv fd_fv) (R_Log : ClX.CRead K C_Log mc) (D_Log___init__ : Dm K C_Log "__init__" "Log.__init__" s_Log___init__ ["self", "base", "image", "records"] f_i fd_i) (D_Log_value : Dm K C_Log "value" "Log.value" s_Log_value ["self"] f_vl fd_vl)
    (D_is_value : Df K mg "is_value" s_is_value ["thing"] f_v fd_v) (D__is_value_within : Df K mg "_is_value_within" s__is_value_within ["thing", "levels"] f_w fd_w) (D__are_records : Df K mg "_are_records" s__are_records ["things"] f_ar fd_ar) (D_is_record : Df K mg "is_record" s_is_record ["thing"] f_r fd_r) (D_is_deed : Df K mg "is_deed" s_is_deed ["thing"] f_d fd_d) (D_is_number : Df K mg "is_number" s_is_number ["thing"] f_n fd_n) (D_is_plain : Df K mg "is_plain" s_is_plain ["thing"] f_p fd_p) (D_is_integer : Df K mg "is_integer" s_is_integer ["thing"] f_in fd_in) (D_is_text : Df K mg "is_text" s_is_text ["thing"] f_t fd_t)
    (D__may_stand_in_text : Df K mg "_may_stand_in_text" s__may_stand_in_text ["code"] f_c fd_c) (c_NUMBER_MOST : mg "NUMBER_MOST" = some (.int (10 ^ 18) tN)) (c_TEXT_MOST : mg "TEXT_MOST" = some (.int 200 tT)) (c__PERCENT : mg "_PERCENT" = some (.int 37 tP)) (c_DEPTH_MOST : mg "DEPTH_MOST" = some (.int 12 tD)) (c__DEED_MOST : mg "_DEED_MOST" = some (.int 4 tM))
    (L_Log : Kl K mg "Log" C_Log) (L : LogC K C_Log) (E_BadValue : Err K mg "BadValue" C_BadValue C_HallError) (g_HallError : mg "HallError" = some (.ref C_HallError)) (T : Glo mg) : FnOk P w K mg base CX0 20 f fd ["script"] (spLaw K) :=
  law_of F D__law_stream D__law_draw D__law_item D_is_deed D__law_is_deed D_is_record D__law_is_record D__law_is_log D__law_from_value (ok_stream D__law_stream.F T) (ok_draw D__law_draw.F T) (ok_item D__law_item.F T)
    (ok_is_deed (n := 2) D_is_deed.F D_is_plain D_is_integer D_is_text D__may_stand_in_text c_NUMBER_MOST c_TEXT_MOST c__PERCENT c__DEED_MOST T) (ok_l_deed (n := 2) D__law_is_deed.F D__law_is_integer D__law_is_text T)
    (ok_is_record (n := 1) D_is_record.F D_is_deed D_is_number D_is_plain D_is_integer D_is_text D__may_stand_in_text c_NUMBER_MOST c_TEXT_MOST c__PERCENT c__DEED_MOST T) (ok_l_record (n := 1) D__law_is_record.F D__law_is_deed D__law_is_integer D__law_is_text T)
    (ok_l_log D__law_is_log.F D__law_is_record D__law_is_value D__law_is_deed D__law_is_integer D__law_is_text T)
    (ok_lf D__law_from_value.F D_Log_from_value R_Log D_Log___init__ D_Log_value D_is_value D__is_value_within D__are_records D_is_record D_is_deed D_is_number D_is_plain D_is_integer D_is_text D__may_stand_in_text c_NUMBER_MOST c_TEXT_MOST c__PERCENT c_DEPTH_MOST c__DEED_MOST L_Log L E_BadValue g_HallError T) T

end
end Ap
namespace Ap
open PySem PySem.Spec PyProof.Rows L2
/-- the law's end, the ground's own word handed on -/
theorem walk_ofX {l : PySem.W.OpenLaw} {n k : Nat} {q : Program} {loose : List Str} {XP : (Str → Option Value) → Heap → Prop} {YP : World → Heap → Prop} {d : DefRec} {K : Params → PySem.W.Frag} {CX : World → CXT} {sp : World → Sp} {x : Str}
    (hn : l.most = some n) (hn2 : n ≤ sizeLine) (hdf : d.params.defaults = []) (hr : Room k callerA) (hY : ∀ (w : World) (h : Heap), YP w h → (K w.params).In h)
    (F : ∀ (w : World) (mg : Str → Option Value) (fa : Addr) (h : Heap), (K w.params).In h → h.Ns mainGlobals mg → XP mg h → mg d.name = some (.ref fa) →
      ∃ fd : FuncData, (∀ (s : Shared) (u : Value), BindsTo s fd ⟨[u], []⟩ [(x, u)]) ∧ ∀ base : Heap, (K w.params).In base → base.Ns mainGlobals mg → FnOk l.prog w (K w.params) mg base (CX w) k fa fd [x] (sp w))
    (hsp : ∀ (w : World) (H : Hp) (a : Addr) (ns : List Int), ns.length ≤ n → Only H → SqL (K w.params) H a (ns.map V.int) → sp w [.ref a] H (fun v _ => v = .bl true) fun _ _ _ => False)
    (hCX : ∀ (w : World) (H : Hp) (s : Shared) (e : Value) (s' : Shared), CX w [] H s (fun _ _ _ => False) e s' → False) :
    PySem.W.WalkO q loose XP YP l.row.toRowW d [] (fun f vs => PySem.call f vs) := by
  refine Att.attach_call hn hdf fun w s₀ s₁ mg mb fa o pm cd doc a vs ns G Y ho hd hcd hmg hobj hints hlen hg => ?_
  have KX := hY w _ Y
  obtain ⟨fd, hb, hF⟩ := F w mg fa _ KX G.T.g G.X hmg
  exact law_call KX G.T.g G.T.b G.T.builtins G.T.nolimit hg hobj hints (Nat.le_trans hlen hn2) hr hF hb (fun H hO hS => hsp w H a ns hlen hO hS) fun H e s' => hCX w H s₁ e s'
end Ap
open PySem PySem.W PyProof.Rows
set_option maxHeartbeats 0 in
theorem PySem.Challenge.cw_appendhall_k20_values_of_logs_holds : PySem.Challenge.rw_appendhall_k20_values_of_logs.Holds := by
  w_on; o_law; k_head; (case hw => w_witness2)
  k_fill
  refine Ap.walk_ofX (l := PySem.Challenge.rw_appendhall_k20_values_of_logs) (n := 63) (k := 20) (x := "script") (CX := fun _ => L2.CX0) (sp := fun w => Ap.spLaw _) rfl (by decide) rfl ⟨rfl, by decide, by decide⟩ (fun w h Y => PySem.W.kIn_of Y) ?F (fun _ _ a ns hl _ hS => ⟨a, ns, rfl, hS, hl, fun _ => rfl⟩) (fun _ _ _ _ _ h => h)
  case F =>
    intro w mg fa h KX G XG hmg
    obtain ⟨C_Log, L_Log, n_Log_base, n_Log_image, n_Log_records, R_Log, ⟨p_Log_from_value, f_Log_from_value, fd_Log_from_value, D_Log_from_value⟩, ⟨f_Log___init__, fd_Log___init__, D_Log___init__⟩, ⟨f_Log_value, fd_Log_value, D_Log_value⟩⟩ : ∃ C, Ap.Kl _ mg "Log" C ∧ L2.NoAttr _ C "base" ∧ L2.NoAttr _ C "image" ∧ L2.NoAttr _ C "records" ∧ ClX.CRead _ C (.type "type") ∧ (∃ p f fd, Ap.Sm _ C (.type "type") "from_value" "Log.from_value" Ap.s_Log_from_value ["value"] p f fd) ∧ (∃ f fd, Ap.Dm _ C "__init__" "Log.__init__" Ap.s_Log___init__ ["self", "base", "image", "records"] f fd) ∧ (∃ f fd, Ap.Dm _ C "value" "Log.value" Ap.s_Log_value ["self"] f fd) := by
      refine' ⟨_, Ap.kl_mk KX G ?aC ?pg ?hd ?po ?sa ?mk ?kp, Ap.na_mk KX ?n_base, Ap.na_mk KX ?n_image, Ap.na_mk KX ?n_records, Ap.cr_mk KX ?rd ?ga, Ap.sm_mk KX ?a_from_value ?r_from_value ?l_from_value ?c_from_value ?k_from_value ?b_from_value, Ap.dm_mk KX ?a___init__ ?i___init__ ?l___init__ ?c___init__ ?k___init__ ?b___init__, Ap.dm_mk KX ?a_value ?i_value ?l_value ?c_value ?k_value ?b_value⟩
      (case aC => k_is); (case pg => k_is); (case hd => k_is); (case po => k_is); (case sa => k_is); (case mk => k_is); (case kp => k_is); (case n_base => k_is); (case n_image => k_is); (case n_records => k_is); (case rd => k_is); (case ga => k_is); (case a_from_value => k_is); (case r_from_value => k_is); (case l_from_value => k_is); (case c_from_value => k_is); (case k_from_value => k_is); (case a___init__ => k_is); (case i___init__ => k_is); (case l___init__ => k_is); (case c___init__ => k_is); (case k___init__ => k_is); (case a_value => k_is); (case i_value => k_is); (case l_value => k_is); (case c_value => k_is); (case k_value => k_is)
      (case b_from_value => exact fun _ _ _ _ _ _ us hl => match us, hl with | [_], _ => rfl)
      (case b___init__ => exact fun _ _ _ _ _ _ us hl => match us, hl with | [_, _, _, _], _ => rfl)
      (case b_value => exact fun _ _ _ _ _ _ us hl => match us, hl with | [_], _ => rfl)
    obtain ⟨C_BadValue, C_HallError, E_BadValue, g_HallError⟩ : ∃ C B, Ap.Err _ mg "BadValue" C B ∧ mg "HallError" = some (.ref B) := by
      refine' ⟨_, _, Ap.err_mk KX G ?aC ?aB ?kp ?ex ?bs ?ty ?ss ?hg ?hk ?hd ?ha ?hn ?ht ?hm ?dB ?tB ?sb ?sv⟩
      (case aC => k_is); (case aB => k_is); (case ex => k_exc); (case kp => k_is); (case bs => k_is); (case ty => k_is); (case ss => k_is); (case hg => k_is); (case hk => k_is); (case hd => k_is); (case ha => k_is); (case hn => k_is); (case ht => k_is); (case hm => k_is); (case dB => k_is); (case tB => k_is); (case sb => k_is); (case sv => k_is)
    obtain ⟨t_NUMBER_MOST, c_NUMBER_MOST⟩ : ∃ t, mg "NUMBER_MOST" = some (.int (1000000000000000000) t) := by
      obtain ⟨v, a, b⟩ := XG.2.val _ List.mem_cons_self
      cases b
      exact ⟨_, a⟩
    obtain ⟨t_TEXT_MOST, c_TEXT_MOST⟩ : ∃ t, mg "TEXT_MOST" = some (.int (200) t) := by
      refine' ⟨_, (PySem.W.mg_of KX G ?c).trans ?e⟩
      (case c => k_is)
      (case e => exact rfl)
    obtain ⟨t_DEPTH_MOST, c_DEPTH_MOST⟩ : ∃ t, mg "DEPTH_MOST" = some (.int (12) t) := by
      refine' ⟨_, (PySem.W.mg_of KX G ?c).trans ?e⟩
      (case c => k_is)
      (case e => exact rfl)
    obtain ⟨t__PERCENT, c__PERCENT⟩ : ∃ t, mg "_PERCENT" = some (.int (37) t) := by
      refine' ⟨_, (PySem.W.mg_of KX G ?c).trans ?e⟩
      (case c => k_is)
      (case e => exact rfl)
    obtain ⟨t__DEED_MOST, c__DEED_MOST⟩ : ∃ t, mg "_DEED_MOST" = some (.int (4) t) := by
      refine' ⟨_, (PySem.W.mg_of KX G ?c).trans ?e⟩
      (case c => k_is)
      (case e => exact rfl)
    obtain ⟨f__law_stream, fd__law_stream, D__law_stream⟩ : ∃ f fd, Ap.Df _ mg "_law_stream" Ap.s__law_stream ["script", "many"] f fd := by
      refine' Ap.df_mk KX G ?a ?l ?c ?k ?b
      (case a => k_is); (case l => k_is); (case c => k_is); (case k => k_is); (case b => exact fun _ _ _ _ _ _ us hl => match us, hl with | [_, _], _ => rfl)
    obtain ⟨f__law_draw, fd__law_draw, D__law_draw⟩ : ∃ f fd, Ap.Df _ mg "_law_draw" Ap.s__law_draw ["draws", "k"] f fd := by
      refine' Ap.df_mk KX G ?a ?l ?c ?k ?b
      (case a => k_is); (case l => k_is); (case c => k_is); (case k => k_is); (case b => exact fun _ _ _ _ _ _ us hl => match us, hl with | [_, _], _ => rfl)
    obtain ⟨f__law_item, fd__law_item, D__law_item⟩ : ∃ f fd, Ap.Df _ mg "_law_item" Ap.s__law_item ["draw"] f fd := by
      refine' Ap.df_mk KX G ?a ?l ?c ?k ?b
      (case a => k_is); (case l => k_is); (case c => k_is); (case k => k_is); (case b => exact fun _ _ _ _ _ _ us hl => match us, hl with | [_], _ => rfl)
    obtain ⟨f__law_is_integer, fd__law_is_integer, D__law_is_integer⟩ : ∃ f fd, Ap.Df _ mg "_law_is_integer" Ap.s__law_is_integer ["thing"] f fd := by
      refine' Ap.df_mk KX G ?a ?l ?c ?k ?b
      (case a => k_is); (case l => k_is); (case c => k_is); (case k => k_is); (case b => exact fun _ _ _ _ _ _ us hl => match us, hl with | [_], _ => rfl)
    obtain ⟨f__law_is_text, fd__law_is_text, D__law_is_text⟩ : ∃ f fd, Ap.Df _ mg "_law_is_text" Ap.s__law_is_text ["thing"] f fd := by
      refine' Ap.df_mk KX G ?a ?l ?c ?k ?b
      (case a => k_is); (case l => k_is); (case c => k_is); (case k => k_is); (case b => exact fun _ _ _ _ _ _ us hl => match us, hl with | [_], _ => rfl)
    obtain ⟨f__law_is_deed, fd__law_is_deed, D__law_is_deed⟩ : ∃ f fd, Ap.Df _ mg "_law_is_deed" Ap.s__law_is_deed ["thing"] f fd := by
      refine' Ap.df_mk KX G ?a ?l ?c ?k ?b
      (case a => k_is); (case l => k_is); (case c => k_is); (case k => k_is); (case b => exact fun _ _ _ _ _ _ us hl => match us, hl with | [_], _ => rfl)
    obtain ⟨f__law_is_record, fd__law_is_record, D__law_is_record⟩ : ∃ f fd, Ap.Df _ mg "_law_is_record" Ap.s__law_is_record ["thing"] f fd := by
      refine' Ap.df_mk KX G ?a ?l ?c ?k ?b
      (case a => k_is); (case l => k_is); (case c => k_is); (case k => k_is); (case b => exact fun _ _ _ _ _ _ us hl => match us, hl with | [_], _ => rfl)
    obtain ⟨f__law_is_value, fd__law_is_value, D__law_is_value⟩ : ∃ f fd, Ap.Df _ mg "_law_is_value" Ap.s__law_is_value ["thing"] f fd := by
      refine' Ap.df_mk KX G ?a ?l ?c ?k ?b
      (case a => k_is); (case l => k_is); (case c => k_is); (case k => k_is); (case b => exact fun _ _ _ _ _ _ us hl => match us, hl with | [_], _ => rfl)
    obtain ⟨f__law_is_log, fd__law_is_log, D__law_is_log⟩ : ∃ f fd, Ap.Df _ mg "_law_is_log" Ap.s__law_is_log ["thing"] f fd := by
      refine' Ap.df_mk KX G ?a ?l ?c ?k ?b
      (case a => k_is); (case l => k_is); (case c => k_is); (case k => k_is); (case b => exact fun _ _ _ _ _ _ us hl => match us, hl with | [_], _ => rfl)
    obtain ⟨f__law_from_value, fd__law_from_value, D__law_from_value⟩ : ∃ f fd, Ap.Df _ mg "_law_from_value" Ap.s__law_from_value ["thing"] f fd := by
      refine' Ap.df_mk KX G ?a ?l ?c ?k ?b
      (case a => k_is); (case l => k_is); (case c => k_is); (case k => k_is); (case b => exact fun _ _ _ _ _ _ us hl => match us, hl with | [_], _ => rfl)
    obtain ⟨f_is_value, fd_is_value, D_is_value⟩ : ∃ f fd, Ap.Df _ mg "is_value" Ap.s_is_value ["thing"] f fd := by
      refine' Ap.df_mk KX G ?a ?l ?c ?k ?b
      (case a => k_is); (case l => k_is); (case c => k_is); (case k => k_is); (case b => exact fun _ _ _ _ _ _ us hl => match us, hl with | [_], _ => rfl)
    obtain ⟨f__is_value_within, fd__is_value_within, D__is_value_within⟩ : ∃ f fd, Ap.Df _ mg "_is_value_within" Ap.s__is_value_within ["thing", "levels"] f fd := by
      refine' Ap.df_mk KX G ?a ?l ?c ?k ?b
      (case a => k_is); (case l => k_is); (case c => k_is); (case k => k_is); (case b => exact fun _ _ _ _ _ _ us hl => match us, hl with | [_, _], _ => rfl)
    obtain ⟨f__are_records, fd__are_records, D__are_records⟩ : ∃ f fd, Ap.Df _ mg "_are_records" Ap.s__are_records ["things"] f fd := by
      refine' Ap.df_mk KX G ?a ?l ?c ?k ?b
      (case a => k_is); (case l => k_is); (case c => k_is); (case k => k_is); (case b => exact fun _ _ _ _ _ _ us hl => match us, hl with | [_], _ => rfl)
    obtain ⟨f_is_record, fd_is_record, D_is_record⟩ : ∃ f fd, Ap.Df _ mg "is_record" Ap.s_is_record ["thing"] f fd := by
      refine' Ap.df_mk KX G ?a ?l ?c ?k ?b
      (case a => k_is); (case l => k_is); (case c => k_is); (case k => k_is); (case b => exact fun _ _ _ _ _ _ us hl => match us, hl with | [_], _ => rfl)
    obtain ⟨f_is_deed, fd_is_deed, D_is_deed⟩ : ∃ f fd, Ap.Df _ mg "is_deed" Ap.s_is_deed ["thing"] f fd := by
      refine' Ap.df_mk KX G ?a ?l ?c ?k ?b
      (case a => k_is); (case l => k_is); (case c => k_is); (case k => k_is); (case b => exact fun _ _ _ _ _ _ us hl => match us, hl with | [_], _ => rfl)
    obtain ⟨f_is_number, fd_is_number, D_is_number⟩ : ∃ f fd, Ap.Df _ mg "is_number" Ap.s_is_number ["thing"] f fd := by
      refine' Ap.df_mk KX G ?a ?l ?c ?k ?b
      (case a => k_is); (case l => k_is); (case c => k_is); (case k => k_is); (case b => exact fun _ _ _ _ _ _ us hl => match us, hl with | [_], _ => rfl)
    obtain ⟨f_is_plain, fd_is_plain, D_is_plain⟩ : ∃ f fd, Ap.Df _ mg "is_plain" Ap.s_is_plain ["thing"] f fd := by
      refine' Ap.df_mk KX G ?a ?l ?c ?k ?b
      (case a => k_is); (case l => k_is); (case c => k_is); (case k => k_is); (case b => exact fun _ _ _ _ _ _ us hl => match us, hl with | [_], _ => rfl)
    obtain ⟨f_is_integer, fd_is_integer, D_is_integer⟩ : ∃ f fd, Ap.Df _ mg "is_integer" Ap.s_is_integer ["thing"] f fd := by
      refine' Ap.df_mk KX G ?a ?l ?c ?k ?b
      (case a => k_is); (case l => k_is); (case c => k_is); (case k => k_is); (case b => exact fun _ _ _ _ _ _ us hl => match us, hl with | [_], _ => rfl)
    obtain ⟨f_is_text, fd_is_text, D_is_text⟩ : ∃ f fd, Ap.Df _ mg "is_text" Ap.s_is_text ["thing"] f fd := by
      refine' Ap.df_mk KX G ?a ?l ?c ?k ?b
      (case a => k_is); (case l => k_is); (case c => k_is); (case k => k_is); (case b => exact fun _ _ _ _ _ _ us hl => match us, hl with | [_], _ => rfl)
    obtain ⟨f__may_stand_in_text, fd__may_stand_in_text, D__may_stand_in_text⟩ : ∃ f fd, Ap.Df _ mg "_may_stand_in_text" Ap.s__may_stand_in_text ["code"] f fd := by
      refine' Ap.df_mk KX G ?a ?l ?c ?k ?b
      (case a => k_is); (case l => k_is); (case c => k_is); (case k => k_is); (case b => exact fun _ _ _ _ _ _ us hl => match us, hl with | [_], _ => rfl)
    obtain ⟨fd, hb, F⟩ : ∃ fd, (∀ (s : Shared) (v : Value), BindsTo s fd ⟨[v], []⟩ [("script", v)]) ∧ L2.Fun _ "law" "law" Ap.s_law fa fd := by
      refine' Ap.law_mk KX G hmg ?a ?l ?c ?k ?b
      (case a => k_is); (case l => k_is); (case c => k_is); (case k => k_is); (case b => exact fun _ _ _ _ _ _ _ _ => .of_eq rfl)
    refine ⟨fd, hb, fun base _ _ => Ap.ok_law F D__law_stream D__law_draw D__law_item D__law_is_integer D__law_is_text D__law_is_deed D__law_is_record D__law_is_value D__law_is_log D__law_from_value D_Log_from_value R_Log D_Log___init__ D_Log_value D_is_value D__is_value_within D__are_records D_is_record D_is_deed D_is_number D_is_plain D_is_integer D_is_text D__may_stand_in_text (Ap.big_lit c_NUMBER_MOST) c_TEXT_MOST c__PERCENT c_DEPTH_MOST c__DEED_MOST L_Log ⟨L_Log.cl, n_Log_base, n_Log_image, n_Log_records⟩ E_BadValue g_HallError ?T⟩
    refine' ⟨PySem.W.mg_none_of KX G ?z0, PySem.W.mg_none_of KX G ?z1, PySem.W.mg_none_of KX G ?z2, PySem.W.mg_none_of KX G ?z3, PySem.W.mg_none_of KX G ?z4, PySem.W.mg_none_of KX G ?z5, PySem.W.mg_none_of KX G ?z6, PySem.W.mg_none_of KX G ?z7, PySem.W.mg_none_of KX G ?z8, PySem.W.mg_none_of KX G ?z9, PySem.W.mg_none_of KX G ?z10⟩
    (case z0 => k_is); (case z1 => k_is); (case z2 => k_is); (case z3 => k_is); (case z4 => k_is); (case z5 => k_is); (case z6 => k_is); (case z7 => k_is); (case z8 => k_is); (case z9 => k_is); (case z10 => k_is)
#print axioms PySem.Challenge.cw_appendhall_k20_values_of_logs_holds

