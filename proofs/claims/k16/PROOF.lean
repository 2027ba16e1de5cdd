import PyProof.Rows.All
import Wide.All
import OpenK.AllK
import Wide.FinOn
import HandS.ForMost
import HandS.Evl
import HandS.Walk
import HandS.SortKw
import HandS.DictComp
import HandS.IsInst
import HandS.ForExc
import HandS.TupAny
import HandS.Conv
import HandS.Property
import HandS.ExcIs
import HandS.Deep
import HandS.OwnIter
import HandS.OwnEq
import HandS.IterNext
import PyProof.InstSpecial
import KE.KOwnIter
import PySem.Challenge.RW_appendhall_k16_records_of_a_log
set_option Elab.async false
set_option linter.all false
set_option maxRecDepth 100000
namespace Ap
open PySem PySem.Spec PyProof.Rows L2 Evl

/-! ### more of what evaluates to what -/
section
variable {K : PySem.W.Frag} {σ : L2.St} {H H' : Hp} {ta tb tc te : TE} {t u : TT} {x y z v w : V} {r r' : R2}
theorem ev_chain {k m : Bool} (ha : Ev ta σ H x) (hb : Ev tb σ H y) (hr : RV r x y H (.bl k)) (hc : Ev tc σ H z) (hr' : RV r' y z H (.bl m)) : Ev (tChain r r' ta tb tc) σ H (.bl (k && m)) := fun H1 e Q q =>
  ha H1 e _ fun H2 e2 => hb H2 (e.trans e2) _ fun H3 e3 => hr H3 ((e.trans e2).trans e3) _ fun H4 e4 => ⟨k, rfl, by
    cases k with
    | true =>
      show tc σ H4 _
      exact hc H4 (((e.trans e2).trans e3).trans e4) _ fun H5 e5 => hr' H5 ((((e.trans e2).trans e3).trans e4).trans e5) Q fun H6 e6 => q H6 ((((e2.trans e3).trans e4).trans e5).trans e6)
    | false =>
      show Q (.bl false) H4
      exact q H4 ((e2.trans e3).trans e4)⟩
theorem rc_int {i : Int} : RC (fun xs H Q => (∃ i, xs = [.int i] ∧ Q (.int i) H) ∨ ∃ k, xs = [.bl k] ∧ Q (.int (if k then 1 else 0)) H) [.int i] H (.int i) := fun H1 _ _ q => Or.inl ⟨i, rfl, q H1 (Ex.refl H1)⟩
theorem rc_len {p : Addr} {xs : List V} (h : SqL K H p xs) : RC (fun xs H Q => ∃ p ys, xs = [.ref p] ∧ (SqL K H p ys ∨ SqT K H p ys) ∧ Q (.int ys.length) H) [.ref p] H (.int (xs.length : Int)) := fun H1 e _ q => ⟨p, xs, rfl, Or.inl (ex_l e h), q H1 (Ex.refl H1)⟩
theorem rc_lenT {p : Addr} {xs : List V} (h : SqT K H p xs) : RC (fun xs H Q => ∃ p ys, xs = [.ref p] ∧ (SqL K H p ys ∨ SqT K H p ys) ∧ Q (.int ys.length) H) [.ref p] H (.int (xs.length : Int)) := fun H1 e _ q => ⟨p, xs, rfl, Or.inr (ex_t e h), q H1 (Ex.refl H1)⟩
end


section
variable {K : PySem.W.Frag} {σ : L2.St} {H H' : Hp} {ta tb tc te td ty tv : TE} {t u : TT} {x y z v w : V} {D : Ends} {tz : TS}
theorem ev_dget {a : Addr} {kvs : List (Key × V)} {k : Key} (ha : Ev td σ H (.ref a)) (hk : Ev ty σ H (kV k)) (hr : Rd H a (.dK kvs)) (hv : valV kvs k = some v) : Ev (tDGet td ty) σ H v := fun H1 e Q q =>
  ha H1 e _ fun H2 e2 => hk H2 (e.trans e2) _ fun H3 e3 => ⟨a, v, rfl, .inl ⟨kvs, k, ex_rd ((e.trans e2).trans e3) hr, rfl, hv.symm⟩, q H3 (e2.trans e3)⟩
/-- isinstance(x, T) of a plain value -/
theorem rc_isi {x : V} {T X : String} {b : Bool} (ht : ∀ H, TyX K H x (.type X)) (hb : kitB X T = some b) : RC (rIsi K) [x, .ty T] H (.bl b) := fun H1 _ _ q => ⟨x, .ty T, .type X, .type T, b, rfl, .ty T, ht H1, kit_ty hb, q H1 (Ex.refl H1)⟩
/-- d[k] = e -/
theorem s_put {a : Addr} {kvs : List (Key × V)} {k : Key} (h : Ev tv σ H v) (ha : Ev td σ H (.ref a)) (hk : Ev ty σ H (kV k)) (hd : H a = some (.dK kvs)) (hl : kvs.length < 100000) (q : ∀ H1, Ex H H1 → D.nx σ (upd H1 a (.dK (putK kvs k v)))) : sDPut td ty tv D σ H :=
  h H (Ex.refl H) _ fun H1 e1 => ha H1 e1 _ fun H2 e2 => hk H2 (e1.trans e2) _ fun H3 e3 => ⟨a, _, rfl, DPut.k (((e1.trans e2).trans e3) a _ hd) (sz_lt hl), q H3 ((e1.trans e2).trans e3)⟩
theorem q_put {a : Addr} {kvs : List (Key × V)} {k : Key} (h : Ev tv σ H v) (ha : Ev td σ H (.ref a)) (hk : Ev ty σ H (kV k)) (hd : H a = some (.dK kvs)) (hl : kvs.length < 100000) (q : ∀ H1, Ex H H1 → tz D σ (upd H1 a (.dK (putK kvs k v)))) : tSeq (sDPut td ty tv) tz D σ H :=
  s_put (D := { D with nx := tz D }) h ha hk hd hl q
/-- within a lock, and out of it -/
theorem Ex.unlock {H H' : Hp} {d : Addr} {o : Obj} {u : HO} (hd : H d = some u) (e : Ex (upd H d (.frz o u)) H') : Ex H (upd H' d u) := fun a o' h => by
  by_cases q : a = d
  · subst q
    rw [upd_same, ← hd, h]
  · rw [upd_ne q]
    exact e a o' (by rw [upd_ne q]; exact h)
theorem SqL.locked {a d : Addr} {xs : List V} {o : Obj} {u : HO} (h : SqL K H a xs) (hn : H d = some u) (hu : ∀ l, u ≠ .lst l ∧ ∀ o, u ≠ .frz o (.lst l)) : SqL K (upd H d (.frz o u)) a xs := by
  rcases h with (h | ⟨o', h⟩) | h
  · have q : a ≠ d := fun e => by
      rw [e, hn] at h
      exact (hu xs).1 (Option.some.inj h)
    exact .inl (.inl (by rw [upd_ne q]; exact h))
  · have q : a ≠ d := fun e => by
      rw [e, hn] at h
      exact (hu xs).2 o' (Option.some.inj h)
    exact .inl (.inr ⟨o', by rw [upd_ne q]; exact h⟩)
  · exact .inr h
/-- y = [e for k in d if t] -/
theorem q_lcKeys {d : Addr} {kvs : List (Key × V)} {jd i j : Nat} {vs : List Nat} (hj : σ[jd]? = some (some (.ref d))) (hd : H d = some (.dK kvs)) (hz : kvs.length ≤ 40000) (f : Nat → Bool) (v : Nat → V) (hw : ∀ x, wipe ((wipe σ vs).set j (some x)) vs = wipe σ vs)
    (ht : ∀ (n : Nat) k x o, kvs[n]? = some (k, x) → EvT t ((wipe σ vs).set j (some (kV k))) (upd H d (.frz o (.dK kvs))) (f n))
    (he : ∀ (n : Nat) k x o, kvs[n]? = some (k, x) → f n = true → Ev te ((wipe σ vs).set j (some (kV k))) (upd H d (.frz o (.dK kvs))) (v n))
    (q : ∀ p H1, H p = none → Ex H H1 → H1 p = some (.lst (given kvs.length f v)) → tz D (σ.set i (some (.ref p))) H1) : tSeq (tLock (tAsg (tLc (iKeys (tVar jd)) (gName j) t te vs) (gName i))) tz D σ H := by
  refine ⟨d, .dK kvs, hd, trivial, fun od => ⟨.ref d, hj, d, od, rfl, .inl ⟨kvs, upd_same, fun Dl hD => ?_⟩⟩⟩
  have ne : Dl ≠ d := fun e => by
    rw [e, upd_same] at hD
    cases hD
  refine lc_it walk_keys (fun m H' => Cw (upd H d (.frz od (.dK kvs))) f v Dl m H') ⟨hD, Ex.new hD, upd_same⟩ (fun m H' _ p => p.2.1 d _ upd_same) (fun m x H1 H' hm p y => ?_) (fun H' p => ?_)
  · obtain ⟨rfl, k, x', hk, rfl⟩ := y
    exact ⟨hw _, cw_turn p (by omega) (ht m k x' od hk) (fun hf => he m k x' od hk hf)⟩
  · refine ⟨p.2.1 d _ upd_same, ?_⟩
    refine q Dl _ ?_ (Ex.unlock hd p.2.1) (by rw [upd_ne ne]; exact p.2.2)
    rw [upd_ne ne] at hD
    exact hD
/-- for k in d: body, the dict locked -/
theorem q_forKeys {d : Addr} {kvs : List (Key × V)} {jd j : Nat} {tu : TS} (hj : σ[jd]? = some (some (.ref d))) (hd : H d = some (.dK kvs)) (Pv : Obj → Nat → L2.St → Hp → Prop)
    (h0 : ∀ o, Pv o 0 σ (upd H d (.frz o (.dK kvs)))) (hG : ∀ o i σ' H', i ≤ kvs.length → Pv o i σ' H' → H' d = some (.frz o (.dK kvs)))
    (hs : ∀ o i k x σ' H' rt bk, kvs[i]? = some (k, x) → Pv o i σ' H' → tu ⟨Pv o (i + 1), rt, bk, Pv o (i + 1)⟩ (σ'.set j (some (kV k))) H')
    (q : ∀ o σ' H', Pv o kvs.length σ' H' → tz D σ' (upd H' d (.dK kvs))) : tSeq (tLock (tFor (iKeys (tVar jd)) (gName j) tu)) tz D σ H := by
  refine ⟨d, .dK kvs, hd, trivial, fun od => ⟨.ref d, hj, d, od, rfl, .inl ⟨kvs, upd_same, ?_⟩⟩⟩
  refine for_it walk_keys (Pv od) (h0 od) (fun i σ' H' hi p => hG od i σ' H' hi p) (fun i x σ' H1 H' hi p y => ?_) (fun σ' H' p => ⟨hG od _ σ' H' (Nat.le_refl _) p, q od σ' H' p⟩)
  obtain ⟨rfl, k, x', hk, rfl⟩ := y
  exact hs od i k x' σ' H' _ _ hk p
theorem q_dnew {i : Nat} (k : ∀ p H1, H p = none → Ex H H1 → H1 p = some (.dK []) → tz D (σ.set i (some (.ref p))) H1) : tSeq (tAsg tDNewK (gName i)) tz D σ H := fun p hp => k p _ hp (Ex.new hp) upd_same
theorem el_rep {ta : TA} {vs : List V} {n : Int} (h : EvA ta σ H vs) (hb : Ev tb σ H (.int n)) (hl : vs.length * n.toNat ≤ 100000) (hv : vs.length ≤ 100000) (hn : -100000 ≤ n ∧ n ≤ 100000) : EvL (tOp rRep (tLst ta) tb) σ H (List.replicate n.toNat vs).flatten := fun H1 e Q q =>
  h H1 e _ fun H2 e2 => ⟨sz_of hv, fun p hp => hb _ ((e.trans e2).trans (Ex.new hp)) _ fun H3 e3 => ⟨p, n, vs, rfl, rfl, e3 _ _ upd_same, by omega, by omega, sz_of hl, fun l hl2 => q l _ (fresh_back ((e2.trans (Ex.new hp)).trans e3) hl2) (((e2.trans (Ex.new hp)).trans e3).trans (Ex.new hl2)) upd_same⟩⟩
theorem q_call {sp : Sp} {dvs vs : List V} {E : XK} {ta : TA} {i : Nat} (h : EvA ta σ H vs) (k : ∀ H1, Ex H H1 → sp (vs ++ dvs) H1 (fun v H2 => tz D (σ.set i (some v)) H2) E) : tSeq (tAsg (tCall sp dvs E ta) (gName i)) tz D σ H := h H (Ex.refl H) _ fun H1 e => k H1 e
theorem s_retCall {sp : Sp} {dvs vs : List V} {E : XK} {ta : TA} (h : EvA ta σ H vs) (k : ∀ H1, Ex H H1 → sp (vs ++ dvs) H1 D.rt E) : tRet (tCall sp dvs E ta) D σ H := h H (Ex.refl H) _ fun H1 e => k H1 e
/-- for k in range(lo, hi), any small bounds -/
theorem q_forRng {ta : TA} {j : Nat} {lo n : Int} {tu : TS} (h : EvA ta σ H [.int lo, .int n]) (hn : -100000 ≤ lo ∧ lo ≤ 100000 ∧ -100000 ≤ n ∧ n ≤ 100000) (Pv : Nat → L2.St → Hp → Prop) (h0 : ∀ H1, Ex H H1 → Pv 0 σ H1)
    (hs : ∀ (i : Nat) σ' H', lo + (i : Int) < n → Pv i σ' H' → tu { D with nx := Pv (i + 1), ct := Pv (i + 1), bk := tz D } (σ'.set j (some (.int (lo + (i : Int))))) H') (hd : ∀ σ' H', Pv (n - lo).toNat σ' H' → tz D σ' H') : tSeq (tFor (iRng2 ta) (gName j) tu) tz D σ H :=
  h H (Ex.refl H) _ fun H1 e => ⟨lo, n, rfl, ⟨by omega, by omega, by omega, by omega⟩, for_range (lo := lo) (n := (n - lo).toNat) Pv (h0 H1 e) (fun i σ' H' hi p => hs i σ' H' (by omega) p) hd⟩
theorem given_eq {α : Type} (xs : List α) (d : α) (p : α → Bool) (g : α → V) : given xs.length (fun i => p (xs.getD i d)) (fun i => g (xs.getD i d)) = (xs.filter p).map g := by
  have e : (List.range xs.length).map (fun i => xs.getD i d) = xs := by
    refine List.ext_getElem (by simp) (fun i h1 h2 => ?_)
    rw [List.getElem_map, List.getElem_range, List.getD_eq_getElem?_getD, List.getElem?_eq_getElem h2]
    rfl
  unfold given
  conv => rhs; rw [← e]
  rw [List.filter_map, List.map_map]
  rfl
end
/-! ### draws: whole numbers below 5040 -/
def Dr (ds : List Int) : Prop := ∀ d ∈ ds, 0 ≤ d ∧ d < 5040
theorem Dr.nil : Dr [] := fun _ h => nomatch h
theorem Dr.app {ds : List Int} {d : Int} (h : Dr ds) (h0 : 0 ≤ d) (h1 : d < 5040) : Dr (ds ++ [d]) := fun e he => by
  rcases List.mem_append.mp he with he | he
  · exact h e he
  · rw [List.mem_singleton.mp he]
    exact ⟨h0, h1⟩
/-- a draw: the k-th one, 0 behind the last -/
def drw (ds : List Int) (k : Nat) : Int := ds.getD k 0
theorem drw_ok {ds : List Int} (h : Dr ds) (k : Nat) : 0 ≤ drw ds k ∧ drw ds k < 5040 := by
  unfold drw
  rw [List.getD_eq_getElem?_getD]
  cases e : ds[k]? with
  | none => exact ⟨Int.le_refl _, by show (0 : Int) < 5040; decide⟩
  | some d => exact h d (List.mem_of_getElem? e)
def spStream (K : PySem.W.Frag) : Sp := fun vs H Q _ => ∃ (a : Addr) (ns : List Int) (m : Nat), vs = [.ref a, .int (m : Int)] ∧ SqL K H a (ns.map V.int) ∧ ns.length ≤ 63 ∧ m ≤ 1000 ∧
  ∀ ds : List Int, Dr ds → ds.length ≤ m + 60 → RetL (ds.map V.int) H Q
def spDraw (K : PySem.W.Frag) : Sp := fun vs H Q _ => ∃ (a : Addr) (ds : List Int) (k : Nat), vs = [.ref a, .int (k : Int)] ∧ SqL K H a (ds.map V.int) ∧ RetV (.int (drw ds k)) H Q
theorem spDraw_v {K : PySem.W.Frag} {H : Hp} {a : Addr} {ds : List Int} {j : Int} {k : Nat} (h : SqL K H a (ds.map V.int)) (e : j = (k : Int)) : SpV (spDraw K) [.ref a, .int j] H (.int (drw ds k)) := fun H1 e1 Q q E =>
  ⟨a, ds, k, by rw [e], ex_l e1 h, fun H2 e2 => q H2 e2⟩
def drI (ds : List Int) (j : Int) : Int := drw ds j.toNat
theorem drI_ok {ds : List Int} (h : Dr ds) (j : Int) : 0 ≤ drI ds j ∧ drI ds j < 5040 := drw_ok h _
theorem spDrawI {K : PySem.W.Frag} {H : Hp} {a : Addr} {ds : List Int} {j : Int} (h : SqL K H a (ds.map V.int)) (e : 0 ≤ j) : SpV (spDraw K) [.ref a, .int j] H (.int (drI ds j)) := spDraw_v h (by omega)
theorem q_stream {K : PySem.W.Frag} {σ : L2.St} {H : Hp} {D : Ends} {tz : TS} {E : XK} {i : Nat} {a : Addr} {ns : List Int} {m : Int} (h0 : σ[0]? = some (some (.ref a))) (hS : SqL K H a (ns.map V.int)) (hn : ns.length ≤ 63) (hm : 0 ≤ m ∧ m ≤ 1000)
    (k : ∀ (ds : List Int) (l : Addr) (H1 : Hp), Dr ds → (ds.length : Int) ≤ m + 60 → H l = none → Ex H H1 → H1 l = some (.lst (ds.map V.int)) → tz D (σ.set i (some (.ref l))) H1) :
    tSeq (tAsg (tCall (spStream K) [] E (tCons (tVar 0) (tCons (tC (.int m)) tNil))) (gName i)) tz D σ H :=
  ⟨.ref a, h0, a, ns, m.toNat, by rw [show ((m.toNat : Nat) : Int) = m by omega]; rfl, hS, hn, by omega, fun ds hD hl l H1 n e h => k ds l H1 hD (by omega) n e h⟩

/-! ### a def of the text, its place and how it is called; the law's own end -/
structure Df (K : PySem.W.Frag) (mg : Str → Option Value) (x : Str) (st : Stmt) (ps : List Str) (f : Addr) (fd : FuncData) : Prop where
  F : Fun K x x st f fd
  b : Binds K fd ps []
  g : mg x = some (.ref f)
theorem df_mk {K : PySem.W.Frag} {mg : Str → Option Value} {h : Heap} (X : K.In h) (G : h.Ns mainGlobals mg) {x : Str} {st : Stmt} {ps : List Str} {f : Addr} {oc : Value} {od an : Option Addr} {sl : Array (Option Value)} {kV dc pm cd ct : Value}
    (a : PySem.W.nsIn K mainGlobals x = some (some (.ref f))) (l : K.lookup f = some ⟨oc, od, .func (PySem.W.fnOf x x (defArgs st) (defBody st) (defScope st) .none kV dc pm an cd ct), sl⟩) (c : PySem.W.codeIn K cd x = true) (k : PySem.W.keepIn K (.ref f) = true)
    (hb : ∀ (kV doc pm : Value) (an : Option Addr) (cdv ct : Value) (us : List Value), us.length = ps.length → bindArgs (PySem.W.fnOf x x (defArgs st) (defBody st) (defScope st) .none kV doc pm an cdv ct) ⟨us, []⟩ = pure (ps.zip us)) :
    ∃ f fd, Df K mg x st ps f fd := ⟨_, _, fun_mk l c k, (fun_mk l c k).binds hb, PySem.W.mg_of X G a⟩
theorem law_mk {K : PySem.W.Frag} {mg : Str → Option Value} {h : Heap} (X : K.In h) (G : h.Ns mainGlobals mg) {st : Stmt} {fa f : Addr} {oc : Value} {od an : Option Addr} {sl : Array (Option Value)} {kV dc pm cd ct : Value} (hfa : mg "law" = some (.ref fa))
    (a : PySem.W.nsIn K mainGlobals "law" = some (some (.ref f))) (l : K.lookup f = some ⟨oc, od, .func (PySem.W.fnOf "law" "law" (defArgs st) (defBody st) (defScope st) .none kV dc pm an cd ct), sl⟩) (c : PySem.W.codeIn K cd "law" = true) (k : PySem.W.keepIn K (.ref f) = true)
    (hb : ∀ (kV doc pm : Value) (an : Option Addr) (cdv ct : Value) (s : Shared) (v : Value), BindsTo s (PySem.W.fnOf "law" "law" (defArgs st) (defBody st) (defScope st) .none kV doc pm an cdv ct) ⟨[v], []⟩ [("script", v)]) :
    ∃ fd, (∀ (s : Shared) (v : Value), BindsTo s fd ⟨[v], []⟩ [("script", v)]) ∧ Fun K "law" "law" st fa fd := by
  have e := hfa.symm.trans (PySem.W.mg_of X G a)
  cases e
  exact ⟨_, fun s v => hb kV dc pm an cd ct s v, fun_mk l c k⟩
def spLaw (K : PySem.W.Frag) : Sp := fun vs H Q _ => ∃ (a : Addr) (ns : List Int), vs = [.ref a] ∧ SqL K H a (ns.map V.int) ∧ ns.length ≤ 63 ∧ ∀ H', Q (.bl true) H'
end Ap

set_option Elab.async false
set_option linter.all false
set_option maxRecDepth 100000
namespace Ap
open PySem PySem.Spec PyProof.Rows L2 Evl

/-! ### data: what a value stands for, whatever grows around it -/
section
variable {K : PySem.W.Frag} {H H' : Hp}
mutual
theorem dp_mono (e : Ex H H') : ∀ (d : PyData) (v : V), Dp K H v d → Dp K H' v d
  | .none, _, h => by cases h; exact .non
  | .bool b, _, h => by cases h; exact .bl b
  | .int i, _, h => by cases h; exact .int i
  | .str x, _, h => by cases h; exact .str x
  | .list ds, _, h => by
    cases h with
    | lst hs ha => exact .lst (ex_l e hs) (dpa_mono e ds _ ha)
  | .tuple ds, _, h => by
    cases h with
    | tup hs ha => exact .tup (ex_t e hs) (dpa_mono e ds _ ha)
  | .dict _, _, h => by cases h
theorem dpa_mono (e : Ex H H') : ∀ (ds : List PyData) (vs : List V), DpAll K H vs ds → DpAll K H' vs ds
  | [], _, h => by cases h; exact .nil
  | d :: ds, _, h => by
    cases h with
    | cons h1 h2 => exact .cons (dp_mono e d _ h1) (dpa_mono e ds _ h2)
end
theorem dpa_len : ∀ {vs : List V} {ds : List PyData}, DpAll K H vs ds → vs.length = ds.length
  | _, _, .nil => rfl
  | _, _, .cons _ h => by rw [List.length_cons, List.length_cons, dpa_len h]
theorem dpa_at : ∀ {vs : List V} {ds : List PyData} {i : Nat} {d : PyData}, DpAll K H vs ds → ds[i]? = some d → ∃ v, vs[i]? = some v ∧ Dp K H v d
  | _, _, i, d, .nil, h => by simp at h
  | _, _, 0, d, .cons h1 _, h => ⟨_, rfl, by
    have e := Option.some.inj (show some _ = some d from h)
    rw [← e]
    exact h1⟩
  | _, _, i + 1, d, .cons _ h2, h => by
    obtain ⟨v, e, q⟩ := dpa_at (i := i) h2 (by simpa using h)
    exact ⟨v, by simpa using e, q⟩
theorem dpa_atV : ∀ {vs : List V} {ds : List PyData} {i : Nat} {v : V}, DpAll K H vs ds → vs[i]? = some v → ∃ d, ds[i]? = some d ∧ Dp K H v d
  | _, _, i, v, .nil, h => by simp at h
  | _, _, 0, v, .cons h1 _, h => ⟨_, rfl, by
    have e := Option.some.inj (show some _ = some v from h)
    rw [← e]
    exact h1⟩
  | _, _, i + 1, v, .cons _ h2, h => by
    obtain ⟨d, e, q⟩ := dpa_atV (i := i) h2 (by simpa using h)
    exact ⟨d, by simpa using e, q⟩
theorem dpa_app : ∀ {vs ws : List V} {ds es : List PyData}, DpAll K H vs ds → DpAll K H ws es → DpAll K H (vs ++ ws) (ds ++ es)
  | _, _, _, _, .nil, h => h
  | _, _, _, _, .cons h1 h2, h => .cons h1 (dpa_app h2 h)
theorem dpa_one {v : V} {d : PyData} (h : Dp K H v d) : DpAll K H [v] [d] := .cons h .nil
theorem dpa_drop : ∀ {vs : List V} {ds : List PyData} (n : Nat), DpAll K H vs ds → DpAll K H (vs.drop n) (ds.drop n)
  | _, _, 0, h => h
  | _, _, n + 1, .nil => .nil
  | _, _, n + 1, .cons _ h2 => dpa_drop n h2
theorem dpa_take : ∀ {vs : List V} {ds : List PyData} (n : Nat), DpAll K H vs ds → DpAll K H (vs.take n) (ds.take n)
  | _, _, 0, _ => .nil
  | _, _, n + 1, .nil => .nil
  | _, _, n + 1, .cons h1 h2 => .cons h1 (dpa_take n h2)
theorem dpa_ints : ∀ (ns : List Int), DpAll K H (ns.map V.int) (ns.map PyData.int)
  | [] => .nil
  | n :: r => .cons (.int n) (dpa_ints r)
end

/-! ### data that == reads to its end: no dict, so deep at most -/
mutual
theorem eqv_self : ∀ d : PyData, d.canLay0 = true → PyData.eqv d d = true
  | .none, _ => by simp [PyData.eqv]
  | .bool b, _ => by simp [PyData.eqv]
  | .int i, _ => by simp [PyData.eqv]
  | .str x, _ => by simp [PyData.eqv]
  | .list ds, h => by
    show PyData.eqvAll ds ds = true
    exact eqvAll_self ds (by simpa [PyData.canLay0] using h)
  | .tuple ds, h => by
    show PyData.eqvAll ds ds = true
    exact eqvAll_self ds (by simpa [PyData.canLay0] using h)
  | .dict _, h => by simp [PyData.canLay0] at h
theorem eqvAll_self : ∀ ds : List PyData, PyData.canLayAll0 ds = true → PyData.eqvAll ds ds = true
  | [], _ => by simp [PyData.eqvAll]
  | d :: ds, h => by
    have h' : d.canLay0 = true ∧ PyData.canLayAll0 ds = true := by simpa [PyData.canLayAll0] using h
    simp [PyData.eqvAll, eqv_self d h'.1, eqvAll_self ds h'.2]
end
/-- no dict within, no text out of range, at most n deep -/
def Sd (n : Nat) (d : PyData) : Prop := d.canLay0 = true ∧ d.depth ≤ n
def Sds (n : Nat) (ds : List PyData) : Prop := ∀ d ∈ ds, Sd n d
theorem sds_lay : ∀ {n : Nat} {ds : List PyData}, Sds n ds → PyData.canLayAll0 ds = true ∧ PyData.depthAll ds ≤ n
  | _, [], _ => ⟨by simp [PyData.canLayAll0], by simp [PyData.depthAll]⟩
  | n, d :: ds, h => by
    have h1 := h d List.mem_cons_self
    have h2 := sds_lay (fun e he => h e (List.mem_cons_of_mem _ he))
    exact ⟨by simp [PyData.canLayAll0, h1.1, h2.1], by have := h1.2; have := h2.2; simp only [PyData.depthAll]; omega⟩
theorem sd_tuple {n : Nat} {ds : List PyData} (h : Sds n ds) : Sd (n + 1) (.tuple ds) := ⟨by simp [PyData.canLay0, (sds_lay h).1], by have := (sds_lay h).2; simp only [PyData.depth]; omega⟩
theorem sd_list {n : Nat} {ds : List PyData} (h : Sds n ds) : Sd (n + 1) (.list ds) := ⟨by simp [PyData.canLay0, (sds_lay h).1], by have := (sds_lay h).2; simp only [PyData.depth]; omega⟩
theorem sd_int {n : Nat} {i : Int} : Sd n (.int i) := ⟨by simp [PyData.canLay0], by simp [PyData.depth]⟩
theorem sd_bool {n : Nat} {b : Bool} : Sd n (.bool b) := ⟨by simp [PyData.canLay0], by simp [PyData.depth]⟩
theorem sd_none {n : Nat} : Sd n .none := ⟨by simp [PyData.canLay0], by simp [PyData.depth]⟩
theorem sd_str {n : Nat} {x : Str} (h : PyData.strOk x = true) : Sd n (.str x) := ⟨by simp [PyData.canLay0, h], by simp [PyData.depth]⟩
theorem Sd.up {n m : Nat} {d : PyData} (h : Sd n d) (l : n ≤ m) : Sd m d := ⟨h.1, Nat.le_trans h.2 l⟩
theorem sds_nil {n : Nat} : Sds n [] := fun _ h => nomatch h
theorem sds_cons {n : Nat} {d : PyData} {ds : List PyData} (h : Sd n d) (hs : Sds n ds) : Sds n (d :: ds) := fun e he => by
  rcases List.mem_cons.mp he with q | q
  · rw [q]; exact h
  · exact hs e q
theorem sds_app {n : Nat} {ds es : List PyData} (h : Sds n ds) (hs : Sds n es) : Sds n (ds ++ es) := fun e he => by
  rcases List.mem_append.mp he with q | q
  · exact h e q
  · exact hs e q
theorem Sds.drop {n : Nat} {ds : List PyData} (h : Sds n ds) (k : Nat) : Sds n (ds.drop k) := fun e he => h e (List.mem_of_mem_drop he)
theorem Sds.take {n : Nat} {ds : List PyData} (h : Sds n ds) (k : Nat) : Sds n (ds.take k) := fun e he => h e (List.mem_of_mem_take he)
theorem Sd.shaped {d : PyData} {n : Nat} (h : Sd n d) (l : n ≤ 64) : SeqAt.shaped d = true := by
  unfold SeqAt.shaped
  rw [h.1, decide_eq_true (Nat.le_trans h.2 l)]
  rfl
theorem Sd.self {d : PyData} {n : Nat} (h : Sd n d) : PyData.eqv d d = true := eqv_self d h.1

/-! ### the part of a heap that a base and what is new since a point make -/
def ov (H H1 H2 : Hp) : Hp := fun a => match H a with
  | some o => some o
  | none => match H1 a with
    | some _ => none
    | none => H2 a
theorem ov_ex {H H1 H2 : Hp} (e : Ex H H1) (e2 : Ex H1 H2) : Ex (ov H H1 H2) H2 := fun a o h => by
  unfold ov at h
  cases h0 : H a with
  | some o' =>
    rw [h0] at h
    rw [← h]
    exact e2 a o' (e a o' h0)
  | none =>
    rw [h0] at h
    cases h1 : H1 a with
    | some o' => rw [h1] at h; cases h
    | none => rw [h1] at h; exact h
theorem ov_base {H H1 H2 : Hp} : Ex H (ov H H1 H2) := fun a o h => by
  unfold ov
  rw [h]
theorem ov_none {H H1 H2 : Hp} {a : Addr} {o : HO} (h : H a = none) (h1 : H1 a = some o) : ov H H1 H2 a = none := by
  unfold ov
  rw [h, h1]
theorem ov_grow {H H1 H2 H3 : Hp} (e2 : Ex H2 H3) : Ex (ov H H1 H2) (ov H H1 H3) := fun a o h => by
  unfold ov at h ⊢
  cases h0 : H a with
  | some o' => rw [h0] at h; exact h
  | none =>
    rw [h0] at h
    cases h1 : H1 a with
    | some o' => rw [h1] at h; cases h
    | none =>
      rw [h1] at h
      exact e2 a o h
theorem ov_later {H H1 H2 H3 : Hp} (e1 : Ex H1 H2) : Ex (ov H H2 H3) (ov H H1 H3) := fun a o h => by
  unfold ov at h ⊢
  cases h0 : H a with
  | some o' => rw [h0] at h; exact h
  | none =>
    rw [h0] at h
    cases h2 : H2 a with
    | some o' => rw [h2] at h; cases h
    | none =>
      rw [h2] at h
      have h1 : H1 a = none := fresh_back e1 h2
      rw [h1]
      exact h
theorem ov_new {H H1 H2 : Hp} {p : Addr} (e : Ex H H1) (e2 : Ex H1 H2) (hp : H2 p = none) {u : HO} : ov H H1 (upd H2 p u) p = some u := by
  have h1 : H1 p = none := fresh_back e2 hp
  have h0 : H p = none := fresh_back e h1
  unfold ov
  rw [h0, h1]
  exact upd_same

/-! ### what evaluates to data -/
def EvD (K : PySem.W.Frag) (te : TE) (σ : L2.St) (H : Hp) (d : PyData) : Prop := ∀ H1, Ex H H1 → ∀ Q : VK, (∀ v H2, Ex H1 H2 → Dp K (ov H H1 H2) v d → Q v H2) → te σ H1 Q
def EvDs (K : PySem.W.Frag) (ta : TA) (σ : L2.St) (H : Hp) (ds : List PyData) : Prop := ∀ H1, Ex H H1 → ∀ Q : List V → Hp → Prop, (∀ vs H2, Ex H1 H2 → DpAll K (ov H H1 H2) vs ds → Q vs H2) → ta σ H1 Q
/-- a new list of data -/
def EvN (K : PySem.W.Frag) (te : TE) (σ : L2.St) (H : Hp) (ds : List PyData) : Prop := ∀ H1, Ex H H1 → ∀ Q : VK, (∀ p xs H2, H1 p = none → Ex H1 H2 → H2 p = some (.lst xs) → DpAll K (ov H H1 H2) xs ds → Q (.ref p) H2) → te σ H1 Q
section
variable {K : PySem.W.Frag} {σ : L2.St} {H H' : Hp} {ta tb tc te : TE} {t u : TT} {x y z v w : V} {d e : PyData} {ds es : List PyData} {r : R2}
theorem ed_of (h : Ev te σ H v) (hd : Dp K H v d) : EvD K te σ H d := fun H1 e Q q => h H1 e Q fun H2 e2 => q v H2 e2 (dp_mono ov_base d v hd)
theorem ed_var {i : Nat} (h : σ[i]? = some (some v)) (hd : Dp K H v d) : EvD K (tVar i) σ H d := ed_of (ev_var h) hd
theorem ed_int {i : Int} (h : Ev te σ H (.int i)) : EvD K te σ H (.int i) := ed_of h (.int i)
theorem ed_str {s : Str} : EvD K (tC (.str s)) σ H (.str s) := ed_of ev_c (.str s)
theorem ed_bool {b : Bool} (h : Ev te σ H (.bl b)) : EvD K te σ H (.bool b) := ed_of h (.bl b)
theorem ed_non : EvD K (tC .non) σ H .none := ed_of ev_c .non
theorem ed_is (h : EvD K te σ H d) (q : d = e) : EvD K te σ H e := q ▸ h
theorem EvD.mono (e : Ex H H') (h : EvD K te σ H d) : EvD K te σ H' d := fun H1 a Q q => h H1 (e.trans a) Q fun v H2 e2 hd => q v H2 e2 (dp_mono (fun b o hb => by
  unfold ov at hb ⊢
  cases h0 : H b with
  | some o' => rw [h0] at hb; rw [e b o' h0]; exact hb
  | none =>
    rw [h0] at hb
    cases h1 : H1 b with
    | some o' => rw [h1] at hb; cases hb
    | none =>
      rw [h1] at hb
      rw [fresh_back a h1]
      exact hb) d v hd)
theorem eds_nil : EvDs K tNil σ H [] := fun H1 _ _ q => q [] H1 (Ex.refl H1) .nil
theorem eds_cons {tr : TA} (h : EvD K te σ H d) (hr : EvDs K tr σ H ds) : EvDs K (tCons te tr) σ H (d :: ds) := fun H1 e Q q =>
  h H1 e _ fun v H2 e2 hv => hr H2 (e.trans e2) _ fun vs H3 e3 hs => q _ H3 (e2.trans e3) (.cons (dp_mono (ov_grow e3) d v hv) (dpa_mono (ov_later e2) ds vs hs))
theorem ed_tup {ta : TA} (h : EvDs K ta σ H ds) (hl : ds.length ≤ 100000) : EvD K (tTup ta) σ H (.tuple ds) := fun H1 e Q q =>
  h H1 e _ fun vs H2 e2 hs => ⟨by rw [dpa_len hs]; exact sz_of hl, fun p hp => q _ _ (e2.trans (Ex.new hp)) (.tup (st_of (ov_new e e2 hp)) (dpa_mono (ov_grow (Ex.new hp)) ds vs hs))⟩
theorem en_lst {ta : TA} (h : EvDs K ta σ H ds) (hl : ds.length ≤ 100000) : EvN K (tLst ta) σ H ds := fun H1 e Q q =>
  h H1 e _ fun vs H2 e2 hs => ⟨by rw [dpa_len hs]; exact sz_of hl, fun p hp => q p vs _ (fresh_back e2 hp) (e2.trans (Ex.new hp)) upd_same (dpa_mono (ov_grow (Ex.new hp)) ds vs hs)⟩
theorem ed_new (h : EvN K te σ H ds) : EvD K te σ H (.list ds) := fun H1 e Q q => h H1 e _ fun p xs H2 np e2 hp hs => q _ H2 e2 (.lst (sq_of (by
  have h1 := fresh_back e np
  unfold ov
  rw [h1, np]
  exact hp)) hs)
theorem atI_len {α β : Type} {xs : List α} {ys : List β} (h : xs.length = ys.length) {i : Int} {y : β} (hy : atI ys i = some y) : ∃ j : Nat, ys[j]? = some y ∧ ∀ x, xs[j]? = some x → atI xs i = some x := by
  unfold atI at hy ⊢
  cases e : ixN ys.length i with
  | none => rw [e] at hy; cases hy
  | some j =>
    rw [e] at hy
    refine ⟨j, hy, fun x hx => ?_⟩
    rw [h, e]
    exact hx
theorem ed_ixT {i : Int} (ha : EvD K ta σ H (.tuple ds)) (hb : Ev tb σ H (.int i)) (h : atI ds i = some d) : EvD K (tOp (rIxT K) ta tb) σ H d := fun H1 e Q q =>
  ha H1 e _ fun v H2 e2 hv => hb H2 (e.trans e2) _ fun H3 e3 => by
    cases hv with
    | tup hs hd =>
      obtain ⟨j, hj, hx⟩ := atI_len (dpa_len hd) h
      obtain ⟨x, ex, dx⟩ := dpa_at hd hj
      exact ⟨_, _, i, x, rfl, rfl, ex_t ((ov_ex e e2).trans e3) hs, hx x ex, q x H3 (e2.trans e3) (dp_mono (ov_grow e3) d x dx)⟩
theorem ed_ixL {i : Int} (ha : EvD K ta σ H (.list ds)) (hb : Ev tb σ H (.int i)) (h : atI ds i = some d) : EvD K (tOp (rIxL K) ta tb) σ H d := fun H1 e Q q =>
  ha H1 e _ fun v H2 e2 hv => hb H2 (e.trans e2) _ fun H3 e3 => by
    cases hv with
    | lst hs hd =>
      obtain ⟨j, hj, hx⟩ := atI_len (dpa_len hd) h
      obtain ⟨x, ex, dx⟩ := dpa_at hd hj
      exact ⟨_, _, i, x, rfl, rfl, ex_l ((ov_ex e e2).trans e3) hs, hx x ex, q x H3 (e2.trans e3) (dp_mono (ov_grow e3) d x dx)⟩
/-- the same part of two lists of one length -/
def cutA {α : Type} (xs : List α) (lo hi : Option Int) : List α := (xs.drop (HT.sIx xs.length 0 lo)).take (HT.sIx xs.length xs.length hi - HT.sIx xs.length 0 lo)
theorem dpa_cut {vs : List V} {lo hi : Option Int} (h : DpAll K H vs ds) : DpAll K H (cutV vs lo hi) (cutA ds lo hi) := by
  unfold cutV cutA
  rw [dpa_len h]
  exact dpa_take _ (dpa_drop _ h)
theorem ed_slT {tl th : TO} {lo hi : Option Int} (h : EvD K te σ H (.tuple ds)) (h1 : EvO tl σ H lo) (h2 : EvO th σ H hi) : EvD K (tSl (rSlA K) te tl th) σ H (.tuple (cutA ds lo hi)) := fun H1 e Q q =>
  h H1 e _ fun v H2 e2 hv => h1 H2 (e.trans e2) _ fun H3 e3 => h2 H3 ((e.trans e2).trans e3) _ fun H4 e4 => by
    have e24 := e2.trans (e3.trans e4)
    cases hv with
    | @tup a xs _ hs hd =>
      refine ⟨a, xs, rfl, ex_t ((ov_ex e e2).trans (e3.trans e4)) hs, fun hw => q _ H4 e24 (.tup (ex_t (ov_grow (e3.trans e4)) hs) ?_), fun _ p hp => q _ _ (e24.trans (Ex.new hp)) (.tup (st_of (ov_new e e24 hp)) (dpa_cut (dpa_mono (ov_grow ((e3.trans e4).trans (Ex.new hp))) ds xs hd)))⟩
      have ec : cutA ds lo hi = ds := by
        unfold cutA
        rw [← dpa_len hd, hw.1, hw.2, List.drop_zero, Nat.sub_zero, dpa_len hd, List.take_length]
      rw [ec]
      exact dpa_mono (ov_grow (e3.trans e4)) ds xs hd
theorem en_slL {tl th : TO} {lo hi : Option Int} (h : EvD K te σ H (.list ds)) (h1 : EvO tl σ H lo) (h2 : EvO th σ H hi) : EvN K (tSl (rSlL K) te tl th) σ H (cutA ds lo hi) := fun H1 e Q q =>
  h H1 e _ fun v H2 e2 hv => h1 H2 (e.trans e2) _ fun H3 e3 => h2 H3 ((e.trans e2).trans e3) _ fun H4 e4 => by
    have e24 := e2.trans (e3.trans e4)
    cases hv with
    | @lst a xs _ hs hd =>
      exact ⟨a, xs, rfl, ex_l ((ov_ex e e2).trans (e3.trans e4)) hs, fun p hp => q p _ _ (fresh_back e24 hp) (e24.trans (Ex.new hp)) upd_same (dpa_cut (dpa_mono (ov_grow ((e3.trans e4).trans (Ex.new hp))) ds xs hd))⟩
theorem ed_catT (ha : EvD K ta σ H (.tuple ds)) (hb : EvD K tb σ H (.tuple es)) (hl : ds.length + es.length ≤ 100000) : EvD K (tOp (rCatA K) ta tb) σ H (.tuple (ds ++ es)) := fun H1 e Q q =>
  ha H1 e _ fun v H2 e2 hv => hb H2 (e.trans e2) _ fun w H3 e3 hw => by
    have e13 := e2.trans e3
    cases hv with
    | @tup a xs _ hs hd =>
      cases hw with
      | @tup b ys _ ht he =>
        have hs3 := ex_t ((ov_ex e e2).trans e3) hs
        have ht3 := ex_t (ov_ex (e.trans e2) e3) ht
        have hd3 := dpa_mono (ov_grow e3) ds xs hd
        have he3 := dpa_mono (ov_later e2) es ys he
        have ld := dpa_len hd
        have le := dpa_len he
        refine ⟨a, b, xs, ys, rfl, rfl, hs3, ht3, sz_of (by omega), fun h0 => ?_, fun _ h0 => ?_, fun _ _ p hp => q _ _ (e13.trans (Ex.new hp)) (.tup (st_of (ov_new e e13 hp)) (dpa_app (dpa_mono (ov_grow (Ex.new hp)) ds xs hd3) (dpa_mono (ov_grow (Ex.new hp)) es ys he3)))⟩
        · have z : ds = [] := List.eq_nil_of_length_eq_zero (by rw [← ld, h0]; rfl)
          subst z
          exact q _ _ e13 (.tup (ex_t (ov_later e2) ht) he3)
        · have z : es = [] := List.eq_nil_of_length_eq_zero (by rw [← le, h0]; rfl)
          subst z
          exact q _ _ e13 (.tup (ex_t (ov_grow e3) hs) (by rw [List.append_nil]; exact hd3))
theorem en_cat (ha : EvN K ta σ H ds) (hb : EvN K tb σ H es) (hl : ds.length + es.length ≤ 100000) : EvN K (tOp rCat ta tb) σ H (ds ++ es) := fun H1 e Q q =>
  ha H1 e _ fun p xs H2 np e2 hp hs => hb H2 (e.trans e2) _ fun p' ys H3 np' e3 hp' ht =>
    ⟨p, p', xs, ys, rfl, rfl, e3 _ _ hp, hp', by rw [dpa_len hs, dpa_len ht]; exact sz_of hl, fun o ho => q o _ _ (fresh_back (e2.trans e3) ho) ((e2.trans e3).trans (Ex.new ho)) upd_same
      (dpa_app (dpa_mono (ov_grow (e3.trans (Ex.new ho))) ds xs hs) (dpa_mono ((ov_later e2).trans (ov_grow (Ex.new ho))) es ys ht))⟩
/-- a list that stands in the base, by its items -/
theorem en_tup {a : Addr} {xs : List V} (ha : Ev ta σ H (.ref a)) (hs : SqL K H a xs) (hd : DpAll K H xs ds) : EvD K (tThen ta (kTup K)) σ H (.tuple ds) := fun H1 e Q q =>
  ha H1 e _ fun H2 e2 => .inl ⟨a, xs, rfl, ex_l (e.trans e2) hs, fun p hp => q _ _ (e2.trans (Ex.new hp)) (.tup (st_of (ov_new e e2 hp)) (dpa_mono ov_base ds xs hd))⟩
theorem ed_tupOf (ha : EvD K ta σ H (.list ds)) : EvD K (tThen ta (kTup K)) σ H (.tuple ds) := fun H1 e Q q =>
  ha H1 e _ fun v H2 e2 hv => by
    cases hv with
    | @lst a xs _ hs hd => exact .inl ⟨a, xs, rfl, ex_l (ov_ex e e2) hs, fun p hp => q _ _ (e2.trans (Ex.new hp)) (.tup (st_of (ov_new e e2 hp)) (dpa_mono (ov_grow (Ex.new hp)) ds xs hd))⟩
theorem ev_eqD {n m : Nat} (ha : EvD K ta σ H d) (hb : EvD K tb σ H e) (sd : Sd n d) (se : Sd m e) (hn : n ≤ 64) (hm : m ≤ 64) : Ev (tOp (rEqD K) ta tb) σ H (.bl (PyData.eqv d e)) := fun H1 a Q q =>
  ha H1 a _ fun v H2 e2 hv => hb H2 (a.trans e2) _ fun w H3 e3 hw => ⟨d, e, dp_mono ((ov_ex a e2).trans e3) d v hv, dp_mono (ov_ex (a.trans e2) e3) e w hw, sd.shaped hn, se.shaped hm, q H3 (e2.trans e3)⟩
theorem ev_neD {n m : Nat} (ha : EvD K ta σ H d) (hb : EvD K tb σ H e) (sd : Sd n d) (se : Sd m e) (hn : n ≤ 64) (hm : m ≤ 64) : Ev (tOp (rNeD K) ta tb) σ H (.bl (!PyData.eqv d e)) := fun H1 a Q q =>
  ha H1 a _ fun v H2 e2 hv => hb H2 (a.trans e2) _ fun w H3 e3 hw => ⟨d, e, dp_mono ((ov_ex a e2).trans e3) d v hv, dp_mono (ov_ex (a.trans e2) e3) e w hw, sd.shaped hn, se.shaped hm, q H3 (e2.trans e3)⟩
/-- the two sides are one: != is False -/
theorem ev_neSelf {n : Nat} (ha : EvD K ta σ H d) (hb : EvD K tb σ H d) (sd : Sd n d) (hn : n ≤ 64) : Ev (tOp (rNeD K) ta tb) σ H (.bl false) := ev_is (ev_neD ha hb sd sd hn hn) (by rw [sd.self]; rfl)
theorem ev_eqSelf {n : Nat} (ha : EvD K ta σ H d) (hb : EvD K tb σ H d) (sd : Sd n d) (hn : n ≤ 64) : Ev (tOp (rEqD K) ta tb) σ H (.bl true) := ev_is (ev_eqD ha hb sd sd hn hn) (by rw [sd.self])
theorem ev_lenD (ha : EvD K ta σ H (.list ds)) : Ev (tCB (fun xs H Q => ∃ p ys, xs = [.ref p] ∧ (SqL K H p ys ∨ SqT K H p ys) ∧ Q (.int ys.length) H) (tCons ta tNil)) σ H (.int (ds.length : Int)) := fun H1 e Q q =>
  ha H1 e _ fun v H2 e2 hv => by
    cases hv with
    | @lst a xs _ hs hd => exact ⟨a, xs, rfl, .inl (ex_l (ov_ex e e2) hs), by rw [dpa_len hd]; exact q H2 e2⟩
theorem ev_lenDT (ha : EvD K ta σ H (.tuple ds)) : Ev (tCB (fun xs H Q => ∃ p ys, xs = [.ref p] ∧ (SqL K H p ys ∨ SqT K H p ys) ∧ Q (.int ys.length) H) (tCons ta tNil)) σ H (.int (ds.length : Int)) := fun H1 e Q q =>
  ha H1 e _ fun v H2 e2 hv => by
    cases hv with
    | @tup a xs _ hs hd => exact ⟨a, xs, rfl, .inr (ex_t (ov_ex e e2) hs), by rw [dpa_len hd]; exact q H2 e2⟩
theorem ed_if {b : Bool} (h : EvT t σ H b) (h1 : b = true → EvD K ta σ H d) (h2 : b = false → EvD K tb σ H d) : EvD K (tIf t ta tb) σ H d := fun H1 e Q q => h H1 e _ fun H2 e2 => by
  cases b with
  | true =>
    show ta σ H2 Q
    exact h1 rfl H2 (e.trans e2) Q fun v H3 e3 hv => q v H3 (e2.trans e3) (dp_mono (ov_later e2) d v hv)
  | false =>
    show tb σ H2 Q
    exact h2 rfl H2 (e.trans e2) Q fun v H3 e3 hv => q v H3 (e2.trans e3) (dp_mono (ov_later e2) d v hv)
/-- a promise that gives data, over a base that the caller names -/
def RetD (K : PySem.W.Frag) (B : Hp) (d : PyData) (H : Hp) (Q : VK) : Prop := ∀ v H2, Ex H H2 → Dp K (ov B H H2) v d → Q v H2
theorem ov_ov {B H H1 H2 : Hp} (e : Ex B H) (e1 : Ex H H1) (e2 : Ex H1 H2) : Ex (ov (ov B H H1) H1 H2) (ov B H H2) := fun a o h => by
  unfold ov at h ⊢
  cases h0 : B a with
  | some o' =>
    rw [h0] at h
    exact h
  | none =>
    rw [h0] at h
    cases h1 : H a with
    | some o' =>
      rw [h1, e1 a o' h1] at h
      cases h
    | none =>
      rw [h1] at h
      cases h3 : H1 a with
      | some o' =>
        rw [h3] at h
        rw [← h]
        exact e2 a o' h3
      | none =>
        rw [h3] at h
        exact h
def SpD (K : PySem.W.Frag) (sp : Sp) (vs : List V) (H : Hp) (d : PyData) : Prop := ∀ H1, Ex H H1 → ∀ Q : VK, (∀ v H2, Ex H1 H2 → Dp K (ov H H1 H2) v d → Q v H2) → ∀ E : XK, sp vs H1 Q E
theorem ed_call {sp : Sp} {dvs vs : List V} {E : XK} {ta : TA} (h : EvA ta σ H vs) (hs : SpD K sp (vs ++ dvs) H d) : EvD K (tCall sp dvs E ta) σ H d := fun H1 e Q q =>
  h H1 e _ fun H2 e2 => hs H2 (e.trans e2) Q (fun v H3 e3 hv => q v H3 (e2.trans e3) (dp_mono (ov_later e2) d v hv)) E
/-! ### statements -/
variable {D : Ends} {tz : TS} {i : Nat}
theorem dp_all {H2 : Hp} {v : V} {d : PyData} (e : Ex H H2) (h : Dp K (ov H H H2) v d) : Dp K H2 v d := dp_mono (ov_ex (Ex.refl H) e) d v h
theorem q_asgD (h : EvD K te σ H d) (k : ∀ v H1, Ex H H1 → Dp K H1 v d → tz D (σ.set i (some v)) H1) : tSeq (tAsg te (gName i)) tz D σ H := h H (Ex.refl H) _ fun v H1 e hv => k v H1 e (dp_mono (ov_ex (Ex.refl H) e) d v hv)
theorem s_asgD (h : EvD K te σ H d) (k : ∀ v H1, Ex H H1 → Dp K H1 v d → D.nx (σ.set i (some v)) H1) : tAsg te (gName i) D σ H := h H (Ex.refl H) _ fun v H1 e hv => k v H1 e (dp_mono (ov_ex (Ex.refl H) e) d v hv)
theorem q_asgN (h : EvN K te σ H ds) (k : ∀ p xs H1, H p = none → Ex H H1 → H1 p = some (.lst xs) → DpAll K H1 xs ds → tz D (σ.set i (some (.ref p))) H1) : tSeq (tAsg te (gName i)) tz D σ H :=
  h H (Ex.refl H) _ fun p xs H1 np e hp hs => k p xs H1 np e hp (dpa_mono (ov_ex (Ex.refl H) e) ds xs hs)
theorem q_asgDB {B : Hp} (eB : Ex B H) (h : EvD K te σ B d) (k : ∀ v H1, Ex H H1 → Dp K (ov B H H1) v d → tz D (σ.set i (some v)) H1) : tSeq (tAsg te (gName i)) tz D σ H := h H eB _ fun v H1 e hv => k v H1 e hv
theorem s_retDB {B : Hp} (eB : Ex B H) (h : EvD K te σ B d) (k : ∀ v H1, Ex H H1 → Dp K (ov B H H1) v d → D.rt v H1) : tRet te D σ H := h H eB _ k
theorem s_retD (h : EvD K te σ H d) (k : ∀ v H1, Ex H H1 → Dp K (ov H H H1) v d → D.rt v H1) : tRet te D σ H := h H (Ex.refl H) _ k
/-! ### a comprehension over a range, its items data -/
def givenD (n : Nat) (f : Nat → Bool) (g : Nat → PyData) : List PyData := ((List.range n).filter f).map g
theorem givenD_yes {n : Nat} {f : Nat → Bool} {g : Nat → PyData} (h : f n = true) : givenD (n + 1) f g = givenD n f g ++ [g n] := by
  unfold givenD
  rw [List.range_succ, List.filter_append, List.map_append, List.filter_cons, if_pos h]
  all_goals rfl
theorem givenD_no {n : Nat} {f : Nat → Bool} {g : Nat → PyData} (h : f n = false) : givenD (n + 1) f g = givenD n f g := by
  unfold givenD
  rw [List.range_succ, List.filter_append, List.map_append, List.filter_cons, if_neg (by rw [h]; decide)]
  show _ ++ [] = _
  rw [List.append_nil]
theorem givenD_len (n : Nat) (f : Nat → Bool) (g : Nat → PyData) : (givenD n f g).length ≤ n := by
  unfold givenD
  rw [List.length_map]
  have h := List.length_filter_le f (List.range n)
  rw [List.length_range] at h
  exact h
/-- the word of a comprehension over the base B, begun at H1: the items lean on the base and on what is new, not on the list itself -/
def CwD (K : PySem.W.Frag) (B H1 : Hp) (f : Nat → Bool) (g : Nat → PyData) (Dl : Addr) (i : Nat) (H' : Hp) : Prop := Ex B H' ∧ Ex H1 H' ∧ ∃ acc, H' Dl = some (.lst acc) ∧ DpAll K (ov B (upd H1 Dl (.lst [])) H') acc (givenD i f g)
theorem cwD_turn {B H1 H' : Hp} {f : Nat → Bool} {g : Nat → PyData} {Dl : Addr} {i : Nat} {σ2 : L2.St} (b1 : Ex B H1) (nD : H1 Dl = none) (p : CwD K B H1 f g Dl i H') (hi : i < 50000) (ht : EvT t σ2 B (f i)) (he : f i = true → EvD K te σ2 B (g i)) :
    t σ2 H' fun b H3 => if b = true then te σ2 H3 fun y H4 => ∃ acc, H4 Dl = some (.lst acc) ∧ acc.length < sizeLine ∧ CwD K B H1 f g Dl (i + 1) (upd H4 Dl (.lst (acc ++ [y]))) else CwD K B H1 f g Dl (i + 1) H3 := by
  obtain ⟨p1, p2, acc, p3, p4⟩ := p
  have nB : B Dl = none := fresh_back b1 nD
  refine ht H' p1 _ fun H3 e3 => ?_
  cases hf : f i with
  | true =>
    show te σ2 H3 fun y H4 => ∃ acc, H4 Dl = some (.lst acc) ∧ acc.length < sizeLine ∧ CwD K B H1 f g Dl (i + 1) (upd H4 Dl (.lst (acc ++ [y])))
    refine he hf H3 (p1.trans e3) _ fun y H4 e4 hy => ⟨acc, e4 Dl _ (e3 Dl _ p3), sz_lt (by rw [dpa_len p4]; have := givenD_len i f g; omega), Ex.mut ((p1.trans e3).trans e4) nB, Ex.mut ((p2.trans e3).trans e4) nD, _, upd_same, ?_⟩
    have k1 : Ex (ov B H3 H4) (ov B (upd H1 Dl (.lst [])) (upd H4 Dl (.lst (acc ++ [y])))) := fun a o ha => by
      unfold ov at ha ⊢
      cases h0 : B a with
      | some o' => rw [h0] at ha; exact ha
      | none =>
        rw [h0] at ha
        cases h3 : H3 a with
        | some o' => rw [h3] at ha; cases ha
        | none =>
          rw [h3] at ha
          have ne : a ≠ Dl := fun e => by
            rw [e, e3 Dl _ p3] at h3
            cases h3
          rw [upd_ne ne, fresh_back (p2.trans e3) h3]
          show upd H4 Dl _ a = some o
          rw [upd_ne ne]
          exact ha
    have k2 : Ex (ov B (upd H1 Dl (.lst [])) H') (ov B (upd H1 Dl (.lst [])) (upd H4 Dl (.lst (acc ++ [y])))) := fun a o ha => by
      unfold ov at ha ⊢
      cases h0 : B a with
      | some o' => rw [h0] at ha; exact ha
      | none =>
        rw [h0] at ha
        by_cases ne : a = Dl
        · rw [ne, upd_same] at ha
          cases ha
        · rw [upd_ne ne] at ha ⊢
          cases h1 : H1 a with
          | some o' => rw [h1] at ha; cases ha
          | none =>
            rw [h1] at ha
            show upd H4 Dl _ a = some o
            rw [upd_ne ne]
            exact e4 a o (e3 a o ha)
    rw [givenD_yes hf]
    exact dpa_app (dpa_mono k2 _ _ p4) (dpa_one (dp_mono k1 _ _ hy))
  | false =>
    show CwD K B H1 f g Dl (i + 1) H3
    refine ⟨p1.trans e3, p2.trans e3, acc, e3 Dl _ p3, ?_⟩
    rw [givenD_no hf]
    exact dpa_mono (ov_grow e3) _ _ p4
theorem cwD_start {B H1 : Hp} {f : Nat → Bool} {g : Nat → PyData} {Dl : Addr} (b1 : Ex B H1) (nD : H1 Dl = none) : CwD K B H1 f g Dl 0 (upd H1 Dl (.lst [])) := ⟨b1.trans (Ex.new nD), Ex.new nD, [], upd_same, .nil⟩
theorem cwD_end {B H1 H' : Hp} {f : Nat → Bool} {g : Nat → PyData} {Dl : Addr} {n : Nat} (p : CwD K B H1 f g Dl n H') : ∃ acc, H' Dl = some (.lst acc) ∧ DpAll K (ov B H1 H') acc (givenD n f g) := by
  obtain ⟨_, _, acc, p3, p4⟩ := p
  refine ⟨acc, p3, dpa_mono (fun a o ha => ?_) _ _ p4⟩
  unfold ov at ha ⊢
  cases h0 : B a with
  | some o' => rw [h0] at ha; exact ha
  | none =>
    rw [h0] at ha
    by_cases ne : a = Dl
    · rw [ne, upd_same] at ha
      cases ha
    · rw [upd_ne ne] at ha
      exact ha
theorem en_lcR1 {ta : TA} {j : Nat} {vs : List Nat} {n : Int} (f : Nat → Bool) (g : Nat → PyData) (h : EvA ta σ H [.int n]) (hn : 0 ≤ n ∧ n ≤ 40000) (hw : ∀ x, wipe ((wipe σ vs).set j (some x)) vs = wipe σ vs)
    (ht : ∀ i : Nat, (i : Int) < n → EvT t ((wipe σ vs).set j (some (.int (i : Int)))) H (f i)) (he : ∀ i : Nat, (i : Int) < n → f i = true → EvD K te ((wipe σ vs).set j (some (.int (i : Int)))) H (g i)) :
    EvN K (tLc (iRng1 ta) (gName j) t te vs) σ H (givenD n.toNat f g) := fun H0 e Q q => h H0 e _ fun H1 e1 => ⟨n, rfl, by omega, by omega, fun Dl hD =>
  lc_range (lo := 0) (n := n.toNat) (CwD K H H1 f g Dl) (cwD_start (e.trans e1) hD) (fun i H' hi p => by
    have e0 : (0 : Int) + (i : Int) = (i : Int) := Int.zero_add _
    show wipe ((wipe σ vs).set j (some (.int ((0 : Int) + (i : Int))))) vs = wipe σ vs ∧ t ((wipe σ vs).set j (some (.int ((0 : Int) + (i : Int))))) H' fun b H3 => if b = true then te ((wipe σ vs).set j (some (.int ((0 : Int) + (i : Int))))) H3 fun y H4 => ∃ acc, H4 Dl = some (.lst acc) ∧ acc.length < sizeLine ∧ CwD K H H1 f g Dl (i + 1) (upd H4 Dl (.lst (acc ++ [y]))) else CwD K H H1 f g Dl (i + 1) H3
    rw [e0]
    exact ⟨hw _, cwD_turn (e.trans e1) hD p (by omega) (ht i (by omega)) (fun hf => he i (by omega) hf)⟩) (fun H' p => by
      obtain ⟨acc, h1, h2⟩ := cwD_end p
      exact q Dl acc H' (fresh_back e1 hD) (e1.trans p.2.1) h1 (dpa_mono (ov_later e1) _ _ h2))⟩
theorem et_nil : EvT tYes σ H true := fun H1 _ _ q => q H1 (Ex.refl H1)
end
end Ap

set_option Elab.async false
set_option linter.all false
set_option maxRecDepth 100000
namespace Ap
open PySem PySem.Spec PyProof.Rows L2 Evl
/-! ### a method that may raise, called where the wish hangs on the slots -/
def tMX (C : Addr) (m : Str) (sp : Sp) (E : L2.St → XK) (ta : TE) (t : TA) : TE := fun σ H Q => ta σ H fun x G => ∃ a dx fs, x = .ref a ∧ G a = some (.ins C dx fs) ∧ fs.lookup m = none ∧ t σ G fun vs G2 => sp (x :: vs) G2 Q (E σ)
theorem pe_mx {X : Cx} {CX : CXT} {k : Nat} {f C : Addr} {fd : FuncData} {ps : List Str} {sp : Sp} {E : L2.St → XK} {m : Str} {pos apos : Pos} {e o : Expr} {es : List Expr} {ta : TE} {t : TA} {pl : Sem Bool}
    (he : PE X o ta) (c : Cls X.K C) (hm : Meth X.K C m f) (F : FnOk X.prog X.w X.K X.mg X.base CX k f fd ps sp) (hr : Room k X.A) (hb : Binds X.K fd ps []) (hx : ∀ σ, PassesAt CX X σ (E σ)) (ha : PA X (e :: es) t)
    (z1 : starEach (e :: es) X.env = (false, eval e X.env) :: starEach es X.env := by rfl) (z2 : (backTo pos (starEach es X.env)).any (·.1) = false := by rfl)
    (z3 : eval (.Call (.Attribute o m apos) (e :: es) [] pos) X.env = (do { let ov ← eval o X.env; standAt apos.atName; let (f, first) ← holding [ov] (getMethod ov m pl); callWith pos f first (backTo pos (starEach (e :: es) X.env)) (backToKw pos (keywordEach [] X.env)) }) := by rfl) :
    PE X (.Call (.Attribute o m apos) (e :: es) [] pos) (tMX C m sp E ta t) := ⟨fun pins s σ H Q I h => PySem.W.methodCall_KW (pl := pl) (thn (he.run pins s σ H _ I h) fun u s1 hh => by
  obtain ⟨x, G, J, rx, a, dx, fs, ex, ea, l, q⟩ := hh
  subst ex
  cases (show u = Value.ref a from rx)
  exact getmeth_ok J ea c hm l (PySem.W.callWith_K (first := [.ref a]) (h₀ := X.base) I.ok.mod.kin hm.kp (thn (ha.run pos pins s1 σ G _ J q) fun us s2 ⟨vs, G2, J2, r, q2⟩ => ⟨J2.kIn, run_fnS (us := .ref a :: us) (vs := .ref a :: vs) F hr hb (hx σ) J2 (.cons rfl r) q2⟩) z1 z2)) z3⟩
/-- a block under a proposition -/
theorem pss_guard {X : Cx} {b : List Stmt} {t : TS} {p : Prop} (h : p → PSs X b t) : PSs X b (fun D σ H => p ∧ t D σ H) := ⟨fun pins s σ H D I q => (h q.1).run pins s σ H D I q.2⟩
/-- try: .. except X as n: suite, the errors of the body of one own class without fields -/
theorem ps_try_own {X : Cx} {C : Addr} {x n : Str} {c : Value} {i : Nat} {body suite : List Stmt} {b₀ : Stmt} {np pos pos' : Pos} {tb : WX → TS} {ts : Addr → TS} {Wout : WX} (hs : X.stack = X.env :: X.outer) (hf : X.env.frame = some X.env.locals) (hN : X.N.Nodup) (hi : X.N[i]? = some n) (hln : X.env.kindOf n = some .local) (hc : Names X x c) (tk : Takes X Wout)
    (hb : ∀ (W : WX) (pn : List (Addr × Obj)) (xe : Value → Shared → Prop), Takes (X.tr pn xe) W → PSs (X.tr pn xe) body (tb W))
    (hsu : ∀ (a : Addr) (oe : Obj) (pn : List (Addr × Obj)), Zc (.ref C) none oe → (∃ vs, oe.data = .fields vs) → PSs (X.suite a ((a, oe) :: pn)) (b₀ :: suite) (ts a)) :
    PS X (.Try body [.ExceptHandler (some (.Name x np)) (some n) (b₀ :: suite) pos'] [] [] pos) (fun D σ H => tb (wAs X.K c i (fun a cls d D σ H => (cls = .ref C ∧ d = none) ∧ ts a D σ H) Wout D) D σ H) :=
  ps_try_as hs hf hN hi hln hc tk (fun W pn xe tk' _ => hb W pn xe tk') (fun a oe cls d pn hz hf => pss_guard fun h => by
    obtain ⟨h1, h2⟩ := h
    subst h1
    subst h2
    exact hsu a oe pn hz hf)
/-- the same without a name -/
theorem ps_try_ownN {X : Cx} {C : Addr} {x : Str} {c : Value} {body suite : List Stmt} {b₀ : Stmt} {np pos pos' : Pos} {tb : WX → TS} {ts : Addr → TS} {Wout : WX} (hs : X.stack = X.env :: X.outer) (hf : X.env.frame = some X.env.locals) (hc : Names X x c) (tk : Takes X Wout)
    (hb : ∀ (W : WX) (pn : List (Addr × Obj)) (xe : Value → Shared → Prop), Takes (X.tr pn xe) W → PSs (X.tr pn xe) body (tb W))
    (hsu : ∀ (a : Addr) (oe : Obj) (pn : List (Addr × Obj)), Zc (.ref C) none oe → (∃ vs, oe.data = .fields vs) → PSs (X.suite a ((a, oe) :: pn)) (b₀ :: suite) (ts a)) :
    PS X (.Try body [.ExceptHandler (some (.Name x np)) none (b₀ :: suite) pos'] [] [] pos) (fun D σ H => tb (wOnly X.K c (fun a cls d D σ H => (cls = .ref C ∧ d = none) ∧ ts a D σ H) Wout D) D σ H) :=
  ps_try_only hs hf hc tk (fun W pn xe tk' _ => hb W pn xe tk') (fun a oe cls d pn hz hf => pss_guard fun h => by
    obtain ⟨h1, h2⟩ := h
    subst h1
    subst h2
    exact hsu a oe pn hz hf)
/-- an own error class C over ValueError (through B), as the top left it -/
structure Err (K : PySem.W.Frag) (mg : Str → Option Value) (x : Str) (C B : Addr) : Prop where
  g : mg x = some (.ref C)
  kp : PySem.W.keepIn K (.ref C) = true
  ex : PySem.W.excIn K C [.type "ValueError", .type "Exception", .type "BaseException", .type "object"] "ValueError.__new__" = true
  bs : PySem.W.subIn K (.ref C) (.type "BaseException") = some true
  ty : PySem.W.typeIn K (.ref C) = some (.type "type")
  me : PySem.W.exmOne K (.ref C) (.ref C) = some true
  ec : ExcC K C
  k1 : PySem.W.kitOne K (.ref C) (.ref B) = some true
  k2 : PySem.W.kitOne K (.ref C) (.type "ValueError") = some true
theorem Err.mk' {X : Cx} {x m : Str} {C B : Addr} {j : Nat} {p p2 pos : Pos} (T : Err X.K X.mg x C B) (hg : Gl X x) (hdb : (x == ("__debug__" : Str)) = false := by decide) : PMk X (.Call (.Name x p) [.Constant (.str m) j p2] [] pos) (fun _ H Q => Q (.ref C) none H) :=
  pmk_own PySem.F.excBase_ValueError T.ex T.g T.kp (raises_own T.bs T.ty) hg hdb
/-- isinstance(e, T), e the error in hand -/
theorem ev_isE {K : PySem.W.Frag} {σ : L2.St} {H : Hp} {tx : TE} {D a : Addr} {i : Nat} {c : V} {cv : Value} {b : Bool} (h : σ[i]? = some (some (.ref a))) (hx : Ev tx σ H c) (hc : ∀ u, RelV c u → u = cv) (k : PySem.W.kitOne K (.ref D) cv = some b) : Ev (tCB (rIsE K D a) (tCons (tVar i) (tCons tx tNil))) σ H (.bl b) :=
  ev_cb (ea_cons (ev_var h) (ea_cons hx ea_nil)) fun H1 _ Q q => ⟨c, cv, b, rfl, hc, k, q H1 (Ex.refl H1)⟩
/-! ### slices and comprehensions of data -/
theorem cutA_from {α : Type} (xs : List α) (m : Nat) : cutA xs (some (m : Int)) none = xs.drop m := by
  unfold cutA
  rw [show HT.sIx xs.length 0 (some ((m : Nat) : Int)) = min m xs.length from HT.sIx_nat xs.length 0 m, HT.sIx_none]
  by_cases h : m ≤ xs.length
  · rw [Nat.min_eq_left h, ← List.length_drop, List.take_length]
  · rw [Nat.min_eq_right (by omega), List.drop_length, List.drop_eq_nil_of_le (by omega), List.take_nil]
theorem filter_from (m : Nat) : ∀ n : Nat, (List.range n).filter (fun k => decide (m ≤ k)) = (List.range n).drop m
  | 0 => by simp
  | n + 1 => by
    rw [List.range_succ, List.filter_append, filter_from m n]
    by_cases h : m ≤ n
    · rw [List.drop_append_of_le_length (by rw [List.length_range]; exact h), List.filter_cons, if_pos (by exact decide_eq_true h)]
      all_goals rfl
    · rw [List.filter_cons, if_neg (by rw [decide_eq_false h]; decide), List.filter_nil, List.append_nil, List.drop_eq_nil_of_le (by rw [List.length_range]; omega), List.drop_eq_nil_of_le (by rw [List.length_append, List.length_range, List.length_singleton]; omega)]
theorem range_getD {α : Type} (xs : List α) (d : α) : (List.range xs.length).map (fun i => xs.getD i d) = xs := by
  refine List.ext_getElem (by simp) (fun i h1 h2 => ?_)
  rw [List.getElem_map, List.getElem_range, List.getD_eq_getElem?_getD, List.getElem?_eq_getElem h2]
  rfl
theorem givenD_from (ds : List PyData) (m : Nat) (f : Nat → Bool) (hf : ∀ k, k < ds.length → f k = decide (m ≤ k)) : givenD ds.length f (fun k => ds.getD k .none) = ds.drop m := by
  unfold givenD
  have e : (List.range ds.length).filter f = (List.range ds.length).filter (fun k => decide (m ≤ k)) := List.filter_congr fun k hk => hf k (List.mem_range.mp hk)
  rw [e, filter_from, List.map_drop, range_getD]
theorem givenD_all (n : Nat) (g : Nat → PyData) : givenD n (fun _ => true) g = (List.range n).map g := by
  unfold givenD
  rw [List.filter_eq_self.mpr (fun _ _ => rfl)]
theorem atI_getD {α : Type} {xs : List α} {i : Int} {d : α} (h0 : 0 ≤ i) (h1 : i < (xs.length : Int)) : atI xs i = some (xs.getD i.toNat d) := by
  obtain ⟨j, rfl⟩ := Int.eq_ofNat_of_zero_le h0
  have hj : j < xs.length := by omega
  refine atI_nat ?_
  rw [show ((j : Int)).toNat = j from rfl, List.getD_eq_getElem?_getD, List.getElem?_eq_getElem hj]
  rfl
/-- range with great bounds -/
theorem q_forRngB {σ : L2.St} {H : Hp} {D : Ends} {tz : TS} {ta : TA} {j : Nat} {lo n : Int} {tu : TS} (h : EvA ta σ H [.int lo, .int n]) (hn : -(2 ^ 62) ≤ lo ∧ lo < 2 ^ 62 ∧ -(2 ^ 62) ≤ n ∧ n < 2 ^ 62) (Pv : Nat → L2.St → Hp → Prop) (h0 : ∀ H1, Ex H H1 → Pv 0 σ H1)
    (hs : ∀ (i : Nat) σ' H', lo + (i : Int) < n → Pv i σ' H' → tu { D with nx := Pv (i + 1), ct := Pv (i + 1), bk := tz D } (σ'.set j (some (.int (lo + (i : Int))))) H') (hd : ∀ σ' H', Pv (n - lo).toNat σ' H' → tz D σ' H') : tSeq (tFor (iRng2 ta) (gName j) tu) tz D σ H :=
  h H (Ex.refl H) _ fun H1 e => ⟨lo, n, rfl, hn, for_range (lo := lo) (n := (n - lo).toNat) Pv (h0 H1 e) (fun i σ' H' hi p => hs i σ' H' (by omega) p) hd⟩

/-! ### a method of the text, its class's own -/
structure Dm (K : PySem.W.Frag) (C : Addr) (x qual : Str) (st : Stmt) (ps : List Str) (f : Addr) (fd : FuncData) : Prop where
  F : Fun K x qual st f fd
  b : Binds K fd ps []
  m : Meth K C x f
theorem dm_mk {K : PySem.W.Frag} {h : Heap} (X : K.In h) {C : Addr} {x qual : Str} {st : Stmt} {ps : List Str} {f : Addr} {oc : Value} {od an : Option Addr} {sl : Array (Option Value)} {kV dc pm cd ct : Value}
    (a : PySem.W.findIn K (.ref C) x = some (some (.ref f))) (i : PySem.W.isFn K (.ref f) = true) (l : K.lookup f = some ⟨oc, od, .func (PySem.W.fnOf x qual (defArgs st) (defBody st) (defScope st) .none kV dc pm an cd ct), sl⟩) (c : PySem.W.codeIn K cd qual = true) (k : PySem.W.keepIn K (.ref f) = true)
    (hb : ∀ (kV doc pm : Value) (an : Option Addr) (cdv ct : Value) (us : List Value), us.length = ps.length → bindArgs (PySem.W.fnOf x qual (defArgs st) (defBody st) (defScope st) .none kV doc pm an cdv ct) ⟨us, []⟩ = pure (ps.zip us)) :
    ∃ f fd, Dm K C x qual st ps f fd := ⟨_, _, fun_mk l c k, (fun_mk l c k).binds hb, ⟨a, i, k⟩⟩
/-- a class of the text with an __init__ -/
structure Kl (K : PySem.W.Frag) (mg : Str → Option Value) (x : Str) (C : Addr) : Prop where
  cl : Cls K C
  g : mg x = some (.ref C)
  makes : PySem.W.makesIn K C = true
  kp : PySem.W.keepIn K (.ref C) = true
theorem Kl.make {K : PySem.W.Frag} {mg : Str → Option Value} {x : Str} {C f : Addr} {q : Str} {st : Stmt} {ps : List Str} {fd : FuncData} (L : Kl K mg x C) (D : Dm K C "__init__" q st ps f fd) : Mk K C f := ⟨L.makes, D.m.at_, D.m.fn, L.kp⟩
theorem kl_mk {K : PySem.W.Frag} {h : Heap} {mg : Str → Option Value} {x : Str} {C : Addr} (X : K.In h) (G : h.Ns mainGlobals mg) (a : PySem.W.nsIn K mainGlobals x = some (some (.ref C))) (pg : PySem.W.plainGet K C Str.empty = true) (hd : PySem.W.hasDictIn K C = true) (po : PySem.W.plainOver K C = true)
    (sa : PySem.W.findIn K (.ref C) "__setattr__" = some (some (.builtin "object.__setattr__"))) (mk : PySem.W.makesIn K C = true) (kp : PySem.W.keepIn K (.ref C) = true) : Kl K mg x C := ⟨⟨pg, hd, po, sa⟩, PySem.W.mg_of X G a, mk, kp⟩
theorem na_mk {K : PySem.W.Frag} {h : Heap} {C : Addr} {f : Str} (X : K.In h) (a : PySem.W.findIn K (.ref C) f = some none) : NoAttr K C f := a
/-- a property of an own class: its getter -/
structure Pr (K : PySem.W.Frag) (C : Addr) (x qual : Str) (st : Stmt) (f : Addr) (fd : FuncData) : Prop where
  F : Fun K x qual st f fd
  b : Binds K fd ["self"] []
  p : ∃ p, PropOf K C x p f
theorem pr_mk {K : PySem.W.Frag} {h : Heap} (X : K.In h) {C : Addr} {x qual : Str} {st : Stmt} {f p : Addr} {rest : List Value} {oc : Value} {od an : Option Addr} {sl : Array (Option Value)} {kV dc pm cd ct : Value}
    (a : PySem.W.findIn K (.ref C) x = some (some (.ref p))) (g : PySem.W.specialIn K (.ref p) "__get__" = some (some (.builtin "property.__get__"))) (t : PySem.W.takesIn K (.ref p) = some true) (r : PySem.W.recIn K p "property" = some (.ref f :: rest))
    (l : K.lookup f = some ⟨oc, od, .func (PySem.W.fnOf x qual (defArgs st) (defBody st) (defScope st) .none kV dc pm an cd ct), sl⟩) (c : PySem.W.codeIn K cd qual = true) (k : PySem.W.keepIn K (.ref f) = true)
    (hb : ∀ (kV doc pm : Value) (an : Option Addr) (cdv ct : Value) (us : List Value), us.length = (["self"] : List Str).length → bindArgs (PySem.W.fnOf x qual (defArgs st) (defBody st) (defScope st) .none kV doc pm an cdv ct) ⟨us, []⟩ = pure ((["self"] : List Str).zip us)) :
    ∃ f fd, Pr K C x qual st f fd := ⟨_, _, fun_mk l c k, (fun_mk l c k).binds hb, p, ⟨a, g, t, rest, r⟩⟩
theorem pe_pr {X : Cx} {CX : CXT} {k : Nat} {C g : Addr} {f : Str} {fd : FuncData} {sp : Sp} {E : XK} {e : Expr} {pos : Pos} {ta : TE} {q : Str} {st : Stmt} (he : PE X e ta) (c : Cls X.K C) (hp : Pr X.K C f q st g fd) (F : FnOk X.prog X.w X.K X.mg X.base CX k g fd ["self"] sp) (hr : Room (k + 1) X.A) (hx : Passes CX X.nox E)
    (hab : attributeBase e f X.env (eval e X.env) = eval e X.env) : PE X (.Attribute e f pos) (tProp C sp [] E ta) := by
  obtain ⟨p, hp'⟩ := hp.p
  exact pe_prop he c hp' F hr hp.b .nil hx hab
section
variable {K : PySem.W.Frag} {σ : L2.St} {H H' : Hp} {ta tb te : TE} {ds es : List PyData}
theorem en_catV {a : Addr} {xs : List V} (ha : Ev ta σ H (.ref a)) (h : H a = some (.lst xs)) (hd : DpAll K H xs ds) (hb : EvN K tb σ H es) (hl : ds.length + es.length ≤ 100000) : EvN K (tOp rCat ta tb) σ H (ds ++ es) := fun H1 e Q q =>
  ha H1 e _ fun H2 e2 => hb H2 (e.trans e2) _ fun p' ys H3 np' e3 hp' ht =>
    ⟨a, p', xs, ys, rfl, rfl, ((e.trans e2).trans e3) _ _ h, hp', by rw [dpa_len hd, dpa_len ht]; exact sz_of hl, fun o ho => q o _ _ (fresh_back (e2.trans e3) ho) ((e2.trans e3).trans (Ex.new ho)) upd_same
      (dpa_app (dpa_mono ov_base ds xs hd) (dpa_mono ((ov_later e2).trans (ov_grow (Ex.new ho))) es ys ht))⟩
theorem el_cat {xs ys : List V} (ha : EvL ta σ H xs) (hb : EvL tb σ H ys) (hl : xs.length + ys.length ≤ 100000) : EvL (tOp rCat ta tb) σ H (xs ++ ys) := fun H1 e Q q =>
  ha H1 e _ fun p H2 np e2 hp => hb H2 (e.trans e2) _ fun p' H3 np' e3 hp' => ⟨p, p', xs, ys, rfl, rfl, e3 _ _ hp, hp', sz_of hl, fun o ho => q o _ (fresh_back (e2.trans e3) ho) ((e2.trans e3).trans (Ex.new ho)) upd_same⟩
theorem el_rg2 {a b : Int} (ha : Ev ta σ H (.int a)) (hb : Ev tb σ H (.int b)) (ok : RgOk a b) : EvL (tLstRg (tRg2 ta tb)) σ H (rgV a b) := fun H1 e Q q =>
  ha H1 e _ fun H2 e2 => hb H2 (e.trans e2) _ fun H3 e3 => ⟨a, b, rfl, rfl, ok, fun p hp => q p _ (fresh_back (e2.trans e3) hp) ((e2.trans e3).trans (Ex.new hp)) upd_same⟩
theorem rc_max2 {i j : Int} : RC (fun xs H Q => ∃ i j, xs = [.int i, .int j] ∧ Q (.int (if j > i then j else i)) H) [.int i, .int j] H (.int (if j > i then j else i)) := fun H1 _ Q q => ⟨i, j, rfl, q H1 (Ex.refl H1)⟩
theorem rc_min2 {i j : Int} : RC (fun xs H Q => ∃ i j, xs = [.int i, .int j] ∧ Q (.int (if j < i then j else i)) H) [.int i, .int j] H (.int (if j < i then j else i)) := fun H1 _ Q q => ⟨i, j, rfl, q H1 (Ex.refl H1)⟩
end
theorem q_forRng3 {σ : L2.St} {H : Hp} {D : Ends} {tz : TS} {ta : TA} {j : Nat} {lo hi c : Int} {n : Nat} {tu : TS} (h : EvA ta σ H [.int lo, .int hi, .int c]) (hn : RgC lo hi c n) (Pv : Nat → L2.St → Hp → Prop) (h0 : ∀ H1, Ex H H1 → Pv 0 σ H1)
    (hs : ∀ (i : Nat) σ' H', i < n → Pv i σ' H' → tu { D with nx := Pv (i + 1), ct := Pv (i + 1), bk := tz D } (σ'.set j (some (.int (lo + (i : Int) * c)))) H') (hd : ∀ σ' H', Pv n σ' H' → tz D σ' H') : tSeq (tFor (iRng3 ta) (gName j) tu) tz D σ H :=
  h H (Ex.refl H) _ fun H1 e => ⟨lo, hi, c, n, rfl, hn, for_it walk_rangeC Pv (h0 H1 e) (fun _ _ _ _ _ => trivial) (fun i x σ' H1 H' hi p y => by
    obtain ⟨rfl, rfl⟩ := y
    exact hs i σ' _ hi p) hd⟩
/-- the part of a list from lo to hi -/
def rng {α : Type} (xs : List α) (lo hi : Nat) : List α := (xs.drop lo).take (hi - lo)
theorem rng_drop {α : Type} (xs : List α) (lo hi k : Nat) : (rng xs lo hi).drop k = rng xs (lo + k) hi := by
  unfold rng
  rw [List.drop_take, List.drop_drop, Nat.sub_sub]
theorem rng_nil {α : Type} (xs : List α) {lo hi : Nat} (h : hi ≤ lo) : rng xs lo hi = [] := by
  unfold rng
  rw [Nat.sub_eq_zero_of_le h, List.take_zero]
theorem rng_app {α : Type} (xs : List α) {a b c : Nat} (h1 : a ≤ b) (h2 : b ≤ c) : rng xs a b ++ rng xs b c = rng xs a c := by
  unfold rng
  have e : c - a = (b - a) + (c - b) := by omega
  rw [e, List.take_add, List.drop_drop, show a + (b - a) = b by omega]
theorem rng_len {α : Type} (xs : List α) {lo hi : Nat} (h1 : lo ≤ hi) (h2 : hi ≤ xs.length) : (rng xs lo hi).length = hi - lo := by
  unfold rng
  rw [List.length_take, List.length_drop]
  omega
theorem rng_all {α : Type} (xs : List α) (lo : Nat) : rng xs lo xs.length = xs.drop lo := by
  unfold rng
  rw [← List.length_drop, List.take_length]
theorem cutA_rng {α : Type} (xs : List α) {lo hi : Nat} (h : lo ≤ xs.length) : cutA xs (some (lo : Int)) (some (hi : Int)) = rng xs lo (min hi xs.length) := by
  unfold cutA rng
  rw [HT.sIx_nat, HT.sIx_nat, Nat.min_eq_left h]
theorem Sds.rng {n : Nat} {ds : List PyData} (h : Sds n ds) (a b : Nat) : Sds n (Ap.rng ds a b) := (h.drop _).take _
section
variable {σ : L2.St} {H : Hp} {ta : TE} {p : Addr}
theorem et_isY (h : Ev ta σ H .non) : EvT (tTest (tOp (fun x y H Q => y = .non ∧ Q (.bl (decide (x = .non))) H) ta (tC .non))) σ H true := et_test (ev_is (ev_op h ev_c (fun G _ _ q => ⟨rfl, q G (Ex.refl G)⟩)) (by rfl))
theorem et_isR (h : Ev ta σ H (.ref p)) : EvT (tTest (tOp (fun x y H Q => y = .non ∧ Q (.bl (decide (x = .non))) H) ta (tC .non))) σ H false := et_test (ev_is (v := .bl (decide (V.ref p = .non))) (ev_op h ev_c (fun G _ _ q => ⟨rfl, q G (Ex.refl G)⟩)) (by rw [decide_eq_false (fun h => nomatch h)]))
theorem et_notY (h : Ev ta σ H .non) : EvT (tTest (tOp (fun x y H Q => y = .non ∧ Q (.bl (!decide (x = .non))) H) ta (tC .non))) σ H false := et_test (ev_is (ev_op h ev_c (fun G _ _ q => ⟨rfl, q G (Ex.refl G)⟩)) (by rfl))
theorem et_notR (h : Ev ta σ H (.ref p)) : EvT (tTest (tOp (fun x y H Q => y = .non ∧ Q (.bl (!decide (x = .non))) H) ta (tC .non))) σ H true := et_test (ev_is (v := .bl (!decide (V.ref p = .non))) (ev_op h ev_c (fun G _ _ q => ⟨rfl, q G (Ex.refl G)⟩)) (by rw [decide_eq_false (fun h => nomatch h)]; rfl))
end
theorem kit_own {K : PySem.W.Frag} {t : Value} {B : Addr} (hd : PySem.W.hasDictIn K B = true) (ht : PySem.W.typeIn K (.ref B) = some (.type "type")) (hs : PySem.W.subIn K t (.ref B) = some true) : PySem.W.kitOne K t (.ref B) = some true := by
  obtain ⟨cd, hc, _⟩ := PySem.W.any_some hd
  unfold PySem.W.kitOne
  split
  · rfl
  · show (if ((PySem.W.clsIn K B).isSome && PySem.W.typeIn K (.ref B) == some (.type "type")) = true then PySem.W.subIn K t (.ref B) else none) = some true
    rw [hc, ht, if_pos (by rfl)]
    exact hs
theorem kit_blt {K : PySem.W.Frag} {t : Value} {n : String} (hm : PySem.W.kitMeta n = true) (hs : PySem.W.subIn K t (.type n) = some true) : PySem.W.kitOne K t (.type n) = some true := by
  unfold PySem.W.kitOne
  split
  · rfl
  · show (if PySem.W.kitMeta n = true then PySem.W.subIn K t (.type n) else none) = some true
    rw [if_pos hm]
    exact hs
theorem err_mk {K : PySem.W.Frag} {h : Heap} {mg : Str → Option Value} {x y : Str} {C B : Addr} (X : K.In h) (G : h.Ns mainGlobals mg) (a : PySem.W.nsIn K mainGlobals x = some (some (.ref C))) (b : PySem.W.nsIn K mainGlobals y = some (some (.ref B))) (kp : PySem.W.keepIn K (.ref C) = true)
    (ex : PySem.W.excIn K C [.type "ValueError", .type "Exception", .type "BaseException", .type "object"] "ValueError.__new__" = true) (bs : PySem.W.subIn K (.ref C) (.type "BaseException") = some true) (ty : PySem.W.typeIn K (.ref C) = some (.type "type")) (ss : PySem.W.subIn K (.ref C) (.ref C) = some true)
    (hg : PySem.W.findIn K (.ref C) "__getattribute__" = some (some (.builtin "BaseException.__getattribute__"))) (hk : PySem.W.findIn K (.ref C) "__getattr__" = some none) (hd : PySem.W.hasDictIn K C = true) (ha : PySem.W.findIn K (.ref C) "__class__" = some (some (.builtin "object.__class__")))
    (hn : PySem.W.specialIn K (.builtin "object.__class__") "__get__" = some (some (.builtin "getset_descriptor.__get__"))) (ht : PySem.W.takesIn K (.builtin "object.__class__") = some true) (hm : PySem.W.mroIn K C (.type "object") = some true)
    (dB : PySem.W.hasDictIn K B = true) (tB : PySem.W.typeIn K (.ref B) = some (.type "type")) (sb : PySem.W.subIn K (.ref C) (.ref B) = some true) (sv : PySem.W.subIn K (.ref C) (.type "ValueError") = some true) : Err K mg x C B ∧ mg y = some (.ref B) :=
  ⟨⟨PySem.W.mg_of X G a, kp, ex, bs, ty, PySem.W.exm_ref bs hd ty ss, ⟨hg, hk, bs, hd, ha, hn, ht, hm⟩, kit_own dB tB sb, kit_blt (by decide +kernel) sv⟩, PySem.W.mg_of X G b⟩
end Ap

set_option Elab.async false
set_option linter.all false
set_option maxRecDepth 100000
set_option maxHeartbeats 2000000
namespace Ap
open PySem PySem.Spec PyProof.Rows L2 Evl
section
variable {X : Cx} {pins : List (Addr × Obj)} {σ : L2.St} {H : Hp} {s : Shared}
/-! ### len(o) of an own object with an own __len__ -/
theorem own_call {A1 : Around} {CX : CXT} {n : Nat} {f a : Addr} {fd : FuncData} {ps : List Str} {sp : Sp} {E : XK} {Q : VK} (sb : Sub X n A1) (I : L2.Inv X pins σ H s) (F : FnOk X.prog X.w X.K X.mg X.base CX n f fd ps sp) (b : Binds X.K fd ps []) {Z : Value → Shared → Prop} (hx : ∀ e s', CX X.stack H s E e s' → Z e s') (hsp : sp [.ref a] H Q E) :
    wpAny (model X.prog X.w) A1 (call (.ref f) [.ref a]) (fun u s' => ∃ v H', L2.Inv X pins σ H' s' ∧ RelV v u ∧ Q v H') Z s := by
  have e0 : Env0 X.prog X.w X.K X.mg X.base A1 X.stack s H := by
    have e := I.env0
    exact ⟨by rw [sb.fr]; exact e.frames, e.mod, e.bs, e.bsz, e.funs, e.frf, e.hok, e.bare⟩
  have hl := F.len _ _ _ _ hsp
  refine wpAny_call (codeAny_mono (F.run A1 X.stack s H ⟨[.ref a], []⟩ [.ref a] [.ref a] Q E sb.room e0 (by
    have := b s [.ref a] I.kIn (by simpa using hl)
    simpa using this) (.cons rfl .nil) hsp) fun r s' hq => ?_)
  cases r with
  | error e => exact hx e s' hq
  | ok fl =>
    cases fl with
    | ret u => exact I.after hq
    | next => exact False.elim hq
    | brk => exact False.elim hq
    | cont => exact False.elim hq
theorem own_len {A1 : Around} {CX : CXT} {n : Nat} {f a C dx : Addr} {fs : List (Str × V)} {fd : FuncData} {ps : List Str} {sp : Sp} {E : XK} {R : Int → Hp → Prop} (sb : Sub X n A1.in1) (I : L2.Inv X pins σ H s) (ha : H a = some (.ins C dx fs)) (m : Meth X.K C "__len__" f)
    (F : FnOk X.prog X.w X.K X.mg X.base CX n f fd ps sp) (b : Binds X.K fd ps []) {Z : Value → Shared → Prop} (hx : ∀ e s', CX X.stack H s E e s' → Z e s') (hsp : sp [.ref a] H (fun v H' => ∃ k : Int, v = .int k ∧ 0 ≤ k ∧ k < 2 ^ 63 ∧ R k H') E) :
    wpAny (model X.prog X.w) A1 (call (.builtin "len") [.ref a]) (fun r s' => ∃ (k : Int) (t : Tok) (H' : Hp), r = .int k t ∧ 0 ≤ k ∧ k < 2 ^ 63 ∧ L2.Inv X pins σ H' s' ∧ R k H') Z s := by
  obtain ⟨mA, J, _⟩ := ins_get I.hok ha
  obtain ⟨od, J, _⟩ := J.look
  refine Calls.call_function_entry kind_len plain_len entry_len (args_len1 _) ?_
  unfold Builtin.«len»
  refine wpAny_bind (m := oneArg "len" _) (wpAny_pure ?_)
  refine wpAny_bind (m := callSpecial? (.ref a) (Str.ofString "__len__")) (PySem.W.special_fn (name := "__len__") (args := []) I.kIn J m.at_ (beq_iff_eq.mp m.fn) (wpAny_mono (own_call sb I F b hx hsp) (fun u s' hr => ?_) fun _ _ y => y))
  obtain ⟨v, H', I', rv, k, rfl, h0, h1, hR⟩ := hr
  obtain ⟨t, rfl⟩ := rv
  refine wpAny_bind (wpAny_holding (wpAny_pure ?_))
  refine wpAny_bind (wpAny_letGo ?_)
  show wpAny _ _ (if k < 0 then _ else _) _ _ _
  rw [if_neg (by omega)]
  show wpAny _ _ (if k ≥ 2 ^ 63 then _ else _) _ _ _
  rw [if_neg (by omega)]
  exact wpAny_bind (wpAny_mkInt (wpAny_pure ⟨_, rfl, k, _, H', rfl, h0, h1, I'.tok _, hR⟩))
def rLenO (C : Addr) (sp : Sp) (E : XK) : List V → Hp → VK → Prop := fun xs H Q => ∃ a dx fs, xs = [V.ref a] ∧ H a = some (.ins C dx fs) ∧ sp [.ref a] H (fun v H' => ∃ k : Int, v = .int k ∧ 0 ≤ k ∧ k < 2 ^ 63 ∧ Q v H') E
theorem call_lenO {CX : CXT} {n : Nat} {f C : Addr} {fd : FuncData} {ps : List Str} {sp : Sp} {E : XK} (m : Meth X.K C "__len__" f) (F : FnOk X.prog X.w X.K X.mg X.base CX n f fd ps sp) (hr : Room (n + 1) X.A) (b : Binds X.K fd ps []) (hx : Passes CX X E) : CallR X (.builtin "len") (rLenO C sp E) := by
  intro pins s σ H xs us Q I r h
  obtain ⟨a, dx, fs, rfl, ha, hsp⟩ := h
  obtain ⟨u, rfl, rx⟩ := vals1 r
  cases rx
  refine wpAny_mono (own_len (R := fun k H' => Q (.int k) H') (Sub.in1 (⟨hr, rfl⟩ : Sub X (n + 1) X.A)) I ha m F b (fun e s' hq => hx pins σ H s e s' I hq) (by
    refine cast (congrArg (fun z => sp [.ref a] H z E) (funext fun v => funext fun H' => propext ?_)) hsp
    exact ⟨fun ⟨k, e, h0, h1, q⟩ => ⟨k, e, h0, h1, e ▸ q⟩, fun ⟨k, e, h0, h1, q⟩ => ⟨k, e, h0, h1, e ▸ q⟩⟩)) (fun r s' hr => ?_) fun _ _ y => y
  obtain ⟨k, t, H', rfl, _, _, I', q⟩ := hr
  exact ⟨.int k, H', I', ⟨t, rfl⟩, q⟩
/-! ### iter(t) of a tuple: the iterator as a tracked thing -/
def ItTO (it t : Addr) (i : Nat) : HO := .ext fun h => h.IsTupleIter it t i
def DeadO (it : Addr) : HO := .ext fun h => ∃ o, h.get? it = some o
theorem itT_ok {P : Program} {w : World} {H : Hp} {h : Heap} {it t : Addr} {i : Nat} (x : h.IsTupleIter it t i) : ObjOk P w H h it (ItTO it t i) := ⟨x, let ⟨o, ho, _⟩ := x; ⟨o, ho⟩, fun h1 h2 p k => Heap.IsTupleIter.at p k⟩
theorem dead_ok {P : Program} {w : World} {H : Hp} {h : Heap} {it : Addr} (x : ∃ o, h.get? it = some o) : ObjOk P w H h it (DeadO it) := ⟨x, x, fun h1 h2 p k => let ⟨o, ho⟩ := p; ⟨o, k o ho⟩⟩
theorem itT_get {it t : Addr} {i : Nat} (I : L2.Inv X pins σ H s) (h : H it = some (ItTO it t i)) : s.heap.IsTupleIter it t i := (I.hok it _ h).1
def rIterT (K : PySem.W.Frag) : List V → Hp → VK → Prop := fun xs H Q => ∃ (t : Addr) (ys : List V), xs = [V.ref t] ∧ SqT K H t ys ∧ ∀ it, H it = none → Q (.ref it) (upd H it (ItTO it t 0))
theorem call_iterT : CallR X (.builtin "iter") (rIterT X.K) := by
  intro pins s σ H xs us Q I r h
  obtain ⟨t, ys, rfl, hq, q⟩ := h
  obtain ⟨u, rfl, ru⟩ := vals1 r
  cases ru
  obtain ⟨its, rv, pl, hz⟩ := I.tuple hq
  refine Calls.call_function_entry (by decide +kernel) (by decide +kernel) PySem.W.kdk_entry_iter (PySem.W.kdk_args_iter _) ?_
  unfold Builtin.«iter»
  refine wpAny_bind (m := someArgs "iter" 1 2 _) (wpAny_of_eq (a := [Value.ref t]) (by first | rfl | kernel_rfl!) ?_)
  show wpAny _ _ (pyIter (.ref t) >>= _) _ _ _
  refine wpAny_bind (wpAny_pyIter_tuple (show s.heap.IsTuple t its.toArray from pl) ?_)
  exact wpAny_pure ⟨_, rfl, .ref s.heap.objs.size, _, I.laid (t' := s.toks) (fun b u e => Heap.get?_push_of_some _ e) (Nat.le_refl _) (itT_ok ⟨_, Heap.get?_push_size _ rfl, rfl, rfl⟩), rfl, q _ (I.hok.fresh (Nat.le_refl _))⟩
end
/-- the iterator is through: it stays an object -/
theorem tup_through {prog : Program} {w : World} {A : Around} {E : Value → Shared → Prop} {s : Shared} {it t : Addr} {i : Nat} {items : Array Value} {Q : Option Value → Shared → Prop} (hh : A.handled = none) (hit : s.heap.IsTupleIter it t i) (ht : s.heap.IsTuple t items) (hx : items[i]? = none)
    (hQ : ∀ h', Heap.ExtBut it s.heap h' → (∃ o, h'.get? it = some o) → Q none { s with heap := h' }) : wpAny (model prog w) A (pyNext (.ref it)) Q E s := by
  obtain ⟨o, ho, hc, hd⟩ := id hit
  obtain ⟨ot, hot, _, nt, hdt⟩ := ht
  unfold pyNext
  refine wpAny_bind (wpAny_attempt (wpAny_callSpecial?_slot (name := Str.ofString "__next__") hit.typeIs F.slot_tuple_iterator_next (wpAny_call_entry F.slot_tuple_iterator_next hit.typeIs F.entry_tuple_iterator_next ?_ (F.args_tuple_iterator_next_1 _))))
  show wpAny _ _ (field (.ref it) 0 >>= _) _ _ s
  refine wpAny_bind (wpAny_field ho hd (x := .ref t) rfl ?_)
  show wpAny _ _ (if (Value.ref t == Value.none) = true then _ else _) _ _ s
  rw [if_neg (show ¬ ((Value.ref t == Value.none) = true) from Bool.false_ne_true)]
  show wpAny _ _ (field (.ref it) 1 >>= _) _ _ s
  refine wpAny_bind (wpAny_field ho hd (x := .int i 0) rfl ?_)
  show wpAny _ _ (seqItems? (.ref t) >>= _) _ _ s
  refine wpAny_bind (wpAny_seqItems hot hdt ?_)
  simp only [Int.toNat_natCast, hx]
  refine wpAny_bind (wpAny_rule (wpAny_bind (wpAny_setField ho hd (by simp) ?_)))
  show wpAny _ _ (newExc (.type "StopIteration") [] >>= _) _ _ _
  refine wpAny_bind ?_
  simp only [newExc, newTuple]
  refine wpAny_bind (wpAny_newObj_type ?_ (by size_fits))
  refine wpAny_bind (m := firstArgMember _ _) (wpAny_of_eq (a := Value.none) (by first | rfl | (simp only [firstArgMember]; rfl)) ?_)
  refine wpAny_newObj_type ?_ (by size_fits)
  simp only [raiseNew]
  refine wpAny_bind (wpAny_handled ?_)
  first | rw [show A.in1.handled = none from hh] | rw [hh]
  refine wpAny_bind (wpAny_pure (wpAny_throw ?_))
  refine wpAny_bind (wpAny_isInstance (T := "StopIteration") (b := true) ⟨_, Heap.get?_push_size _ rfl, rfl⟩ isSubtype_stop ?_)
  exact wpAny_pure (hQ _ (((Heap.SameBut.update ..).extBut.push _).push _) ⟨_, Heap.get?_push_of_some _ (Heap.get?_push_of_some _ (Heap.get?_update_self _ ho (Obj.isFreed_of_fields (Obj.data_mapFields hd _))))⟩)
theorem upd_swap {H : Hp} {a b : Addr} {x y z : HO} (h : a ≠ b) : upd (upd (upd H a x) b y) a z = upd (upd H a z) b y := by
  funext c
  by_cases h1 : c = a
  · rw [h1, upd_same, upd_ne h, upd_same]
  · rw [upd_ne h1]
    by_cases h2 : c = b
    · rw [h2, upd_same, upd_same]
    · rw [upd_ne h2, upd_ne h1, upd_ne h2, upd_ne h1]
section
variable {X : Cx} {pins : List (Addr × Obj)} {σ : L2.St}
theorem ext_loop {A1 : Around} {q it t : Addr} {ys : List V} {B H2 : Hp} {Rs : Result → Shared → Prop} (hh : A1.in1.handled = none) (hB : SqT X.K B t ys) (eB : Ex B H2) (nq : B q = none) (nit : B it = none) (hne : it ≠ q)
    (hd : ∀ s, L2.Inv X pins σ (upd (upd H2 it (DeadO it)) q (.lst ys)) s → Rs (.ok (.ret .none)) s) :
    ∀ (m i : Nat) (s : Shared), i + m = ys.length → L2.Inv X pins σ (upd (upd H2 it (ItTO it t i)) q (.lst (ys.take i))) s → codeAny (model X.prog X.w) A1 (.builtin "list.extend.loop" ⟨[.ref q, .ref it, .none], []⟩) Rs s := by
  intro m
  induction m with
  | zero =>
    intro i s hi I
    have hit : (upd (upd H2 it (ItTO it t i)) q (.lst (ys.take i))) it = some (ItTO it t i) := by rw [upd_ne hne, upd_same]
    obtain ⟨its, rv, pl, hz⟩ := I.tuple (ex_t (Ex.mut (Ex.mut eB nit) nq) hB)
    have hlen := rv.length
    refine codeAny_builtin PySem.F.entry_extend_loop ?_
    rw [Around.under_plainId PySem.F.plain_extend_loop _]
    show wpAny _ A1.in1 (pyNext (.ref it) >>= _) _ _ s
    refine wpAny_bind (tup_through hh (itT_get I hit) (show s.heap.IsTuple t its.toArray from pl) (by simp; omega) fun h' eb ex => ?_)
    refine wpAny_pure (hd _ ?_)
    have I' := I.write (h' := h') (x := it) (e := it) (t' := s.toks) (by rw [hit]; trivial) (.inl rfl) (fun b o nb e => eb b o nb e) ex (dead_ok ex)
    rw [upd_swap hne, show i = ys.length by omega, List.take_length] at I'
    exact I'
  | succ m ih =>
    intro i s hi I
    have hlt : i < ys.length := by omega
    have hit : (upd (upd H2 it (ItTO it t i)) q (.lst (ys.take i))) it = some (ItTO it t i) := by rw [upd_ne hne, upd_same]
    obtain ⟨its, rv, pl, hz⟩ := I.tuple (ex_t (Ex.mut (Ex.mut eB nit) nq) hB)
    have hlen := rv.length
    obtain ⟨u, hu, ru⟩ := rv.get (List.getElem?_eq_getElem hlt)
    refine codeAny_builtin PySem.F.entry_extend_loop ?_
    rw [Around.under_plainId PySem.F.plain_extend_loop _]
    show wpAny _ A1.in1 (pyNext (.ref it) >>= _) _ _ s
    refine wpAny_bind (wpAny_pyNext_tuple_item (itT_get I hit) (show s.heap.IsTuple t its.toArray from pl) (x := u) (by simpa using hu) fun h' hit' sb => ?_)
    have I' := I.write (h' := h') (x := it) (e := it) (t' := s.toks) (by rw [hit]; trivial) (.inl rfl) (fun b o nb e => (sb.2 b nb).trans e) (let ⟨o, ho, _⟩ := hit'; ⟨o, ho⟩) (itT_ok hit')
    rw [upd_swap hne] at I'
    show wpAny _ A1.in1 (updateSeq q (·.push u) >>= _) _ _ _
    obtain ⟨z, its2, k, r2, hl, e⟩ := I'.lstM upd_same
    have hz2 : (ys.take i).length < sizeLine := by
      rw [List.length_take]
      omega
    refine wpAny_bind (wpAny_updateSeq e rfl (wpAny_pure ⟨plainId_quiet PySem.F.plain_extend_loop _, ?_⟩) (by rw [List.size_toArray]; omega) (by show (its2.toArray.push u).size ≤ sizeLine + 1; rw [Array.size_push, List.size_toArray]; omega))
    have I'' := I'.lset (f := (·.push u)) (its' := its2 ++ [u]) (ys := ys.take (i + 1)) (t' := s.toks) upd_same e (by simp) (by rw [List.take_succ, List.getElem?_eq_getElem hlt]; exact r2.append (.cons ru .nil)) (by rw [List.length_take]; omega)
    rw [upd_upd] at I''
    exact ih (i + 1) _ (by omega) I''
/-- list(o) of an own object whose __iter__ gives an iterator over a tuple, and that tells its length -/
def rListO (K : PySem.W.Frag) (C : Addr) (spI spL : Sp) (EI EL : XK) : List V → Hp → VK → Prop := fun xs H Q => ∃ (a dx t : Addr) (fs : List (Str × V)) (ys : List V) (B : Hp), xs = [V.ref a] ∧ H a = some (.ins C dx fs) ∧ SqT K B t ys ∧ ys.length ≤ 100000 ∧
  ∀ q, H q = none → B q = none ∧ spI [.ref a] (upd H q (.lst [])) (fun v H1 => ∃ (it dx' : Addr) (fs' : List (Str × V)), v = .ref it ∧ B it = none ∧ H1 it = some (ItTO it t 0) ∧ H1 q = some (.lst []) ∧ H1 a = some (.ins C dx' fs') ∧
    spL [.ref a] H1 (fun v2 H2 => ∃ k : Int, v2 = .int k ∧ 0 ≤ k ∧ k < 2 ^ 63 ∧ k ≤ 100000 ∧ H2 it = some (ItTO it t 0) ∧ H2 q = some (.lst []) ∧ Ex B H2 ∧ Q (.ref q) (upd (upd H2 it (DeadO it)) q (.lst ys))) EL) EI
theorem call_listO {CI : CXT} {C fi fl : Addr} {fdI fdL : FuncData} {psI psL : List Str} {spI spL : Sp} {EI EL : XK} {n : Nat} (hc : X.calm = true) (mi : Meth X.K C "__iter__" fi) (ml : Meth X.K C "__len__" fl) (FI : FnOk X.prog X.w X.K X.mg X.base CI n fi fdI psI spI) (bI : Binds X.K fdI psI []) (xI : Passes CI X EI)
    (FL : FnOk X.prog X.w X.K X.mg X.base CX0 n fl fdL psL spL) (bL : Binds X.K fdL psL []) (hr : Room (n + 3) X.A) : CallR X (.type "list") (rListO X.K C spI spL EI EL) := by
  intro pins s σ H xs us Q I rv h
  obtain ⟨a, dx, t, fs, ys, B, rfl, ha, hB, hys, hq⟩ := h
  obtain ⟨u, rfl, ru⟩ := rv.one
  cases ru
  have sb : Sub X (n + 1) X.A.in1.in1 := Sub.in1 (Sub.in1 (⟨hr, rfl⟩ : Sub X (n + 3) X.A))
  refine callType_codes (Q₁ := fun obj s₁ => obj = .ref s.heap.objs.size ∧ s₁ = { s with heap := s.heap.push { cls := .type "list", data := .seq #[] } }) PySem.F.called_list (PySem.F.typeCall_list_1 _) PySem.F.entry_list_init
    (code_list_new _ ⟨rfl, rfl⟩) fun obj s₁ h₁ => ?_
  obtain ⟨rfl, rfl⟩ := h₁
  have hS : (s.heap.push { cls := .type "list", data := .seq #[] }).get? s.heap.objs.size = some { cls := .type "list", data := .seq #[] } := Heap.get?_push_size _ rfl
  refine ⟨⟨_, hS, rfl⟩, PySem.F.args_list_init_2 _ _, ?_⟩
  have fr : H s.heap.objs.size = none := I.hok.fresh (Nat.le_refl _)
  obtain ⟨nq, hspI⟩ := hq _ fr
  have I1 : L2.Inv X pins σ (upd H s.heap.objs.size (.lst [])) { s with heap := s.heap.push { cls := .type "list", data := .seq #[] } } := I.lnew (its := []) (t' := s.toks) .nil (Nat.zero_le _)
  generalize hqa : s.heap.objs.size = q at *
  show wpAny _ _ (do let old ← Builtin.List.listItems (.ref q); Builtin.List.listUpdate (.ref q) (fun _ => #[]); letGo old.toList.reverse; Builtin.List.listExtendWith (.ref q) (.ref a) .none) _ _ _
  refine wpAny_bind ?_
  unfold Builtin.List.listItems
  refine wpAny_bind (wpAny_seqItems hS rfl (wpAny_pure ?_))
  show wpAny _ _ (updateSeq q (fun _ => #[]) >>= fun _ => letGo (#[] : Array Value).toList.reverse >>= fun _ => Builtin.List.listExtendWith (.ref q) (.ref a) .none) _ _ _
  refine wpAny_bind (wpAny_updateSeq hS rfl ?_)
  have I2 := I1.lset (f := fun _ => #[]) (its := []) (its' := []) (ys := []) (t' := s.toks) upd_same hS rfl .nil (Nat.zero_le _)
  rw [upd_upd] at I2
  refine wpAny_bind (wpAny_letGo ?_)
  have hne : q ≠ a := (ne_of_none ha fr).symm
  have ha2 : upd H q (.lst []) a = some (.ins C dx fs) := by rw [upd_ne hne.symm]; exact ha
  -- the extension
  obtain ⟨mA, J, _⟩ := ins_get I2.hok ha2
  obtain ⟨od, J, _⟩ := J.look
  obtain ⟨m0, hF⟩ := I2.fr
  unfold Builtin.List.listExtendWith
  refine wpAny_bind (J.type.here ?_)
  have h1 : Builtin.List.listSameRef (.ref q) (.ref a) = false := by simp [Builtin.List.listSameRef, hne]
  have h2 : (Value.ref C == Value.type "list") = false := rfl
  have h3 : (Value.ref C == Value.type "tuple") = false := rfl
  simp only [h1, h2, h3, Bool.or_false, Bool.false_eq_true, if_false]
  refine wpAny_bind (PySem.W.owit_iter hF I2.ok.mod.kin J mi.at_ mi.fn (wpAny_mono (own_call (sb.mono (Nat.le_succ _)) I2 FI bI (fun e s' hq => xI pins σ _ _ e s' I2 hq) hspI) (fun u s' hr => ?_) fun _ _ y => y))
  obtain ⟨v, H1, I3, rv, it, dx', fs', rfl, nit, hit, hq1, ha3, hspL⟩ := hr
  cases rv
  have hiq : it ≠ q := fun e => by
    rw [e, hq1] at hit
    cases hit
  -- it is an iterator
  unfold PySem.W.OwitIt
  refine wpAny_specialOf (name := Str.ofString "__next__") (itT_get I3 hit).typeIs F.slot_tuple_iterator_next.lookup ?_
  -- its length is asked
  obtain ⟨mA', J', _⟩ := ins_get I3.hok ha3
  obtain ⟨od', J', _⟩ := J'.look
  refine wpAny_bind (wpAny_holding ?_)
  unfold Builtin.List.listLengthHint
  refine wpAny_bind (wpAny_bind (J'.type.here ((PySem.W.looks_findIn I3.kIn ml.at_).here ?_)))
  refine PySem.W.KFB.if_not rfl ?_
  refine PySem.W.KFB.if_so rfl ?_
  refine wpAny_bind (wpAny_rule ?_)
  refine wpAny_bind (wpAny_attempt (wpAny_mono (own_len (R := fun k H2 => k ≤ 100000 ∧ H2 it = some (ItTO it t 0) ∧ H2 q = some (.lst []) ∧ Ex B H2 ∧ Q (.ref q) (upd (upd H2 it (DeadO it)) q (.lst ys))) (E := EL) (Z := fun _ _ => False) (A1 := X.A.in1.in1) ?sb I3 ha3 ml FL bL (fun e s' (h : False) => h) ?sp) (fun r s2 hr => ?_) fun e s2 he => he.elim))
  case sb => exact sb.in1
  case sp =>
    refine cast (congrArg (fun z => spL [.ref a] H1 z EL) (funext fun v => funext fun H2 => propext ?_)) hspL
    exact ⟨fun ⟨k, e, h0, h1, h⟩ => ⟨k, e, h0, h1, h⟩, fun ⟨k, e, h0, h1, h⟩ => ⟨k, e, h0, h1, h⟩⟩
  obtain ⟨k, tk, H2, rfl, hk0, _, I4, hk1, hit2, hq2, eB, hQ⟩ := hr
  show wpAny _ _ (asInt? (Value.int k tk) >>= _) _ _ _
  refine wpAny_bind (wpAny_pure ?_)
  refine PySem.W.KFB.if_not ?lg (wpAny_pure ?_)
  case lg =>
    have : Builtin.List.listTooLong k.toNat = decide (k.toNat > sizeLine) := rfl
    rw [this, decide_eq_false (by have := sz_of (show k.toNat ≤ 100000 by omega); omega)]
  -- room, or none; then the loop
  have same : ∀ {G : Hp} {p : Addr} {o : HO}, G p = some o → upd G p o = G := fun {G p o} h => by
    funext b
    by_cases hb : b = p
    · rw [hb, upd_same, h]
    · rw [upd_ne hb]
  have I5 : L2.Inv X pins σ (upd (upd H2 it (ItTO it t 0)) q (.lst (ys.take 0))) s2 := by
    rw [List.take_zero, same hit2, same hq2]
    exact I4
  have hh : X.A.in1.in1.handled = none := I4.ok.hd hc
  have go : ∀ s', L2.Inv X pins σ (upd (upd H2 it (ItTO it t 0)) q (.lst (ys.take 0))) s' → codeAny (model X.prog X.w) X.A.in1 (.builtin "list.extend.loop" ⟨[.ref q, .ref it, .none], []⟩) (wants (fun r s₂ => r = .none ∧ EP X pins σ Q (.ref q) s₂) X.xe) s' := fun s' I' =>
    ext_loop (B := B) hh hB eB nq nit hiq (fun s₂ I'' => ⟨rfl, .ref q, _, I'', rfl, hQ⟩) ys.length 0 s' (Nat.zero_add _) I'
  obtain ⟨z, its, k2, r3, hl3, e3⟩ := I4.lstM hq2
  cases r3
  refine wpAny_ite_split (fun _ => ?_) (fun _ => wpAny_pure ⟨plainId_quiet PySem.F.plain_extend_loop _, go _ I5⟩)
  refine wpAny_bind (wpAny_rule ?_)
  refine wpAny_bind ?_
  show wpAny _ _ (updateSeq q (·.push .none) >>= fun _ => updateSeq q (·.pop)) _ _ _
  refine wpAny_bind (wpAny_updateSeq e3 rfl ?_)
  have I6 := I4.lset (f := (·.push Value.none)) (its' := [Value.none]) (ys := [.non]) (t' := s2.toks) hq2 e3 (by simp) (.cons rfl .nil) (by rw [List.length_singleton, sizeLine_eq]; decide)
  obtain ⟨z4, its4, k4, r4, hl4, e4⟩ := I6.lstM upd_same
  obtain ⟨u4, rfl, ru4⟩ := r4.one
  refine wpAny_updateSeq e4 rfl ?_ (by show 1 ≤ sizeLine; rw [sizeLine_eq]; decide) (by show 0 ≤ sizeLine + 1; exact Nat.zero_le _)
  refine wpAny_pure ⟨plainId_quiet PySem.F.plain_extend_loop _, go _ ?_⟩
  have I7 := I6.lset (f := (·.pop)) (its := [u4]) (its' := []) (ys := []) (t' := s2.toks) upd_same e4 (by rfl) .nil (Nat.zero_le _)
  rw [upd_upd] at I7
  rw [List.take_zero, same hit2]
  exact I7
end
end Ap

set_option Elab.async false
set_option linter.all false
set_option maxRecDepth 100000
set_option maxHeartbeats 4000000
namespace Ap
open PySem PySem.Spec PyProof.Rows L2 Evl
local macro_rules | `(tactic| walk_at "ev") => `(tactic| (repeat' (first
  | (with_reducible first
    | exact ev_c
    | refine' ev_var ?_
    | exact ea_nil
    | refine' ea_cons ?_ ?_
    | refine' ev_op ?_ ?_ ?_
    | refine' ev_chain ?_ ?_ ?_ ?_ ?_
    | refine' ev_un ?_ ?_
    | exact rv_I0
    | refine' rv_I ?_
    | refine' ev_cb ?_ ?_
    | refine' ev_call ?_ ?_
    | exact rc_int
    | exact rc_max2
    | exact rc_min2
    | exact ru_neg
    | refine' et_test ?_
    | refine' et_B ?_)
  | ((with_reducible show _ = _); rfl)
  | ((with_reducible show SqL _ _ _ _); assumption)
  | ((with_reducible show SqT _ _ _ _); assumption)
  | ((with_reducible show CPow _ _); exact ⟨by decide, by decide, by decide⟩)
  | ((with_reducible show CDiv _ _); exact ⟨by decide, by decide⟩)
  | ((with_reducible show CMul _ _); first | exact .inr (by decide) | exact .inl (by decide) | exact .inr ⟨by omega, by omega⟩ | exact .inl ⟨by omega, by omega⟩)
  | ((with_reducible show SpV (spDraw _) _ _ _); refine' spDrawI ?_ ?_)
  | ((with_reducible show RC _ _ _ _); refine' rc_len ?_)
  | ((with_reducible show RV _ _ _ _ _); first | exact rv_eq rfl | exact rv_ne rfl)
  | ((with_reducible show _ ≤ _); first | decide | omega)
  | ((with_reducible show _ < _); first | decide | omega)
  | decide)))

def topS (i : Nat) : Stmt := PySem.Challenge.pw_appendhall_k16_records_of_a_log.main.body.getD i (.Pass ⟨0, 0, 0, 0⟩)
abbrev s__wall : Stmt := topS 0
abbrev N__wall : List Str := ["k"]
theorem sc__wall : FnScope N__wall ["k"] (defScope s__wall) := ⟨rfl, rfl, rfl, by decide +kernel, rfl, by decide +kernel, by decide +kernel⟩
abbrev s_Log___init__ : Stmt := inClass (topS 5) 0
abbrev N_Log___init__ : List Str := ["self", "base", "image", "records"]
theorem sc_Log___init__ : FnScope N_Log___init__ ["self", "base", "image", "records"] (defScope s_Log___init__) := ⟨rfl, rfl, rfl, by decide +kernel, rfl, by decide +kernel, by decide +kernel⟩
abbrev s_Log_length : Stmt := inClass (topS 5) 1
abbrev N_Log_length : List Str := ["self"]
theorem sc_Log_length : FnScope N_Log_length ["self"] (defScope s_Log_length) := ⟨rfl, rfl, rfl, by decide +kernel, rfl, by decide +kernel, by decide +kernel⟩
abbrev s_Log___len__ : Stmt := inClass (topS 5) 2
abbrev N_Log___len__ : List Str := ["self"]
theorem sc_Log___len__ : FnScope N_Log___len__ ["self"] (defScope s_Log___len__) := ⟨rfl, rfl, rfl, by decide +kernel, rfl, by decide +kernel, by decide +kernel⟩
abbrev s_Log___iter__ : Stmt := inClass (topS 5) 3
abbrev N_Log___iter__ : List Str := ["self"]
theorem sc_Log___iter__ : FnScope N_Log___iter__ ["self"] (defScope s_Log___iter__) := ⟨rfl, rfl, rfl, by decide +kernel, rfl, by decide +kernel, by decide +kernel⟩
abbrev s_Log_record : Stmt := inClass (topS 5) 4
abbrev N_Log_record : List Str := ["self", "number"]
theorem sc_Log_record : FnScope N_Log_record ["self", "number"] (defScope s_Log_record) := ⟨rfl, rfl, rfl, by decide +kernel, rfl, by decide +kernel, by decide +kernel⟩
abbrev s_Log_after : Stmt := inClass (topS 5) 5
abbrev N_Log_after : List Str := ["self", "number"]
theorem sc_Log_after : FnScope N_Log_after ["self", "number"] (defScope s_Log_after) := ⟨rfl, rfl, rfl, by decide +kernel, rfl, by decide +kernel, by decide +kernel⟩
abbrev s_Log_with_record : Stmt := inClass (topS 5) 6
abbrev N_Log_with_record : List Str := ["self", "record"]
theorem sc_Log_with_record : FnScope N_Log_with_record ["self", "record"] (defScope s_Log_with_record) := ⟨rfl, rfl, rfl, by decide +kernel, rfl, by decide +kernel, by decide +kernel⟩
abbrev s_Log_joined : Stmt := inClass (topS 5) 7
abbrev N_Log_joined : List Str := ["self", "first", "records"]
theorem sc_Log_joined : FnScope N_Log_joined ["self", "first", "records"] (defScope s_Log_joined) := ⟨rfl, rfl, rfl, by decide +kernel, rfl, by decide +kernel, by decide +kernel⟩
abbrev s_Log_cut : Stmt := inClass (topS 5) 8
abbrev N_Log_cut : List Str := ["self", "number", "image"]
theorem sc_Log_cut : FnScope N_Log_cut ["self", "number", "image"] (defScope s_Log_cut) := ⟨rfl, rfl, rfl, by decide +kernel, rfl, by decide +kernel, by decide +kernel⟩
abbrev s_Log_agrees : Stmt := inClass (topS 5) 9
abbrev N_Log_agrees : List Str := ["self", "other"]
theorem sc_Log_agrees : FnScope N_Log_agrees ["self", "other"] (defScope s_Log_agrees) := ⟨rfl, rfl, rfl, by decide +kernel, rfl, by decide +kernel, by decide +kernel⟩
abbrev s_Log_value : Stmt := inClass (topS 5) 10
abbrev N_Log_value : List Str := ["self"]
theorem sc_Log_value : FnScope N_Log_value ["self"] (defScope s_Log_value) := ⟨rfl, rfl, rfl, by decide +kernel, rfl, by decide +kernel, by decide +kernel⟩
abbrev s_Log_from_value : Stmt := inClass (topS 5) 11
abbrev N_Log_from_value : List Str := ["value"]
theorem sc_Log_from_value : FnScope N_Log_from_value ["value"] (defScope s_Log_from_value) := ⟨rfl, rfl, rfl, by decide +kernel, rfl, by decide +kernel, by decide +kernel⟩
abbrev s_Log__between : Stmt := inClass (topS 5) 12
abbrev N_Log__between : List Str := ["self", "low", "high"]
theorem sc_Log__between : FnScope N_Log__between ["self", "low", "high"] (defScope s_Log__between) := ⟨rfl, rfl, rfl, by decide +kernel, rfl, by decide +kernel, by decide +kernel⟩
abbrev s__law_stream : Stmt := topS 7
abbrev N__law_stream : List Str := ["script", "many", "draws", "cell", "rest", "k", "mixed"]
theorem sc__law_stream : FnScope N__law_stream ["script", "many"] (defScope s__law_stream) := ⟨rfl, rfl, rfl, by decide +kernel, rfl, by decide +kernel, by decide +kernel⟩
abbrev s__law_draw : Stmt := topS 8
abbrev N__law_draw : List Str := ["draws", "k"]
theorem sc__law_draw : FnScope N__law_draw ["draws", "k"] (defScope s__law_draw) := ⟨rfl, rfl, rfl, by decide +kernel, rfl, by decide +kernel, by decide +kernel⟩
abbrev s__law_large : Stmt := topS 9
abbrev N__law_large : List Str := ["draws", "k", "number", "j"]
theorem sc__law_large : FnScope N__law_large ["draws", "k"] (defScope s__law_large) := ⟨rfl, rfl, rfl, by decide +kernel, rfl, by decide +kernel, by decide +kernel⟩
abbrev s__law_record : Stmt := topS 10
abbrev N__law_record : List Str := ["draw", "texts", "deeds"]
theorem sc__law_record : FnScope N__law_record ["draw"] (defScope s__law_record) := ⟨rfl, rfl, rfl, by decide +kernel, rfl, by decide +kernel, by decide +kernel⟩
abbrev s__law_record_of : Stmt := topS 11
abbrev N__law_record_of : List Str := ["log", "number", "e"]
theorem sc__law_record_of : FnScope N__law_record_of ["log", "number"] (defScope s__law_record_of) := ⟨rfl, rfl, rfl, by decide +kernel, rfl, by decide +kernel, by decide +kernel⟩
abbrev s__law_after : Stmt := topS 12
abbrev N__law_after : List Str := ["log", "number", "e"]
theorem sc__law_after : FnScope N__law_after ["log", "number"] (defScope s__law_after) := ⟨rfl, rfl, rfl, by decide +kernel, rfl, by decide +kernel, by decide +kernel⟩
abbrev s__law_integer : Stmt := topS 13
abbrev N__law_integer : List Str := ["thing", "due"]
theorem sc__law_integer : FnScope N__law_integer ["thing", "due"] (defScope s__law_integer) := ⟨rfl, rfl, rfl, by decide +kernel, rfl, by decide +kernel, by decide +kernel⟩
abbrev s__law_holds : Stmt := topS 14
abbrev N__law_holds : List Str := ["log", "base", "image", "records", "length", "number", "due"]
theorem sc__law_holds : FnScope N__law_holds ["log", "base", "image", "records"] (defScope s__law_holds) := ⟨rfl, rfl, rfl, by decide +kernel, rfl, by decide +kernel, by decide +kernel⟩
abbrev s_law : Stmt := topS 15
abbrev N_law : List Str := ["script", "draws", "base", "images", "image", "size", "records", "k", "log", "more", "longer"]
theorem sc_law : FnScope N_law ["script"] (defScope s_law) := ⟨rfl, rfl, rfl, by decide +kernel, rfl, by decide +kernel, by decide +kernel⟩
section
variable {P : Program} {w : World} {K : PySem.W.Frag} {mg : Str → Option Value} {base : Heap}
structure Glo (mg : Str → Option Value) : Prop where
  len : mg "len" = none
  int : mg "int" = none
  range : mg "range" = none
  isinstance : mg "isinstance" = none
  tuple : mg "tuple" = none
  bool : mg "bool" = none
  list : mg "list" = none
  iter : mg "iter" = none
  ValueError : mg "ValueError" = none
theorem ok_draw {f : Addr} {fd : FuncData} {k : Nat} (F : Fun K "_law_draw" "_law_draw" s__law_draw f fd) (T : Glo mg) : FnOk P w K mg base CX0 (k + 1) f fd ["draws", "k"] (spDraw K) := by
  refine F.ok sc__law_draw (fun vs H Q E h => ?_) (fun cdv A outer s H vs Q E hr h => ?_)
  · obtain ⟨a, ds, k, rfl, _⟩ := h
    rfl
  · obtain ⟨a, ds, k, rfl, hS, q⟩ := h
    refine ⟨_, (pss_cons (ps_if (pt_cmpR op_lt (pv 1) (pe_callB call_len_seq (by rfl) T.len PySem.boot_len (pa_cons (pv 0) pa_nil)) (nomark _))
  (pss_one (ps_ret (pe_ix ix_list (pv 0) (pv 1) (fun _ _ => rfl))))
  pss_nil)
  (pss_one (ps_ret pe_int))), ?_⟩
    refine' q_when ?c (fun hb H1 e1 => ?_) (fun hb H1 e1 => ?_)
    case c => walk_at "ev"
    · have hb := of_decide_eq_true hb
      rw [List.length_map] at hb
      have hk : k < ds.length := by omega
      refine s_ret (v := .int (drw ds k)) (ev_op (ev_var rfl) (ev_var rfl) (rv_ixL (ex_l e1 hS) ?_)) fun H2 e2 => q _ (e1.trans e2)
      have e0 : (ds.map V.int)[k]? = some (.int (drw ds k)) := by
        rw [List.getElem?_map, List.getElem?_eq_getElem hk]
        unfold drw
        rw [List.getD_eq_getElem?_getD, List.getElem?_eq_getElem hk]
        rfl
      exact atI_nat e0
    · have hb := of_decide_eq_false hb
      rw [List.length_map] at hb
      refine s_ret ev_c fun H2 e2 => ?_
      have e0 : drw ds k = 0 := by
        unfold drw
        rw [List.getD_eq_getElem?_getD, List.getElem?_eq_none (by omega)]
        rfl
      rw [← e0]
      exact q _ (e1.trans e2)


/-! the draws' list: what stands between two turns -/
def DW (H0 : Hp) (l : Addr) (m : Nat) (H' : Hp) : Prop := H0 l = none ∧ Ex H0 H' ∧ ∃ ds : List Int, H' l = some (.lst (ds.map V.int)) ∧ Dr ds ∧ ds.length ≤ m
theorem pow18 : (10 : Int) ^ (18 : Int).toNat = 1000000000000000000 := by decide
theorem DW.app {H0 H1 H2 : Hp} {l : Addr} {m : Nat} {ds : List Int} {d : Int} (n : H0 l = none) (e : Ex H0 H1) (D : Dr ds) (hl : ds.length ≤ m) (h0 : 0 ≤ d) (h1 : d < 5040) (e2 : Ex H1 H2) : DW H0 l (m + 1) (upd H2 l (.lst (ds.map V.int ++ [V.int d]))) :=
  ⟨n, Ex.mut (e.trans e2) n, ds ++ [d], by rw [upd_same, List.map_append]; rfl, D.app h0 h1, by rw [List.length_append, List.length_singleton]; omega⟩
theorem ok_stream {f : Addr} {fd : FuncData} {k : Nat} (F : Fun K "_law_stream" "_law_stream" s__law_stream f fd) (T : Glo mg) : FnOk P w K mg base CX0 (k + 1) f fd ["script", "many"] (spStream K) := by
  refine F.ok sc__law_stream (fun vs H Q E h => ?_) (fun cdv A outer s H vs Q E hr h => ?_)
  · obtain ⟨a, ns, m, rfl, _⟩ := h
    rfl
  · obtain ⟨a, ns, m, rfl, hS, hn, hm, q⟩ := h
    refine ⟨_, (pss_cons (ps_set (i := 2) sc__law_stream.nd rfl (.inl rfl) (pe_lst pa_nil))
  (pss_cons (ps_for PassesOwn.never rfl (pi_list (pv 0)) (pg_name (i := 3) sc__law_stream.nd rfl (.inl rfl))
  (pss_cons (ps_if (pt_cmpR op_ge (pe_callB call_len_seq (by rfl) T.len PySem.boot_len (pa_cons (pv 2) pa_nil)) (pv 1) (nomark _))
  (pss_one ps_break)
  pss_nil)
  (pss_one (ps_if (pt_cmpR op_ge (pv 3) (pe_op op_pow pe_int pe_int) (nomark _))
  (pss_cons (ps_set (i := 4) sc__law_stream.nd rfl (.inl rfl) (pv 3))
  (pss_one (ps_for PassesOwn.never rfl (pi_range1 (by rfl) T.range (pa_cons pe_int pa_nil)) (pg_name (i := 5) sc__law_stream.nd rfl (.inl rfl))
  (pss_one (ps_if (pt_cmpR op_gt (pv 4) pe_int (nomark _))
  (pss_cons (ps_expr (pe_bm PySem.F.plainAttrs_list PySem.F.slot_list_append PySem.F.type_list_append mt_append (pv 2) (pa_cons (pe_op op_mod (pe_callTy call_int1 (by rfl) T.int (by decide +kernel) (pa_cons (pv 4) pa_nil)) pe_int) pa_nil)))
  (pss_one (ps_set (i := 4) sc__law_stream.nd rfl (.inl rfl) (pe_op op_fdiv (pv 4) pe_int))))
  pss_nil)))))
  (pss_cons (ps_set (i := 6) sc__law_stream.nd rfl (.inl rfl) (pe_op op_mod (pe_callTy call_int1 (by rfl) T.int (by decide +kernel) (pa_cons (pe_op op_add (pe_op op_add (pe_op op_mul (pv 3) pe_int) (pe_op op_mul (pe_callB call_len_seq (by rfl) T.len PySem.boot_len (pa_cons (pv 2) pa_nil)) pe_int)) pe_int) pa_nil)) pe_int))
  (pss_one (ps_for PassesOwn.never rfl (pi_range1 (by rfl) T.range (pa_cons pe_int pa_nil)) (pg_name (i := 5) sc__law_stream.nd rfl (.inl rfl))
  (pss_cons (ps_set (i := 6) sc__law_stream.nd rfl (.inl rfl) (pe_op op_mod (pe_callTy call_int1 (by rfl) T.int (by decide +kernel) (pa_cons (pe_op op_add (pe_op op_add (pe_op op_mul (pv 6) pe_int) (pe_op op_mul pe_int (pv 5))) pe_int) pa_nil)) pe_int))
  (pss_one (ps_expr (pe_bm PySem.F.plainAttrs_list PySem.F.slot_list_append PySem.F.type_list_append mt_append (pv 2) (pa_cons (pe_op op_mod (pe_callTy call_int1 (by rfl) T.int (by decide +kernel) (pa_cons (pe_op op_fdiv (pv 6) pe_int) pa_nil)) pe_int) pa_nil))))))))))))
  (pss_one (ps_ret (pv 2))))), ?_⟩
    refine' q_asgL (xs := []) (el_lst ea_nil (by decide)) (fun l H1 nl e1 h1 => ?_)
    have hS1 : SqL K H1 a (ns.map V.int) := ex_l e1 hS
    refine' q_forLn (a := a) (xs := ns.map V.int) (ev_var rfl) hS1 (fun i σ' H' => ∃ y3 y4 y5 y6, σ' = [some (.ref a), some (.int (m : Int)), some (.ref l), y3, y4, y5, y6] ∧ DW H l (m + 60) H') (fun H2 e2 => ?_) (fun i σ' H' _ p => ?_) (fun i x σ' H' hx p => ?_) (fun σ' H' p => ?_)
    · exact ⟨none, none, none, none, rfl, nl, e1.trans e2, [], e2 l _ h1, Dr.nil, Nat.zero_le _⟩
    · obtain ⟨_, _, _, _, _, _, e, _⟩ := p
      exact ex_l e hS
    · obtain ⟨y3, y4, y5, y6, rfl, n, e, ds, hd, D, hl⟩ := p
      obtain ⟨c, rfl⟩ : ∃ c, x = V.int c := by
        rw [List.getElem?_map] at hx
        cases h : ns[i]? with
        | none => rw [h] at hx; cases hx
        | some c => rw [h] at hx; exact ⟨c, (Option.some.inj hx).symm⟩
      have hL : SqL K H' l (ds.map V.int) := sq_of hd
      refine' q_when ?c (fun hb H2 e2 => ?_) (fun hb H2 e2 => ?_)
      case c => walk_at "ev"
      · -- break
        refine s_ret (ev_var rfl) fun H3 e3 => ?_
        exact q ds D hl l H3 n ((e.trans e2).trans e3) (e3 l _ (e2 l _ hd))
      · have hb := of_decide_eq_false hb
        rw [List.length_map] at hb
        have hlt : ds.length < m := by omega
        have hd2 := e2 l _ hd
        have E2 := e.trans e2
        refine' s_if ?c (fun hc H3 e3 => ?_) (fun hc H3 e3 => ?_)
        case c => walk_at "ev"
        · -- a great one
          refine' q_asg (ev_var rfl) (fun H4 e4 => ?_)
          refine' s_forR1 (n := 60) (ea_cons ev_c ea_nil) (by decide) (fun i σ' H' => ∃ (r : Int) (y5 : Option V), σ' = [some (.ref a), some (.int (m : Int)), some (.ref l), some (.int c), some (.int r), y5, y6] ∧ DW H l (m + i) H') (fun H5 e5 => ⟨c, _, rfl, n, ((E2.trans e3).trans e4).trans e5, ds, e5 l _ (e4 l _ (e3 l _ hd2)), D, by omega⟩) (fun i σ' H' hi p => ?_) (fun σ' H' p => ?_)
          · obtain ⟨r, z5, rfl, n', e', ds', hd', D', hl'⟩ := p
            have hL' : SqL K H' l (ds'.map V.int) := sq_of hd'
            refine' s_when ?c (fun hb H6 e6 => ?_) (fun hb H6 e6 => ?_)
            case c => walk_at "ev"
            · refine' q_app (l := l) (xs := ds'.map V.int) (v := .int (r % 5040)) (e6 l _ hd') (ev_var rfl) ?c (by rw [List.length_map]; omega) (fun H7 e7 => ?_)
              case c => walk_at "ev"
              refine' s_asg (v := .int (r / 5040)) ?c (fun H8 e8 => ?_)
              case c => exact ev_op (ev_var rfl) ev_c (rv_I ⟨by decide, by decide⟩)
              obtain ⟨_, k2, k3⟩ := DW.app n' (e'.trans e6) D' hl' (Int.emod_nonneg r (by decide)) (Int.emod_lt_of_pos r (by decide)) e7
              obtain ⟨ds8, k4, k5, k6⟩ := k3
              exact ⟨r / 5040, _, rfl, n', k2.trans e8, ds8, e8 l _ k4, k5, k6⟩
            · exact ⟨r, _, rfl, n', e'.trans e6, ds', e6 l _ hd', D', by omega⟩
          · obtain ⟨r, z5, rfl, w⟩ := p
            exact ⟨_, _, _, _, rfl, w⟩
        · -- a plain one
          refine' q_asg ?c (fun H4 e4 => ?_)
          case c =>
            have hL3 : SqL K H3 l (ds.map V.int) := sq_of (e3 l _ hd2)
            refine' ev_op (ev_cb (ea_cons (ev_op (ev_op (ev_op (ev_var rfl) ev_c (rv_I (.inr (by decide)))) (ev_op (ev_cb (ea_cons (ev_var rfl) ea_nil) (rc_len hL3)) ev_c (rv_I (.inr (by decide)))) rv_I0) ev_c rv_I0) ea_nil) rc_int) ev_c (rv_I (by decide))
          refine' s_forR1 (n := 4) (ea_cons ev_c ea_nil) (by decide) (fun i σ' H' => ∃ (r : Int) (y5 : Option V), σ' = [some (.ref a), some (.int (m : Int)), some (.ref l), some (.int c), y4, y5, some (.int r)] ∧ DW H l (m + i) H') (fun H5 e5 => ⟨_, _, rfl, n, ((E2.trans e3).trans e4).trans e5, ds, e5 l _ (e4 l _ (e3 l _ hd2)), D, by omega⟩) (fun i σ' H' hi p => ?_) (fun σ' H' p => ?_)
          · obtain ⟨r, z5, rfl, n', e', ds', hd', D', hl'⟩ := p
            refine' q_asg ?c (fun H6 e6 => ?_)
            case c =>
              refine' ev_op (ev_cb (ea_cons (ev_op (ev_op (ev_op (ev_var rfl) ev_c (rv_I (.inr (by decide)))) (ev_op ev_c (ev_var rfl) (rv_I (.inl (by decide)))) rv_I0) ev_c rv_I0) ea_nil) rc_int) ev_c (rv_I (by decide))
            refine' s_app (l := l) (xs := ds'.map V.int) (e6 l _ hd') (ev_var rfl) ?c (by rw [List.length_map]; omega) (fun H7 e7 => ?_)
            case c =>
              refine' ev_op (ev_cb (ea_cons (ev_op (ev_var rfl) ev_c (rv_I ⟨by decide, by decide⟩)) ea_nil) rc_int) ev_c (rv_I (by decide))
            exact ⟨_, _, rfl, DW.app n' (e'.trans e6) D' hl' (Int.emod_nonneg _ (by decide)) (Int.emod_lt_of_pos _ (by decide)) e7⟩
          · obtain ⟨r, z5, rfl, n', e', ds', hd', D', hl'⟩ := p
            exact ⟨_, _, _, _, rfl, n', e', ds', hd', D', by have : (4 : Int).toNat = 4 := rfl; omega⟩
    · obtain ⟨y3, y4, y5, y6, rfl, n, e, ds, hd, D, hl⟩ := p
      refine s_ret (ev_var rfl) fun H3 e3 => ?_
      exact q ds D hl l H3 n (e.trans e3) (e3 l _ hd)

/-! a great base: five draws; a record drawn -/
def spLarge (K : PySem.W.Frag) : Sp := fun vs H Q _ => ∃ (a : Addr) (ds : List Int) (k : Int), vs = [.ref a, .int k] ∧ SqL K H a (ds.map V.int) ∧ 0 ≤ k ∧ ∀ c : Int, 0 ≤ c → c < 10 ^ 18 - 99 → RetV (.int c) H Q
theorem ok_large {f f_d : Addr} {fd fd_d : FuncData} (F : Fun K "_law_large" "_law_large" s__law_large f fd) (D__law_draw : Df K mg "_law_draw" s__law_draw ["draws", "k"] f_d fd_d) (T : Glo mg) : FnOk P w K mg base CX0 2 f fd ["draws", "k"] (spLarge K) := by
  have G__law_draw : FnOk P w K mg base CX0 1 f_d fd_d _ _ := ok_draw D__law_draw.F T
  refine F.ok sc__law_large (fun vs H Q E h => ?_) (fun cdv A outer s H vs Q E hr h => ?_)
  · obtain ⟨a, ds, k, rfl, _⟩ := h
    rfl
  · obtain ⟨a, ds, k, rfl, hS, hk, q⟩ := h
    refine ⟨_, (pss_cons (ps_set (i := 2) sc__law_large.nd rfl (.inl rfl) pe_int)
  (pss_cons (ps_for PassesOwn.never rfl (pi_range1 (by rfl) T.range (pa_cons pe_int pa_nil)) (pg_name (i := 3) sc__law_large.nd rfl (.inl rfl))
  (pss_one (ps_set (i := 2) sc__law_large.nd rfl (.inl rfl) (pe_op op_add (pe_op op_mul (pv 2) pe_int) (pe_call G__law_draw (hr.mono (by decide)) (by rfl) D__law_draw.g D__law_draw.F.kp D__law_draw.b .nil pass0 (pa_cons (pv 0) (pa_cons (pe_op op_add (pv 1) (pv 3)) pa_nil)))))))
  (pss_one (ps_ret (pe_op op_mod (pe_callTy call_int1 (by rfl) T.int (by decide +kernel) (pa_cons (pv 2) pa_nil)) (pe_op op_sub (pe_op op_pow pe_int pe_int) pe_int)))))), ?_⟩
    refine' q_asg ev_c (fun H1 e1 => ?_)
    refine' q_forR1 (n := 5) (ea_cons ev_c ea_nil) (by decide) (fun i σ' H' => ∃ (z : Int) (y : Option V), σ' = [some (.ref a), some (.int k), some (.int z), y] ∧ Ex H H') (fun H2 e2 => ⟨0, _, rfl, e1.trans e2⟩) (fun i σ' H' hi p => ?_) (fun σ' H' p => ?_)
    · obtain ⟨z, y, rfl, e⟩ := p
      have hL : SqL K H' a (ds.map V.int) := ex_l e hS
      refine' s_asg ?w1 (fun H2 e2 => ?_)
      case w1 => walk_at "ev"
      exact ⟨_, _, rfl, e.trans e2⟩
    · obtain ⟨z, y, rfl, e⟩ := p
      refine' s_ret ?w2 (fun H2 e2 => ?_)
      case w2 => walk_at "ev"
      exact q _ (Int.emod_nonneg _ (by decide)) (Int.emod_lt_of_pos _ (by decide)) H2 (e.trans e2)
theorem spLarge_use {σ : L2.St} {H : Hp} {D : Ends} {ta : TA} {E : XK} {i : Nat} {a : Addr} {ds : List Int} {k : Int} (h : EvA ta σ H [.ref a, .int k]) (hS : SqL K H a (ds.map V.int)) (hk : 0 ≤ k) (q : ∀ c H1, 0 ≤ c → c < 10 ^ 18 - 99 → Ex H H1 → D.nx (σ.set i (some (.int c))) H1) :
    tAsg (tCall (spLarge K) [] E ta) (gName i) D σ H := h H (Ex.refl H) _ fun H1 e => ⟨a, ds, k, rfl, ex_l e hS, hk, fun c h0 h1 H2 e2 => q c H2 h0 h1 (e.trans e2)⟩
def txtD : List PyData := [.str "", .str "a", .str "ab c", .str "~", .str "zz"]
def deedsD (d : Int) : List PyData := [.tuple [.str "append", .str "/a", txtD.getD (d / 4 % 5).toNat .none], .tuple [.str "seal", .str "/b"], .tuple [.str "limit", .str "/", .int (d / 12)], .tuple [.str "x"]]
def recD (d : Int) : PyData := .tuple [.int (d % 3), .int (1 + d / 3 % 4), (deedsD d).getD (d / 60 % 4).toNat .none]
theorem sds_txt : Sds 0 txtD := sds_cons (sd_str (by decide +kernel)) (sds_cons (sd_str (by decide +kernel)) (sds_cons (sd_str (by decide +kernel)) (sds_cons (sd_str (by decide +kernel)) (sds_cons (sd_str (by decide +kernel)) sds_nil))))
theorem Sds.getD {n : Nat} {ds : List PyData} (h : Sds n ds) (i : Nat) : Sd n (ds.getD i .none) := by
  rw [List.getD_eq_getElem?_getD]
  cases e : ds[i]? with
  | none => exact sd_none
  | some d => exact h d (List.mem_of_getElem? e)
theorem Sds.up {n m : Nat} {ds : List PyData} (h : Sds n ds) (l : n ≤ m) : Sds m ds := fun d hd => (h d hd).up l
theorem sds_deeds (d : Int) : Sds 1 (deedsD d) := sds_cons (sd_tuple (sds_cons (sd_str (by decide +kernel)) (sds_cons (sd_str (by decide +kernel)) (sds_cons (sds_txt.getD _) sds_nil)))) (sds_cons (sd_tuple (sds_cons (sd_str (by decide +kernel)) (sds_cons (sd_str (by decide +kernel)) sds_nil)))
  (sds_cons (sd_tuple (sds_cons (sd_str (by decide +kernel)) (sds_cons (sd_str (by decide +kernel)) (sds_cons sd_int sds_nil)))) (sds_cons (sd_tuple (sds_cons (sd_str (by decide +kernel)) sds_nil)) sds_nil)))
theorem sd_rec (d : Int) : Sd 2 (recD d) := sd_tuple (sds_cons sd_int (sds_cons sd_int (sds_cons ((sds_deeds d).getD _) sds_nil)))
def spRec (K : PySem.W.Frag) : Sp := fun vs H Q _ => ∃ (d : Int) (B : Hp), vs = [.int d] ∧ 0 ≤ d ∧ Ex B H ∧ RetD K B (recD d) H Q
theorem spRec_d {K : PySem.W.Frag} {H : Hp} {d : Int} (h : 0 ≤ d) : SpD K (spRec K) [.int d] H (recD d) := fun H1 e1 Q q E => ⟨d, H, rfl, h, e1, q⟩
theorem ok_record {f : Addr} {fd : FuncData} (F : Fun K "_law_record" "_law_record" s__law_record f fd) : FnOk P w K mg base CX0 1 f fd ["draw"] (spRec K) := by
  refine F.ok sc__law_record (fun vs H Q E h => ?_) (fun cdv A outer s H vs Q E hr h => ?_)
  · obtain ⟨d, B, rfl, _⟩ := h
    rfl
  · obtain ⟨d, B, rfl, hd, eB, q⟩ := h
    refine ⟨_, (pss_cons (ps_set (i := 1) sc__law_record.nd rfl (.inl rfl) (pe_tup (pa_cons pe_str (pa_cons pe_str (pa_cons pe_str (pa_cons pe_str (pa_cons pe_str pa_nil)))))))
  (pss_cons (ps_set (i := 2) sc__law_record.nd rfl (.inl rfl) (pe_tup (pa_cons (pe_tup (pa_cons pe_str (pa_cons pe_str (pa_cons (pe_ix ix_tup (pv 1) (pe_op op_mod (pe_op op_fdiv (pv 0) pe_int) pe_int) (fun _ _ => rfl)) pa_nil)))) (pa_cons (pe_tup (pa_cons pe_str (pa_cons pe_str pa_nil))) (pa_cons (pe_tup (pa_cons pe_str (pa_cons pe_str (pa_cons (pe_op op_fdiv (pv 0) pe_int) pa_nil)))) (pa_cons (pe_tup (pa_cons pe_str pa_nil)) pa_nil))))))
  (pss_one (ps_ret (pe_tup (pa_cons (pe_op op_mod (pv 0) pe_int) (pa_cons (pe_op op_add pe_int (pe_op op_mod (pe_op op_fdiv (pv 0) pe_int) pe_int)) (pa_cons (pe_ix ix_tup (pv 2) (pe_op op_mod (pe_op op_fdiv (pv 0) pe_int) pe_int) (fun _ _ => rfl)) pa_nil)))))))), ?_⟩
    refine q_asgDB (K := K) (d := .tuple txtD) eB (ed_tup (eds_cons ed_str (eds_cons ed_str (eds_cons ed_str (eds_cons ed_str (eds_cons ed_str eds_nil))))) (Nat.le_of_ble_eq_true rfl)) (fun v1 H1 e1 h1 => ?_)
    have eB1 : Ex (ov B H H1) H1 := ov_ex eB e1
    refine' q_asgDB (K := K) (d := .tuple (deedsD d)) eB1 ?c (fun v2 H2 e2 h2 => ?_)
    case c =>
      refine' ed_tup (eds_cons (ed_tup (eds_cons ed_str (eds_cons ed_str (eds_cons (ed_ixT (i := d / 4 % 5) (ed_var rfl h1) ?i1 (atI_getD ?g1 ?g2)) eds_nil))) (Nat.le_of_ble_eq_true rfl)) (eds_cons (ed_tup (eds_cons ed_str (eds_cons ed_str eds_nil)) (Nat.le_of_ble_eq_true rfl)) (eds_cons (ed_tup (eds_cons ed_str (eds_cons ed_str (eds_cons (ed_int (i := d / 12) ?i2) eds_nil))) (Nat.le_of_ble_eq_true rfl)) (eds_cons (ed_tup (eds_cons ed_str eds_nil) (Nat.le_of_ble_eq_true rfl)) eds_nil)))) (Nat.le_of_ble_eq_true rfl)
      case i1 => walk_at "ev"
      case i2 => walk_at "ev"
      case g1 => omega
      case g2 =>
        show d / 4 % 5 < 5
        omega
    have eB2 : Ex (ov (ov B H H1) H1 H2) H2 := ov_ex eB1 e2
    refine' s_retDB (K := K) (d := recD d) eB2 ?c (fun v H3 e3 h3 => q v H3 ((e1.trans e2).trans e3) (dp_mono ((ov_ov eB1 e2 e3).trans (ov_ov eB e1 (e2.trans e3))) _ v h3))
    case c =>
      refine' ed_tup (eds_cons (ed_int (i := d % 3) ?i1) (eds_cons (ed_int (i := 1 + d / 3 % 4) ?i2) (eds_cons (ed_ixT (i := d / 60 % 4) (ed_var rfl h2) ?i3 (atI_getD ?g1 ?g2)) eds_nil))) (Nat.le_of_ble_eq_true rfl)
      case i1 => walk_at "ev"
      case i2 => walk_at "ev"
      case i3 => walk_at "ev"
      case g1 => omega
      case g2 =>
        show d / 60 % 4 < 4
        omega
def imgD : List PyData := [.int 0, .str "", .tuple [], .tuple [.str "image", .tuple [.int 1, .str "two"]], .int (-5)]
theorem sds_img : Sds 2 imgD := sds_cons sd_int (sds_cons (sd_str (by decide +kernel)) (sds_cons (sd_tuple sds_nil) (sds_cons (sd_tuple (sds_cons (sd_str (by decide +kernel)) (sds_cons (sd_tuple (sds_cons sd_int (sds_cons (sd_str (by decide +kernel)) sds_nil))) sds_nil))) (sds_cons sd_int sds_nil))))

/-! ### a log: an object with a base, an image and a tuple of records -/
def fLog (b im r : V) : List (Str × V) := [("base", b), ("image", im), ("records", r)]
theorem fl_put (b im r : V) : putF "records" r (putF "image" im (putF "base" b [])) = fLog b im r := by rfl
theorem fl_base (b im r : V) : (fLog b im r).lookup ("base" : Str) = some b := by rfl
theorem fl_image (b im r : V) : (fLog b im r).lookup ("image" : Str) = some im := by rfl
theorem fl_records (b im r : V) : (fLog b im r).lookup ("records" : Str) = some r := by rfl
theorem fl_no (b im r : V) {m : Str} (h1 : (m == ("base" : Str)) = false) (h2 : (m == ("image" : Str)) = false) (h3 : (m == ("records" : Str)) = false) : (fLog b im r).lookup m = none := by
  unfold fLog
  rw [List.lookup_cons, h1, List.lookup_cons, h2, List.lookup_cons, h3]
  rfl
/-- the log of these at p -/
def LogAt (K : PySem.W.Frag) (C : Addr) (H : Hp) (p : Addr) (b : Int) (im : PyData) (rs : List PyData) : Prop := ∃ dx vi t, H p = some (.ins C dx (fLog (.int b) vi t)) ∧ Dp K H vi im ∧ Dp K H t (.tuple rs)
theorem LogAt.mono {K : PySem.W.Frag} {C : Addr} {H H' : Hp} {p : Addr} {b : Int} {im : PyData} {rs : List PyData} (e : Ex H H') (h : LogAt K C H p b im rs) : LogAt K C H' p b im rs := by
  obtain ⟨dx, vi, t, h1, h2, h3⟩ := h
  exact ⟨dx, vi, t, e _ _ h1, dp_mono e _ _ h2, dp_mono e _ _ h3⟩
structure LogC (K : PySem.W.Frag) (C : Addr) : Prop where
  cl : Cls K C
  nB : NoAttr K C "base"
  nI : NoAttr K C "image"
  nR : NoAttr K C "records"
section
variable {K : PySem.W.Frag} {σ : L2.St} {H B : Hp} {ta : TE} {C p : Addr} {b : Int} {im : PyData} {rs : List PyData}
theorem ev_base (L : LogC K C) (h : Ev ta σ H (.ref p)) (l : LogAt K C H p b im rs) : Ev (tFld K ta "base") σ H (.int b) := fun H1 e Q q => h H1 e _ fun H2 e2 => by
  obtain ⟨dx, vi, t, h1, _, _⟩ := l
  exact ⟨p, C, dx, _, _, rfl, (e.trans e2) _ _ h1, L.cl, L.nB, fl_base _ _ _, q H2 e2⟩
theorem ed_image (L : LogC K C) (h : Ev ta σ H (.ref p)) (l : LogAt K C H p b im rs) : EvD K (tFld K ta "image") σ H im := fun H1 e Q q => h H1 e _ fun H2 e2 => by
  obtain ⟨dx, vi, t, h1, h2, _⟩ := l
  exact ⟨p, C, dx, _, _, rfl, (e.trans e2) _ _ h1, L.cl, L.nI, fl_image _ _ _, q vi H2 e2 (dp_mono ov_base _ _ h2)⟩
theorem ed_records (L : LogC K C) (h : Ev ta σ H (.ref p)) (l : LogAt K C H p b im rs) : EvD K (tFld K ta "records") σ H (.tuple rs) := fun H1 e Q q => h H1 e _ fun H2 e2 => by
  obtain ⟨dx, vi, t, h1, _, h3⟩ := l
  exact ⟨p, C, dx, _, _, rfl, (e.trans e2) _ _ h1, L.cl, L.nR, fl_records _ _ _, q t H2 e2 (dp_mono ov_base _ _ h3)⟩
end
def spLogInit (C : Addr) : Sp := fun vs H Q _ => ∃ (p dx : Addr) (b im r : V), vs = [.ref p, b, im, r] ∧ H p = some (.ins C dx []) ∧ ∀ H', H' p = some (.ins C dx (fLog b im r)) → (∀ a, a ≠ p → H' a = H a) → Q .non H'
theorem ok_log_init {f C : Addr} {fd : FuncData} (F : Fun K "__init__" "Log.__init__" s_Log___init__ f fd) (L : LogC K C) : FnOk P w K mg base CX0 1 f fd ["self", "base", "image", "records"] (spLogInit C) := by
  refine F.ok sc_Log___init__ (fun vs H Q E h => ?_) (fun cdv A outer s H vs Q E hr h => ?_)
  · obtain ⟨p, dx, b, im, r, rfl, _⟩ := h
    rfl
  · obtain ⟨p, dx, b, im, r, rfl, hp, q⟩ := h
    refine ⟨_, (pss_cons (ps_fld (pv 0) (pv 1) rfl)
  (pss_cons (ps_fld (pv 0) (pv 2) rfl)
  (pss_one (ps_fld (pv 0) (pv 3) rfl)))), ?_⟩
    refine ⟨_, rfl, _, rfl, p, C, dx, [], rfl, hp, L.cl, L.nB, (by show 0 < 1000; decide), ?_⟩
    refine ⟨_, rfl, _, rfl, p, C, dx, _, rfl, upd_same, L.cl, L.nI, (by show 1 < 1000; decide), ?_⟩
    refine ⟨_, rfl, _, rfl, p, C, dx, _, rfl, upd_same, L.cl, L.nR, (by show 2 < 1000; decide), ?_⟩
    refine q _ ?_ (fun a ha => ?_)
    · rw [upd_same, fl_put]
    · rw [upd_ne ha, upd_ne ha, upd_ne ha]
/-- Log(b, im, r) -/
theorem s_mkLog {σ : L2.St} {B H : Hp} {C : Addr} {ta : TA} {E : XK} {Q : VK} {vb : Int} {im : PyData} {rs : List PyData} (eB : Ex B H) (h : EvDs K ta σ B [.int vb, im, .tuple rs]) (q : ∀ p H1, H p = none → Ex H H1 → LogAt K C (ov B H H1) p vb im rs → Q (.ref p) H1) :
    tMake C (spLogInit C) [] E ta σ H Q := h H eB _ fun vs H1 e hd x dx nx ndx nex => by
  cases hd with
  | cons d1 r1 => cases r1 with
    | cons d2 r2 => cases r2 with
      | cons d3 r3 =>
        cases r3
        cases d1
        rename_i vi vr
        refine ⟨x, dx, _, vi, vr, rfl, upd_same, fun H2 h2 ho => ⟨rfl, ?_⟩⟩
        have e2 : Ex H1 H2 := fun a o ha1 => by
          have n1 : a ≠ x := ne_of_none ha1 nx
          rw [ho a n1, upd_ne n1, upd_ne (ne_of_none ha1 ndx)]
          exact ha1
        have n0 := fresh_back e nx
        have o2 : Ex (ov B H H1) (ov B H H2) := ov_grow e2
        exact q x H2 n0 (e.trans e2) ⟨dx, _, _, by unfold ov; rw [fresh_back eB n0, n0]; exact h2, dp_mono o2 _ _ d2, dp_mono o2 _ _ d3⟩
theorem q_mkLog {σ : L2.St} {B H : Hp} {D : Ends} {tz : TS} {C : Addr} {ta : TA} {E : XK} {i : Nat} {vb : Int} {im : PyData} {rs : List PyData} (eB : Ex B H) (h : EvDs K ta σ B [.int vb, im, .tuple rs]) (q : ∀ p H1, H p = none → Ex H H1 → LogAt K C (ov B H H1) p vb im rs → tz D (σ.set i (some (.ref p))) H1) :
    tSeq (tAsg (tMake C (spLogInit C) [] E ta) (gName i)) tz D σ H := (show tMake C (spLogInit C) [] E ta σ H (fun v H1 => tz D (σ.set i (some v)) H1) from s_mkLog eB h q)

def spLogLen (K : PySem.W.Frag) (C : Addr) : Sp := fun vs H Q _ => ∃ (p : Addr) (b : Int) (im : PyData) (rs : List PyData), vs = [.ref p] ∧ LogAt K C H p b im rs ∧ RetV (.int (b + (rs.length : Int))) H Q
theorem ok_log_len {f C : Addr} {fd : FuncData} (F : Fun K "length" "Log.length" s_Log_length f fd) (L : LogC K C) (T : Glo mg) : FnOk P w K mg base CX0 1 f fd ["self"] (spLogLen K C) := by
  refine F.ok sc_Log_length (fun vs H Q E h => ?_) (fun cdv A outer s H vs Q E hr h => ?_)
  · obtain ⟨p, b, im, rs, rfl, _⟩ := h
    rfl
  · obtain ⟨p, b, im, rs, rfl, l, q⟩ := h
    refine ⟨_, (pss_one (ps_ret (pe_op op_add (pe_fld (pv 0) rfl) (pe_callB call_len_seq (by rfl) T.len PySem.boot_len (pa_cons (pe_fld (pv 0) rfl) pa_nil))))), ?_⟩
    exact s_ret (ev_op (ev_base L (ev_var rfl) l) (ev_lenDT (K := K) (ed_records L (ev_var rfl) l)) rv_I0) q
theorem ev_loglen {σ : L2.St} {H : Hp} {C p : Addr} {ta : TE} {E : XK} {b : Int} {im : PyData} {rs : List PyData} (h : Ev ta σ H (.ref p)) (l : LogAt K C H p b im rs) : Ev (tProp C (spLogLen K C) [] E ta) σ H (.int (b + (rs.length : Int))) := fun H1 e Q q => h H1 e _ fun H2 e2 => by
  obtain ⟨dx, vi, t, h1, _, _⟩ := id l
  exact ⟨p, dx, _, rfl, (e.trans e2) _ _ h1, p, b, im, rs, rfl, l.mono (e.trans e2), fun H3 e3 => q H3 (e2.trans e3)⟩

/-! ### len(log), iter(log), list(log) -/
def spLen2 (K : PySem.W.Frag) (C : Addr) : Sp := fun vs H Q _ => ∃ (p : Addr) (b : Int) (im : PyData) (rs : List PyData), vs = [.ref p] ∧ LogAt K C H p b im rs ∧ RetV (.int (rs.length : Int)) H Q
theorem ok_len2 {f C : Addr} {fd : FuncData} (D_Log___len__ : Dm K C "__len__" "Log.__len__" s_Log___len__ ["self"] f fd) (L : LogC K C) (T : Glo mg) : FnOk P w K mg base CX0 1 f fd ["self"] (spLen2 K C) := by
  refine D_Log___len__.F.ok sc_Log___len__ (fun vs H Q E h => ?_) (fun cdv A outer s H vs Q E hr h => ?_)
  · obtain ⟨p, b, im, rs, rfl, _⟩ := h
    rfl
  · obtain ⟨p, b, im, rs, rfl, l, q⟩ := h
    refine ⟨_, (pss_one (ps_ret (pe_callB call_len_seq (by rfl) T.len PySem.boot_len (pa_cons (pe_fld (pv 0) rfl) pa_nil)))), ?_⟩
    exact s_ret (ev_lenDT (K := K) (ed_records L (ev_var rfl) l)) q
def spIter2 (K : PySem.W.Frag) (C : Addr) : Sp := fun vs H Q _ => ∃ (p dx t : Addr) (b : Int) (vi : V) (ys : List V), vs = [.ref p] ∧ H p = some (.ins C dx (fLog (.int b) vi (.ref t))) ∧ SqT K H t ys ∧ ∀ H1, Ex H H1 → ∀ it, H1 it = none → Q (.ref it) (upd H1 it (ItTO it t 0))
theorem ok_iter2 {f C : Addr} {fd : FuncData} (D_Log___iter__ : Dm K C "__iter__" "Log.__iter__" s_Log___iter__ ["self"] f fd) (L : LogC K C) (T : Glo mg) : FnOk P w K mg base CX0 1 f fd ["self"] (spIter2 K C) := by
  refine D_Log___iter__.F.ok sc_Log___iter__ (fun vs H Q E h => ?_) (fun cdv A outer s H vs Q E hr h => ?_)
  · obtain ⟨p, dx, t, b, vi, ys, rfl, _⟩ := h
    rfl
  · obtain ⟨p, dx, t, b, vi, ys, rfl, hp, hs, q⟩ := h
    refine ⟨_, (pss_one (ps_ret (pe_callB call_iterT (by rfl) T.iter (by decide +kernel) (pa_cons (pe_fld (pv 0) rfl) pa_nil)))), ?_⟩
    exact ⟨.ref p, rfl, p, C, dx, _, _, rfl, hp, L.cl, L.nR, fl_records _ _ _, t, ys, rfl, hs, fun it hit => q H (Ex.refl H) it hit⟩
section
variable {σ : L2.St} {H : Hp} {C p : Addr} {ta : TE} {b : Int} {im : PyData} {rs : List PyData}
theorem ev_len2 {E : XK} (h : Ev ta σ H (.ref p)) (l : LogAt K C H p b im rs) (hl : rs.length ≤ 1000) : Ev (tCB (rLenO C (spLen2 K C) E) (tCons ta tNil)) σ H (.int (rs.length : Int)) := fun H1 e Q q => h H1 e _ fun H2 e2 => by
  obtain ⟨dx, vi, t, h1, _, _⟩ := id l
  exact ⟨p, dx, _, rfl, (e.trans e2) _ _ h1, p, b, im, rs, rfl, l.mono (e.trans e2), fun H3 e3 => ⟨_, rfl, by omega, by omega, q H3 (e2.trans e3)⟩⟩
theorem ed_list2 {EI EL : XK} (h : Ev ta σ H (.ref p)) (l : LogAt K C H p b im rs) (hl : rs.length ≤ 1000) : EvD K (tCB (rListO K C (spIter2 K C) (spLen2 K C) EI EL) (tCons ta tNil)) σ H (.list rs) := fun H1 e Q q => h H1 e _ fun H2 e2 => by
  obtain ⟨dx, vi, tv, h1, h2, h3⟩ := id l
  cases h3 with
  | @tup t ys _ hs hd =>
    have ee := e.trans e2
    have hp2 := ee _ _ h1
    have hs2 := ex_t ee hs
    have hyl := dpa_len hd
    refine ⟨p, dx, t, _, ys, H2, rfl, hp2, hs2, by omega, fun qa nq => ⟨nq, ?_⟩⟩
    have eq1 : Ex H2 (upd H2 qa (.lst [])) := Ex.new nq
    refine ⟨p, dx, t, b, vi, ys, rfl, eq1 _ _ hp2, ex_t eq1 hs2, fun H3 e3 it nit => ?_⟩
    have e23 : Ex H2 H3 := eq1.trans e3
    have nit2 : H2 it = none := fresh_back e23 nit
    have hq3 : H3 qa = some (.lst []) := e3 _ _ upd_same
    have niq : it ≠ qa := (ne_of_none hq3 nit).symm
    have e4 : Ex H2 (upd H3 it (ItTO it t 0)) := e23.trans (Ex.new nit)
    refine ⟨it, dx, _, rfl, nit2, upd_same, by rw [upd_ne niq.symm]; exact hq3, e4 _ _ hp2, p, b, im, rs, rfl, l.mono (ee.trans e4), fun H5 e5 => ⟨_, rfl, by omega, by omega, by omega, e5 _ _ upd_same, e5 _ _ (by rw [upd_ne niq.symm]; exact hq3), e4.trans e5, ?_⟩⟩
    have e6 : Ex H2 (upd (upd H5 it (DeadO it)) qa (.lst ys)) := Ex.mut (Ex.mut (e4.trans e5) nit2) nq
    have nq1 : H1 qa = none := fresh_back e2 nq
    refine q _ _ (e2.trans e6) (.lst (sq_of ?_) (dpa_mono ov_base _ _ hd))
    unfold ov
    rw [fresh_back e nq1, nq1]
    exact upd_same
theorem tyx_tup {K : PySem.W.Frag} {H : Hp} {a : Addr} {xs : List V} (h : SqT K H a xs) : TyX K H (.ref a) (.type "tuple") := by
  rcases h with (h | ⟨o, h⟩) | ⟨o, its, n, h, hc, _⟩
  · exact .base (.tup h)
  · exact .fTuple h
  · exact .kTuple h hc
theorem ev_isiT {te : TE} {ds : List PyData} (h : EvD K te σ H (.tuple ds)) : Ev (tCB (rIsi K) (tCons te (tCons (tC (.ty "tuple")) tNil))) σ H (.bl true) := fun H1 e Q q => h H1 e _ fun v H2 e2 hv => by
  cases hv with
  | @tup a xs _ hs hd => exact ⟨.ref a, .ty "tuple", .type "tuple", .type "tuple", true, rfl, .ty _, tyx_tup (ex_t (ov_ex e e2) hs), kit_ty (by decide +kernel), q H2 e2⟩
end
/-! ### record, after, with_record -/
theorem two_of {x y : Bool} (h : (!(x && y)) = false) : x = true ∧ y = true := by
  cases x <;> cases y <;> simp_all
theorem not_two {p q : Prop} [Decidable p] [Decidable q] (h : (!(decide p && decide q)) = true) : ¬ (p ∧ q) := fun ⟨a, b⟩ => by
  rw [decide_eq_true a, decide_eq_true b] at h
  cases h
def spRecord (K : PySem.W.Frag) (C CO : Addr) : Sp := fun vs H Q E => ∃ (p : Addr) (n b : Int) (im : PyData) (rs : List PyData) (B : Hp), vs = [.ref p, .int n] ∧ Ex B H ∧ LogAt K C B p b im rs ∧
  (¬ (b < n ∧ n ≤ b + (rs.length : Int)) → ∀ H1, Ex H H1 → E (.ref CO) none H1) ∧ (b < n → n ≤ b + (rs.length : Int) → RetD K B (rs.getD (n - b - 1).toNat .none) H Q)
theorem ok_record2 {f C C_OutOfRange C_HallError f_l : Addr} {fd fd_l : FuncData} (D_Log_record : Dm K C "record" "Log.record" s_Log_record ["self", "number"] f fd) (D_Log_length : Pr K C "length" "Log.length" s_Log_length f_l fd_l) (L_Log : Kl K mg "Log" C) (L : LogC K C) (E_OutOfRange : Err K mg "OutOfRange" C_OutOfRange C_HallError) (T : Glo mg) :
    FnOk P w K mg base (L2.CX P w) 4 f fd ["self", "number"] (spRecord K C C_OutOfRange) := by
  have G_Log_length : FnOk P w K mg base CX0 1 f_l fd_l _ _ := ok_log_len D_Log_length.F L T
  refine D_Log_record.F.okX sc_Log_record (fun vs H Q E h => ?_) (fun cdv A outer s H vs Q E hr h => ?_)
  · obtain ⟨p, n, b, im, rs, B, rfl, _⟩ := h
    rfl
  · obtain ⟨p, n, b, im, rs, B, rfl, eB, l, q1, q2⟩ := h
    refine ⟨_, (pss_cons (ps_if (pt_not (pt_chain op_lt op_le (pe_fld (pv 0) rfl) (pv 1) (pe_pr (pv 0) L_Log.cl D_Log_length G_Log_length (hr.mono (by decide)) pass0 rfl)))
  (pss_one (ps_raise rfl (takes_of rfl rfl rfl rfl) (Err.mk' E_OutOfRange rfl)))
  pss_nil)
  (pss_one (ps_ret (pe_ix ix_tup (pe_fld (pv 0) rfl) (pe_op op_sub (pe_op op_sub (pv 1) (pe_fld (pv 0) rfl)) pe_int) (fun _ _ => rfl))))), ?_⟩
    have lH := l.mono eB
    refine' q_when (b := !(decide (b < n) && decide (n ≤ b + (rs.length : Int)))) (et_not (et_test (ev_chain (ev_base L (ev_var rfl) lH) (ev_var rfl) rv_I0 (ev_loglen (K := K) (ev_var rfl) lH) rv_I0))) (fun hb H1 e1 => ?_) (fun hb H1 e1 => ?_)
    · exact q1 (not_two hb) H1 e1
    · obtain ⟨h1, h2⟩ := two_of hb
      have h1 := of_decide_eq_true h1
      have h2 := of_decide_eq_true h2
      exact s_retDB (K := K) (eB.trans e1) (ed_ixT (i := n - b - 1) (ed_records L (ev_var rfl) l) (ev_op (ev_op (ev_var rfl) (ev_base L (ev_var rfl) l) rv_I0) ev_c rv_I0) (atI_getD (by omega) (by omega))) (fun v H2 e2 hv => q2 h1 h2 v H2 (e1.trans e2) (dp_mono (ov_later e1) _ _ hv))
def spAfter (K : PySem.W.Frag) (C CO : Addr) : Sp := fun vs H Q E => ∃ (p : Addr) (n b : Int) (im : PyData) (rs : List PyData) (B : Hp), vs = [.ref p, .int n] ∧ Ex B H ∧ LogAt K C B p b im rs ∧
  (¬ (b ≤ n ∧ n ≤ b + (rs.length : Int)) → ∀ H1, Ex H H1 → E (.ref CO) none H1) ∧ (b ≤ n → n ≤ b + (rs.length : Int) → RetD K B (.tuple (rs.drop (n - b).toNat)) H Q)
theorem ok_after2 {f C C_OutOfRange C_HallError f_l : Addr} {fd fd_l : FuncData} (D_Log_after : Dm K C "after" "Log.after" s_Log_after ["self", "number"] f fd) (D_Log_length : Pr K C "length" "Log.length" s_Log_length f_l fd_l) (L_Log : Kl K mg "Log" C) (L : LogC K C) (E_OutOfRange : Err K mg "OutOfRange" C_OutOfRange C_HallError) (T : Glo mg) :
    FnOk P w K mg base (L2.CX P w) 4 f fd ["self", "number"] (spAfter K C C_OutOfRange) := by
  have G_Log_length : FnOk P w K mg base CX0 1 f_l fd_l _ _ := ok_log_len D_Log_length.F L T
  refine D_Log_after.F.okX sc_Log_after (fun vs H Q E h => ?_) (fun cdv A outer s H vs Q E hr h => ?_)
  · obtain ⟨p, n, b, im, rs, B, rfl, _⟩ := h
    rfl
  · obtain ⟨p, n, b, im, rs, B, rfl, eB, l, q1, q2⟩ := h
    refine ⟨_, (pss_cons (ps_if (pt_not (pt_chain op_le op_le (pe_fld (pv 0) rfl) (pv 1) (pe_pr (pv 0) L_Log.cl D_Log_length G_Log_length (hr.mono (by decide)) pass0 rfl)))
  (pss_one (ps_raise rfl (takes_of rfl rfl rfl rfl) (Err.mk' E_OutOfRange rfl)))
  pss_nil)
  (pss_one (ps_ret (pe_slice sl_tupA (pe_fld (pv 0) rfl) (po_some (pe_op op_sub (pv 1) (pe_fld (pv 0) rfl))) po_none)))), ?_⟩
    have lH := l.mono eB
    refine' q_when (b := !(decide (b ≤ n) && decide (n ≤ b + (rs.length : Int)))) (et_not (et_test (ev_chain (ev_base L (ev_var rfl) lH) (ev_var rfl) rv_I0 (ev_loglen (K := K) (ev_var rfl) lH) rv_I0))) (fun hb H1 e1 => ?_) (fun hb H1 e1 => ?_)
    · exact q1 (not_two hb) H1 e1
    · obtain ⟨h1, h2⟩ := two_of hb
      have h1 := of_decide_eq_true h1
      have h2 := of_decide_eq_true h2
      have es : EvD K (tSl (rSlA K) (tFld K (tVar 0) "records") (tPart (tOp (rI0 fun i j => .int (i - j)) (tVar 1) (tFld K (tVar 0) "base"))) tNoPart) [some (.ref p), some (.int n)] B (.tuple (rs.drop (n - b).toNat)) :=
        ed_is (ed_slT (ed_records L (ev_var rfl) l) (eo_some (ev_op (ev_var rfl) (ev_base L (ev_var rfl) l) rv_I0)) eo_none) (by
          show PyData.tuple (cutA rs (some (n - b)) none) = _
          obtain ⟨m, hm⟩ := Int.eq_ofNat_of_zero_le (show 0 ≤ n - b by omega)
          rw [hm, cutA_from]
          rfl)
      exact s_retDB (K := K) (eB.trans e1) es (fun v H2 e2 hv => q2 h1 h2 v H2 (e1.trans e2) (dp_mono (ov_later e1) _ _ hv))
def spWith (K : PySem.W.Frag) (C : Addr) : Sp := fun vs H Q _ => ∃ (p : Addr) (v : V) (b : Int) (im d : PyData) (rs : List PyData) (B : Hp), vs = [.ref p, v] ∧ Ex B H ∧ LogAt K C B p b im rs ∧ Dp K B v d ∧ rs.length ≤ 1000 ∧ ∀ q H1, H q = none → Ex H H1 → LogAt K C (ov B H H1) q b im (rs ++ [d]) → Q (.ref q) H1
theorem ok_with {f C f_i : Addr} {fd fd_i : FuncData} (D_Log_with_record : Dm K C "with_record" "Log.with_record" s_Log_with_record ["self", "record"] f fd) (D_Log___init__ : Dm K C "__init__" "Log.__init__" s_Log___init__ ["self", "base", "image", "records"] f_i fd_i) (L_Log : Kl K mg "Log" C) (L : LogC K C) :
    FnOk P w K mg base CX0 4 f fd ["self", "record"] (spWith K C) := by
  have G_Log___init__ : FnOk P w K mg base CX0 1 f_i fd_i _ _ := ok_log_init D_Log___init__.F L
  refine D_Log_with_record.F.ok sc_Log_with_record (fun vs H Q E h => ?_) (fun cdv A outer s H vs Q E hr h => ?_)
  · obtain ⟨p, v, b, im, d, rs, B, rfl, _⟩ := h
    rfl
  · obtain ⟨p, v, b, im, d, rs, B, rfl, eB, l, hv, hl, q⟩ := h
    refine ⟨_, (pss_one (ps_ret (pe_make (L_Log.make D_Log___init__) G_Log___init__ (hr.mono (by decide)) (by rfl) L_Log.g D_Log___init__.b .nil pass0 (pa_cons (pe_fld (pv 0) rfl) (pa_cons (pe_fld (pv 0) rfl) (pa_cons (pe_op op_catA (pe_fld (pv 0) rfl) (pe_tup (pa_cons (pv 1) pa_nil))) pa_nil)))))), ?_⟩
    exact s_mkLog (K := K) (B := B) (vb := b) eB (eds_cons (ed_int (ev_base L (ev_var rfl) l)) (eds_cons (ed_image L (ev_var rfl) l) (eds_cons (ed_catT (ed_records L (ev_var rfl) l) (ed_tup (eds_cons (ed_var rfl hv) eds_nil) (Nat.le_of_ble_eq_true rfl)) (by rw [List.length_singleton]; omega)) eds_nil))) q
/-! ### the two, caught -/
def outD : PyData := .tuple [.str "out", .bool true]
def recOfD (b n : Int) (rs : List PyData) : PyData := if b < n ∧ n ≤ b + (rs.length : Int) then .tuple [.str "record", rs.getD (n - b - 1).toNat .none] else outD
def aftD (b n : Int) (rs : List PyData) : PyData := if b ≤ n ∧ n ≤ b + (rs.length : Int) then .tuple [.str "after", .tuple (rs.drop (n - b).toNat)] else outD
theorem sd_out : Sd 4 outD := (sd_tuple (n := 0) (sds_cons (sd_str (by decide +kernel)) (sds_cons sd_bool sds_nil))).up (by decide)
theorem sd_recOf {b n : Int} {rs : List PyData} (h : Sds 2 rs) : Sd 4 (recOfD b n rs) := by
  unfold recOfD
  split
  · exact (sd_tuple (n := 2) (sds_cons (sd_str (by decide +kernel)) (sds_cons (h.getD _) sds_nil))).up (by decide)
  · exact sd_out
theorem sd_aft {b n : Int} {rs : List PyData} (h : Sds 2 rs) : Sd 4 (aftD b n rs) := by
  unfold aftD
  split
  · exact sd_tuple (n := 3) (sds_cons (sd_str (by decide +kernel)) (sds_cons (sd_tuple (h.drop _)) sds_nil))
  · exact sd_out
def spRO (K : PySem.W.Frag) (C : Addr) (g : Int → Int → List PyData → PyData) : Sp := fun vs H Q _ => ∃ (p : Addr) (n b : Int) (im : PyData) (rs : List PyData) (B : Hp), vs = [.ref p, .int n] ∧ Ex B H ∧ LogAt K C B p b im rs ∧ RetD K B (g b n rs) H Q
theorem spRO_d {H : Hp} {C p : Addr} {n b : Int} {im : PyData} {rs : List PyData} {g : Int → Int → List PyData → PyData} (l : LogAt K C H p b im rs) : SpD K (spRO K C g) [.ref p, .int n] H (g b n rs) := fun H1 e1 Q q E => ⟨p, n, b, im, rs, H, rfl, e1, l, q⟩
theorem dp_pair {B H H1 : Hp} {v : V} {x : Str} {d : PyData} {tp : Addr} (eB : Ex B H) (e1 : Ex H H1) (hv : Dp K (ov B H H1) v d) (np : H1 tp = none) : Dp K (ov B H (upd H1 tp (.tup [.str x, v]))) (.ref tp) (.tuple [.str x, d]) :=
  .tup (st_of (ov_new eB e1 np)) (.cons (.str x) (.cons (dp_mono (ov_grow (Ex.new np)) _ _ hv) .nil))
theorem ok_ro {f C C_OutOfRange C_HallError f_r f_l : Addr} {fd fd_r fd_l : FuncData} (F : Fun K "_law_record_of" "_law_record_of" s__law_record_of f fd) (D_Log_record : Dm K C "record" "Log.record" s_Log_record ["self", "number"] f_r fd_r) (D_Log_length : Pr K C "length" "Log.length" s_Log_length f_l fd_l)
    (L_Log : Kl K mg "Log" C) (L : LogC K C) (E_OutOfRange : Err K mg "OutOfRange" C_OutOfRange C_HallError) (g_HallError : mg "HallError" = some (.ref C_HallError)) (T : Glo mg) : FnOk P w K mg base CX0 5 f fd ["log", "number"] (spRO K C recOfD) := by
  have G_Log_record : FnOk P w K mg base (L2.CX P w) 4 f_r fd_r _ _ := ok_record2 D_Log_record D_Log_length L_Log L E_OutOfRange T
  refine F.ok sc__law_record_of (fun vs H Q E h => ?_) (fun cdv A outer s H vs Q E hr h => ?_)
  · obtain ⟨p, n, b, im, rs, B, rfl, _⟩ := h
    rfl
  · obtain ⟨p, n, b, im, rs, B, rfl, eB, l, q⟩ := h
    refine ⟨_, (pss_one (ps_try_own (C := C_OutOfRange) (i := 2) rfl rfl sc__law_record_of.nd rfl rfl ⟨rfl, by decide, .inl E_OutOfRange.g⟩ takes0 (fun W pn xe tk => (pss_one (ps_ret (pe_tup (pa_cons pe_str (pa_cons (pe_mx (pv 0) L_Log.cl D_Log_record.m G_Log_record (hr.mono (by decide)) D_Log_record.b (fun σ => passAt tk σ) (pa_cons (pv 1) pa_nil)) pa_nil)))))) (fun a oe pn hz hf => (pss_one (ps_ret (pe_tup (pa_cons pe_str (pa_cons (pe_and (pe_callB (call_isE E_OutOfRange.ec hz hf) (by rfl) T.isinstance (by decide +kernel) (pa_cons (pv 2) (pa_cons (pe_glob (v := .ref C_HallError) (by rfl) g_HallError rfl) pa_nil))) (pe_one (pe_callB (call_isE E_OutOfRange.ec hz hf) (by rfl) T.isinstance (by decide +kernel) (pa_cons (pv 2) (pa_cons (pe_bltn (v := .ty "ValueError") (u := .type "ValueError") (by rfl) T.ValueError (by decide +kernel) rfl) pa_nil))))) pa_nil)))))))), ?_⟩
    obtain ⟨dx, vi, t, h1, _, _⟩ := id l
    refine ⟨.ref p, rfl, p, dx, _, rfl, eB _ _ h1, fl_no _ _ _ (by decide +kernel) (by decide +kernel) (by decide +kernel), .int n, rfl, p, n, b, im, rs, B, rfl, eB, l, fun hn H1 e1 => ?_, fun hn hn2 v H1 e1 hv => ?_⟩
    · refine ⟨true, E_OutOfRange.me, fun _ a na => ⟨⟨rfl, rfl⟩, ?_⟩, fun z => nomatch z⟩
      have ed : recOfD b n rs = outD := if_neg hn
      rw [ed] at q
      refine s_retDB (K := K) (B := B) (d := outD) (eB.trans e1) ?_ (fun v2 H2 e2 h2 => q v2 H2 (e1.trans e2) (dp_mono (ov_later e1) _ _ h2))
      exact ed_tup (eds_cons ed_str (eds_cons (ed_bool (ev_andV (a := true) (b := true) (ev_isE rfl ev_c (fun u hu => hu) E_OutOfRange.k1) (fun _ => ev_isE rfl ev_c (fun u hu => hu) E_OutOfRange.k2))) eds_nil)) (Nat.le_of_ble_eq_true rfl)
    · have ed : recOfD b n rs = .tuple [.str "record", rs.getD (n - b - 1).toNat .none] := if_pos ⟨hn, hn2⟩
      rw [ed] at q
      exact ⟨sz_of (Nat.le_of_ble_eq_true rfl), fun tp np => q _ _ (e1.trans (Ex.new np)) (dp_pair eB e1 hv np)⟩
theorem ok_ra {f C C_OutOfRange C_HallError f_r f_l : Addr} {fd fd_r fd_l : FuncData} (F : Fun K "_law_after" "_law_after" s__law_after f fd) (D_Log_after : Dm K C "after" "Log.after" s_Log_after ["self", "number"] f_r fd_r) (D_Log_length : Pr K C "length" "Log.length" s_Log_length f_l fd_l)
    (L_Log : Kl K mg "Log" C) (L : LogC K C) (E_OutOfRange : Err K mg "OutOfRange" C_OutOfRange C_HallError) (g_HallError : mg "HallError" = some (.ref C_HallError)) (T : Glo mg) : FnOk P w K mg base CX0 5 f fd ["log", "number"] (spRO K C aftD) := by
  have G_Log_after : FnOk P w K mg base (L2.CX P w) 4 f_r fd_r _ _ := ok_after2 D_Log_after D_Log_length L_Log L E_OutOfRange T
  refine F.ok sc__law_after (fun vs H Q E h => ?_) (fun cdv A outer s H vs Q E hr h => ?_)
  · obtain ⟨p, n, b, im, rs, B, rfl, _⟩ := h
    rfl
  · obtain ⟨p, n, b, im, rs, B, rfl, eB, l, q⟩ := h
    refine ⟨_, (pss_one (ps_try_own (C := C_OutOfRange) (i := 2) rfl rfl sc__law_after.nd rfl rfl ⟨rfl, by decide, .inl E_OutOfRange.g⟩ takes0 (fun W pn xe tk => (pss_one (ps_ret (pe_tup (pa_cons pe_str (pa_cons (pe_mx (pv 0) L_Log.cl D_Log_after.m G_Log_after (hr.mono (by decide)) D_Log_after.b (fun σ => passAt tk σ) (pa_cons (pv 1) pa_nil)) pa_nil)))))) (fun a oe pn hz hf => (pss_one (ps_ret (pe_tup (pa_cons pe_str (pa_cons (pe_and (pe_callB (call_isE E_OutOfRange.ec hz hf) (by rfl) T.isinstance (by decide +kernel) (pa_cons (pv 2) (pa_cons (pe_glob (v := .ref C_HallError) (by rfl) g_HallError rfl) pa_nil))) (pe_one (pe_callB (call_isE E_OutOfRange.ec hz hf) (by rfl) T.isinstance (by decide +kernel) (pa_cons (pv 2) (pa_cons (pe_bltn (v := .ty "ValueError") (u := .type "ValueError") (by rfl) T.ValueError (by decide +kernel) rfl) pa_nil))))) pa_nil)))))))), ?_⟩
    obtain ⟨dx, vi, t, h1, _, _⟩ := id l
    refine ⟨.ref p, rfl, p, dx, _, rfl, eB _ _ h1, fl_no _ _ _ (by decide +kernel) (by decide +kernel) (by decide +kernel), .int n, rfl, p, n, b, im, rs, B, rfl, eB, l, fun hn H1 e1 => ?_, fun hn hn2 v H1 e1 hv => ?_⟩
    · refine ⟨true, E_OutOfRange.me, fun _ a na => ⟨⟨rfl, rfl⟩, ?_⟩, fun z => nomatch z⟩
      have ed : aftD b n rs = outD := if_neg hn
      rw [ed] at q
      refine s_retDB (K := K) (B := B) (d := outD) (eB.trans e1) ?_ (fun v2 H2 e2 h2 => q v2 H2 (e1.trans e2) (dp_mono (ov_later e1) _ _ h2))
      exact ed_tup (eds_cons ed_str (eds_cons (ed_bool (ev_andV (a := true) (b := true) (ev_isE rfl ev_c (fun u hu => hu) E_OutOfRange.k1) (fun _ => ev_isE rfl ev_c (fun u hu => hu) E_OutOfRange.k2))) eds_nil)) (Nat.le_of_ble_eq_true rfl)
    · have ed : aftD b n rs = .tuple [.str "after", .tuple (rs.drop (n - b).toNat)] := if_pos ⟨hn, hn2⟩
      rw [ed] at q
      exact ⟨sz_of (Nat.le_of_ble_eq_true rfl), fun tp np => q _ _ (e1.trans (Ex.new np)) (dp_pair eB e1 hv np)⟩
/-! ### the same integer; all of a log -/
def spInt : Sp := fun vs H Q _ => ∃ i : Int, vs = [.int i, .int i] ∧ RetV (.bl true) H Q
theorem ok_int {f : Addr} {fd : FuncData} (F : Fun K "_law_integer" "_law_integer" s__law_integer f fd) (T : Glo mg) : FnOk P w K mg base CX0 1 f fd ["thing", "due"] spInt := by
  refine F.ok sc__law_integer (fun vs H Q E h => ?_) (fun cdv A outer s H vs Q E hr h => ?_)
  · obtain ⟨i, rfl, _⟩ := h
    rfl
  · obtain ⟨i, rfl, q⟩ := h
    refine ⟨_, (pss_one (ps_ret (pe_and (pe_callB call_isi (by rfl) T.isinstance (by decide +kernel) (pa_cons (pv 0) (pa_cons (pe_bltn (v := .ty "int") (u := .type "int") (by rfl) T.int (by decide +kernel) rfl) pa_nil))) (pe_and (pe_not (pe_callB call_isi (by rfl) T.isinstance (by decide +kernel) (pa_cons (pv 0) (pa_cons (pe_bltn (v := .ty "bool") (u := .type "bool") (by rfl) T.bool (by decide +kernel) rfl) pa_nil)))) (pe_one (pe_cmpR op_eq (pv 0) (pv 1) (nomark _))))))), ?_⟩
    exact s_ret (v := .bl true) (ev_is (ev_andV (a := true) (b := true) (ev_cb (ea_cons (ev_var rfl) (ea_cons ev_c ea_nil)) (rc_isi (X := "int") (b := true) (fun _ => .base (.int _)) (by decide +kernel))) (fun _ => ev_is (ev_andV (a := true) (b := true) (ev_is (ev_notV (ev_cb (ea_cons (ev_var rfl) (ea_cons ev_c ea_nil)) (rc_isi (X := "int") (b := false) (fun _ => .base (.int _)) (by decide +kernel)))) rfl) (fun _ => ev_is (ev_op (ev_var rfl) (ev_var rfl) (rv_eq rfl)) (by simp))) rfl)) rfl) q
theorem spInt_v {H : Hp} {i : Int} : SpV spInt [.int i, .int i] H (.bl true) := fun H1 _ Q q _ => ⟨i, rfl, fun H2 e2 => q H2 e2⟩
def spHolds (K : PySem.W.Frag) (C : Addr) : Sp := fun vs H Q _ => ∃ (p : Addr) (b : Int) (vi vr : V) (im : PyData) (rs : List PyData), vs = [.ref p, .int b, vi, vr] ∧ LogAt K C H p b im rs ∧ Dp K H vi im ∧ Dp K H vr (.list rs) ∧ Sd 2 im ∧ Sds 2 rs ∧ rs.length ≤ 100 ∧ 0 ≤ b ∧ b < 10 ^ 18 ∧ RetV (.bl true) H Q
theorem ok_holds {f f1 f2 f3 C C_OutOfRange C_HallError f_l f_n f_t f_r f_a : Addr} {fd fd1 fd2 fd3 fd_l fd_n fd_t fd_r fd_a : FuncData} (F : Fun K "_law_holds" "_law_holds" s__law_holds f fd) (D__law_record_of : Df K mg "_law_record_of" s__law_record_of ["log", "number"] f1 fd1) (D__law_after : Df K mg "_law_after" s__law_after ["log", "number"] f2 fd2) (D__law_integer : Df K mg "_law_integer" s__law_integer ["thing", "due"] f3 fd3)
    (D_Log_length : Pr K C "length" "Log.length" s_Log_length f_l fd_l) (D_Log___len__ : Dm K C "__len__" "Log.__len__" s_Log___len__ ["self"] f_n fd_n) (D_Log___iter__ : Dm K C "__iter__" "Log.__iter__" s_Log___iter__ ["self"] f_t fd_t) (D_Log_record : Dm K C "record" "Log.record" s_Log_record ["self", "number"] f_r fd_r) (D_Log_after : Dm K C "after" "Log.after" s_Log_after ["self", "number"] f_a fd_a)
    (L_Log : Kl K mg "Log" C) (L : LogC K C) (E_OutOfRange : Err K mg "OutOfRange" C_OutOfRange C_HallError) (g_HallError : mg "HallError" = some (.ref C_HallError)) (T : Glo mg) : FnOk P w K mg base CX0 6 f fd ["log", "base", "image", "records"] (spHolds K C) := by
  have G__law_record_of : FnOk P w K mg base CX0 5 f1 fd1 _ _ := ok_ro D__law_record_of.F D_Log_record D_Log_length L_Log L E_OutOfRange g_HallError T
  have G__law_after : FnOk P w K mg base CX0 5 f2 fd2 _ _ := ok_ra D__law_after.F D_Log_after D_Log_length L_Log L E_OutOfRange g_HallError T
  have G__law_integer : FnOk P w K mg base CX0 1 f3 fd3 _ _ := ok_int D__law_integer.F T
  have G_Log_length : FnOk P w K mg base CX0 1 f_l fd_l _ _ := ok_log_len D_Log_length.F L T
  have G_Log___len__ : FnOk P w K mg base CX0 1 f_n fd_n _ _ := ok_len2 D_Log___len__ L T
  have G_Log___iter__ : FnOk P w K mg base CX0 1 f_t fd_t _ _ := ok_iter2 D_Log___iter__ L T
  refine F.ok sc__law_holds (fun vs H Q E h => ?_) (fun cdv A outer s H vs Q E hr h => ?_)
  · obtain ⟨p, b, vi, vr, im, rs, rfl, _⟩ := h
    rfl
  · obtain ⟨p, b, vi, vr, im, rs, rfl, l, hi, hrs, sim, srs, hl, hb0, hb1, q⟩ := h
    refine ⟨_, (pss_cons (ps_set (i := 4) sc__law_holds.nd rfl (.inl rfl) (pe_op op_add (pv 1) (pe_callB call_len_seq (by rfl) T.len PySem.boot_len (pa_cons (pv 3) pa_nil))))
  (pss_cons (ps_if (PW.pt (pw_or (pt_not (pt_val (pe_call G__law_integer (hr.mono (by decide)) (by rfl) D__law_integer.g D__law_integer.F.kp D__law_integer.b .nil pass0 (pa_cons (pe_pr (pv 0) L_Log.cl D_Log_length G_Log_length (hr.mono (by decide)) pass0 rfl) (pa_cons (pv 4) pa_nil))))) (pw_or1 (pt_not (pt_val (pe_call G__law_integer (hr.mono (by decide)) (by rfl) D__law_integer.g D__law_integer.F.kp D__law_integer.b .nil pass0 (pa_cons (pe_callB (call_lenO D_Log___len__.m G_Log___len__ (hr.mono (by decide)) D_Log___len__.b pass0) (by rfl) T.len PySem.boot_len (pa_cons (pv 0) pa_nil)) (pa_cons (pe_callB call_len_seq (by rfl) T.len PySem.boot_len (pa_cons (pv 3) pa_nil)) pa_nil))))))))
  (pss_one (ps_ret pe_bl))
  pss_nil)
  (pss_cons (ps_if (PW.pt (pw_or (pt_not (pt_val (pe_call G__law_integer (hr.mono (by decide)) (by rfl) D__law_integer.g D__law_integer.F.kp D__law_integer.b .nil pass0 (pa_cons (pe_fld (pv 0) rfl) (pa_cons (pv 1) pa_nil))))) (pw_or (pt_cmpR (op_neD hr.units) (pe_fld (pv 0) rfl) (pv 2) (nomark _)) (pw_or1 (pt_cmpR (op_neD hr.units) (pe_callTy (call_listO (EL := E0) rfl D_Log___iter__.m D_Log___len__.m G_Log___iter__ D_Log___iter__.b pass0 G_Log___len__ D_Log___len__.b (hr.mono (by decide))) (by rfl) T.list (by decide +kernel) (pa_cons (pv 0) pa_nil)) (pv 3) (nomark _))))))
  (pss_one (ps_ret pe_bl))
  pss_nil)
  (pss_cons (ps_for PassesOwn.never rfl (pi_range2 (by rfl) T.range (pa_cons (pe_op op_sub (pv 1) pe_int) (pa_cons (pe_op op_add (pv 4) pe_int) pa_nil))) (pg_name (i := 5) sc__law_holds.nd rfl (.inl rfl))
  (pss_cons (ps_set (i := 6) sc__law_holds.nd rfl (.inl rfl) (pe_tup (pa_cons pe_str (pa_cons pe_bl pa_nil))))
  (pss_cut (ps_if (pt_chain op_lt op_le (pv 1) (pv 5) (pv 4))
  (pss_one (ps_set (i := 6) sc__law_holds.nd rfl (.inl rfl) (pe_tup (pa_cons pe_str (pa_cons (pe_ix ix_list (pv 3) (pe_op op_sub (pe_op op_sub (pv 5) (pv 1)) pe_int) (fun _ _ => rfl)) pa_nil)))))
  pss_nil)
  (pss_cons (ps_if (pt_cmpR (op_neD hr.units) (pe_call G__law_record_of (hr.mono (by decide)) (by rfl) D__law_record_of.g D__law_record_of.F.kp D__law_record_of.b .nil pass0 (pa_cons (pv 0) (pa_cons (pv 5) pa_nil))) (pv 6) (nomark _))
  (pss_one (ps_ret pe_bl))
  pss_nil)
  (pss_cons (ps_set (i := 6) sc__law_holds.nd rfl (.inl rfl) (pe_tup (pa_cons pe_str (pa_cons pe_bl pa_nil))))
  (pss_cut (ps_if (pt_chain op_le op_le (pv 1) (pv 5) (pv 4))
  (pss_one (ps_set (i := 6) sc__law_holds.nd rfl (.inl rfl) (pe_tup (pa_cons pe_str (pa_cons (pe_tupleOf (by rfl) T.tuple (pe_slice sl_list (pv 3) (po_some (pe_op op_sub (pv 5) (pv 1))) po_none)) pa_nil)))))
  pss_nil)
  (pss_one (ps_if (pt_cmpR (op_neD hr.units) (pe_call G__law_after (hr.mono (by decide)) (by rfl) D__law_after.g D__law_after.F.kp D__law_after.b .nil pass0 (pa_cons (pv 0) (pa_cons (pv 5) pa_nil))) (pv 6) (nomark _))
  (pss_one (ps_ret pe_bl))
  pss_nil))))))))
  (pss_one (ps_ret (pe_and (pe_callB call_isi (by rfl) T.isinstance (by decide +kernel) (pa_cons (pe_fld (pv 0) rfl) (pa_cons (pe_bltn (v := .ty "tuple") (u := .type "tuple") (by rfl) T.tuple (by decide +kernel) rfl) pa_nil))) (pe_one (pe_cmpR (op_eqD hr.units) (pe_fld (pv 0) rfl) (pe_tupleOf (by rfl) T.tuple (pv 3)) (nomark _)))))))))), ?_⟩
    refine' q_asg (v := .int (b + (rs.length : Int))) (ev_op (ev_var rfl) (ev_lenD (K := K) (ed_var rfl hrs)) rv_I0) (fun H1 e1 => ?_)
    have l1 := l.mono e1
    have hi1 := dp_mono e1 _ _ hi
    have hrs1 := dp_mono e1 _ _ hrs
    refine' q_when (b := false) (et_is (et_or (a := false) (b := false) (et_is (et_not (et_B (ev_call (ea_cons (ev_loglen (K := K) (ev_var rfl) l1) (ea_cons (ev_var rfl) ea_nil)) spInt_v))) rfl) (fun _ => et_is (et_not (et_B (ev_call (ea_cons (ev_len2 (K := K) (ev_var rfl) l1 (by omega)) (ea_cons (ev_lenD (K := K) (ed_var rfl hrs1)) ea_nil)) spInt_v))) rfl)) rfl) (fun hb => nomatch hb) (fun _ H2 e2 => ?_)
    have l2 := l1.mono e2
    have hi2 := dp_mono e2 _ _ hi1
    have hrs2 := dp_mono e2 _ _ hrs1
    refine' q_when (b := false) (et_is (et_or (a := false) (b := false) (et_is (et_not (et_B (ev_call (ea_cons (ev_base L (ev_var rfl) l2) (ea_cons (ev_var rfl) ea_nil)) spInt_v))) rfl) (fun _ => et_is (et_or (a := false) (b := false) (et_test (ev_neSelf (K := K) (ed_image L (ev_var rfl) l2) (ed_var rfl hi2) sim (by decide))) (fun _ => et_test (ev_neSelf (K := K) (ed_list2 (ev_var rfl) l2 (by omega)) (ed_var rfl hrs2) (sd_list srs) (by decide)))) rfl)) rfl) (fun hb => nomatch hb) (fun _ H3 e3 => ?_)
    have l3 := l2.mono e3
    have hi3 := dp_mono e3 _ _ hi2
    have hrs3 := dp_mono e3 _ _ hrs2
    refine' q_forRngB (lo := b - 2) (n := b + (rs.length : Int) + 3) (ea_cons (ev_op (ev_var rfl) ev_c rv_I0) (ea_cons (ev_op (ev_var rfl) ev_c rv_I0) ea_nil)) (by omega) (fun i σ' H' => ∃ (y5 y6 : Option V), σ' = [some (.ref p), some (.int b), some vi, some vr, some (.int (b + (rs.length : Int))), y5, y6] ∧ Ex H3 H') (fun H9 e9 => ⟨none, none, rfl, e9⟩) (fun i σ' H' hi' hp => ?_) (fun σ' H' hp => ?_)
    · obtain ⟨y5, y6, rfl, e⟩ := hp
      generalize hN : b - 2 + (i : Int) = n
      refine q_asgD (K := K) (d := outD) (ed_tup (eds_cons ed_str (eds_cons (ed_bool ev_c) eds_nil)) (Nat.le_of_ble_eq_true rfl)) (fun v4 H4 e4 h4 => ?_)
      have l4 := l3.mono (e.trans e4)
      have hrs4 := dp_mono (e.trans e4) _ _ hrs3
      refine' q_cut (M := fun σ' H' => ∃ v : V, σ' = [some (.ref p), some (.int b), some vi, some vr, some (.int (b + (rs.length : Int))), some (.int n), some v] ∧ Dp K H' v (recOfD b n rs) ∧ Ex H4 H') ?cut (fun σ' H5 hp => ?_)
      case cut =>
        refine' s_when (b := decide (b < n) && decide (n ≤ b + (rs.length : Int))) (et_test (ev_chain (ev_var rfl) (ev_var rfl) rv_I0 (ev_var rfl) rv_I0)) (fun hb H5 e5 => ?_) (fun hb H5 e5 => ?_)
        · obtain ⟨h1, h2⟩ := Bool.and_eq_true_iff.mp hb
          have h1 := of_decide_eq_true h1
          have h2 := of_decide_eq_true h2
          rw [show recOfD b n rs = .tuple [.str "record", rs.getD (n - b - 1).toNat .none] from if_pos ⟨h1, h2⟩]
          exact s_asgD (K := K) (ed_tup (eds_cons ed_str (eds_cons (ed_ixL (i := n - b - 1) (ed_var rfl (dp_mono e5 _ _ hrs4)) (ev_op (ev_op (ev_var rfl) (ev_var rfl) rv_I0) ev_c rv_I0) (atI_getD (by omega) (by omega))) eds_nil)) (Nat.le_of_ble_eq_true rfl)) (fun v5 H6 e6 h6 => ⟨v5, rfl, h6, e5.trans e6⟩)
        · rw [show recOfD b n rs = outD from if_neg (fun h => by rw [decide_eq_true h.1, decide_eq_true h.2] at hb; cases hb)]
          exact ⟨v4, rfl, dp_mono e5 _ _ h4, e5⟩
      obtain ⟨v, rfl, hv, e5⟩ := hp
      have l5 := l4.mono e5
      refine' q_when (b := false) (et_test (ev_neSelf (K := K) (ed_call (ea_cons (ev_var rfl) (ea_cons (ev_var rfl) ea_nil)) (spRO_d l5)) (ed_var rfl hv) (sd_recOf srs) (by decide))) (fun hb => nomatch hb) (fun _ H6 e6 => ?_)
      refine q_asgD (K := K) (d := outD) (ed_tup (eds_cons ed_str (eds_cons (ed_bool ev_c) eds_nil)) (Nat.le_of_ble_eq_true rfl)) (fun v7 H7 e7 h7 => ?_)
      have l7 := l5.mono (e6.trans e7)
      have hrs7 := dp_mono ((e5.trans e6).trans e7) _ _ hrs4
      refine' q_cut (M := fun σ' H' => ∃ v : V, σ' = [some (.ref p), some (.int b), some vi, some vr, some (.int (b + (rs.length : Int))), some (.int n), some v] ∧ Dp K H' v (aftD b n rs) ∧ Ex H7 H') ?cut2 (fun σ' H8 hp => ?_)
      case cut2 =>
        refine' s_when (b := decide (b ≤ n) && decide (n ≤ b + (rs.length : Int))) (et_test (ev_chain (ev_var rfl) (ev_var rfl) rv_I0 (ev_var rfl) rv_I0)) (fun hb H8 e8 => ?_) (fun hb H8 e8 => ?_)
        · obtain ⟨h1, h2⟩ := Bool.and_eq_true_iff.mp hb
          have h1 := of_decide_eq_true h1
          have h2 := of_decide_eq_true h2
          rw [show aftD b n rs = .tuple [.str "after", .tuple (rs.drop (n - b).toNat)] from if_pos ⟨h1, h2⟩]
          have ec : cutA rs (some (n - b)) none = rs.drop (n - b).toNat := by
            obtain ⟨m, hm⟩ := Int.eq_ofNat_of_zero_le (show 0 ≤ n - b by omega)
            rw [hm, cutA_from]
            rfl
          exact s_asgD (K := K) (ed_is (ed_tup (eds_cons ed_str (eds_cons (ed_tupOf (ed_new (en_slL (ed_var rfl (dp_mono e8 _ _ hrs7)) (eo_some (ev_op (ev_var rfl) (ev_var rfl) rv_I0)) eo_none))) eds_nil)) (Nat.le_of_ble_eq_true rfl)) (by rw [ec])) (fun v5 H9 e9 h9 => ⟨v5, rfl, h9, e8.trans e9⟩)
        · rw [show aftD b n rs = outD from if_neg (fun h => by rw [decide_eq_true h.1, decide_eq_true h.2] at hb; cases hb)]
          exact ⟨v7, rfl, dp_mono e8 _ _ h7, e8⟩
      obtain ⟨v8, rfl, hv8, e8⟩ := hp
      have l8 := l7.mono e8
      refine' s_when (b := false) (et_test (ev_neSelf (K := K) (ed_call (ea_cons (ev_var rfl) (ea_cons (ev_var rfl) ea_nil)) (spRO_d l8)) (ed_var rfl hv8) (sd_aft srs) (by decide))) (fun hb => nomatch hb) (fun _ H9 e9 => ⟨_, _, rfl, (e.trans e4).trans ((e5.trans e6).trans ((e7.trans e8).trans e9))⟩)
    · obtain ⟨y5, y6, rfl, e⟩ := hp
      have l4 := l3.mono e
      exact s_ret (v := .bl true) (ev_is (ev_andV (a := true) (b := true) (ev_isiT (K := K) (ed_records L (ev_var rfl) l4)) (fun _ => ev_eqSelf (K := K) (ed_records L (ev_var rfl) l4) (ed_tupOf (ed_var rfl (dp_mono e _ _ hrs3))) (sd_tuple srs) (by decide))) rfl) (fun H5 e5 => q H5 (((e1.trans e2).trans e3).trans (e.trans e5)))
theorem ev_holds {σ : L2.St} {H : Hp} {C p : Addr} {tp tb ti tr : TE} {E : XK} {b : Int} {vi : V} {im : PyData} {rs : List PyData} (h1 : Ev tp σ H (.ref p)) (h2 : Ev tb σ H (.int b)) (h3 : Ev ti σ H vi) (h4 : EvD K tr σ H (.list rs)) (l : LogAt K C H p b im rs) (hi : Dp K H vi im) (sim : Sd 2 im) (srs : Sds 2 rs) (hl : rs.length ≤ 100) (hb0 : 0 ≤ b) (hb1 : b < 10 ^ 18) :
    Ev (tCall (spHolds K C) [] E (tCons tp (tCons tb (tCons ti (tCons tr tNil))))) σ H (.bl true) := fun H1 e Q q => h1 H1 e _ fun H2 e2 => h2 H2 (e.trans e2) _ fun H3 e3 => h3 H3 ((e.trans e2).trans e3) _ fun H4 e4 => h4 H4 (((e.trans e2).trans e3).trans e4) _ fun v H5 e5 hv => by
  have E4 := ((e.trans e2).trans e3).trans e4
  exact ⟨p, b, vi, v, im, rs, rfl, l.mono (E4.trans e5), dp_mono (E4.trans e5) _ _ hi, dp_mono (ov_ex E4 e5) _ _ hv, sim, srs, hl, hb0, hb1, fun H6 e6 => q H6 ((((e2.trans e3).trans e4).trans e5).trans e6)⟩
theorem q_mwith {σ : L2.St} {H : Hp} {D : Ends} {tz : TS} {C p : Addr} {ta tb : TE} {E : XK} {i : Nat} {b : Int} {im d : PyData} {rs : List PyData} {v : V} (ht : Ev ta σ H (.ref p)) (l : LogAt K C H p b im rs) (h : Ev tb σ H v) (hv : Dp K H v d) (hl : rs.length ≤ 1000)
    (q : ∀ p' H1, H p' = none → Ex H H1 → LogAt K C H1 p' b im (rs ++ [d]) → tz D (σ.set i (some (.ref p'))) H1) : tSeq (tAsg (tMeth C "with_record" (spWith K C) [] E ta (tCons tb tNil)) (gName i)) tz D σ H := ht H (Ex.refl H) _ fun H1 e1 => by
  obtain ⟨dx, vi, t, h1, _, _⟩ := id l
  refine ⟨p, dx, _, rfl, e1 _ _ h1, fl_no _ _ _ (by decide +kernel) (by decide +kernel) (by decide +kernel), h H1 e1 _ fun H2 e2 => ?_⟩
  exact ⟨p, v, b, im, d, rs, H, rfl, e1.trans e2, l, hv, hl, fun q' H3 nq e3 l3 => q q' H3 (fresh_back (e1.trans e2) nq) ((e1.trans e2).trans e3) (l3.mono (ov_ex (e1.trans e2) e3))⟩
theorem ok_law {f f1 f2 f3 f4 f5 f6 f7 f8 C C_OutOfRange C_HallError f_i f_l f_n f_t f_r f_a f_w : Addr} {fd fd1 fd2 fd3 fd4 fd5 fd6 fd7 fd8 fd_i fd_l fd_n fd_t fd_r fd_a fd_w : FuncData} (F : Fun K "law" "law" s_law f fd) (D__law_stream : Df K mg "_law_stream" s__law_stream ["script", "many"] f1 fd1) (D__law_draw : Df K mg "_law_draw" s__law_draw ["draws", "k"] f2 fd2)
    (D__law_large : Df K mg "_law_large" s__law_large ["draws", "k"] f3 fd3) (D__law_record : Df K mg "_law_record" s__law_record ["draw"] f4 fd4) (D__law_record_of : Df K mg "_law_record_of" s__law_record_of ["log", "number"] f5 fd5) (D__law_after : Df K mg "_law_after" s__law_after ["log", "number"] f6 fd6) (D__law_integer : Df K mg "_law_integer" s__law_integer ["thing", "due"] f7 fd7)
    (D__law_holds : Df K mg "_law_holds" s__law_holds ["log", "base", "image", "records"] f8 fd8) (L_Log : Kl K mg "Log" C) (L : LogC K C) (D_Log___init__ : Dm K C "__init__" "Log.__init__" s_Log___init__ ["self", "base", "image", "records"] f_i fd_i) (D_Log_length : Pr K C "length" "Log.length" s_Log_length f_l fd_l)
    (D_Log___len__ : Dm K C "__len__" "Log.__len__" s_Log___len__ ["self"] f_n fd_n) (D_Log___iter__ : Dm K C "__iter__" "Log.__iter__" s_Log___iter__ ["self"] f_t fd_t) (D_Log_record : Dm K C "record" "Log.record" s_Log_record ["self", "number"] f_r fd_r) (D_Log_after : Dm K C "after" "Log.after" s_Log_after ["self", "number"] f_a fd_a) (D_Log_with_record : Dm K C "with_record" "Log.with_record" s_Log_with_record ["self", "record"] f_w fd_w)
    (E_OutOfRange : Err K mg "OutOfRange" C_OutOfRange C_HallError) (g_HallError : mg "HallError" = some (.ref C_HallError)) (T : Glo mg) : FnOk P w K mg base CX0 7 f fd ["script"] (spLaw K) := by
  have G__law_stream : FnOk P w K mg base CX0 1 f1 fd1 _ _ := ok_stream D__law_stream.F T
  have G__law_draw : FnOk P w K mg base CX0 1 f2 fd2 _ _ := ok_draw D__law_draw.F T
  have G__law_large : FnOk P w K mg base CX0 2 f3 fd3 _ _ := ok_large D__law_large.F D__law_draw T
  have G__law_record : FnOk P w K mg base CX0 1 f4 fd4 _ _ := ok_record D__law_record.F
  have G__law_holds : FnOk P w K mg base CX0 6 f8 fd8 _ _ := ok_holds D__law_holds.F D__law_record_of D__law_after D__law_integer D_Log_length D_Log___len__ D_Log___iter__ D_Log_record D_Log_after L_Log L E_OutOfRange g_HallError T
  have G_Log___init__ : FnOk P w K mg base CX0 1 f_i fd_i _ _ := ok_log_init D_Log___init__.F L
  have G_Log_with_record : FnOk P w K mg base CX0 4 f_w fd_w _ _ := ok_with D_Log_with_record D_Log___init__ L_Log L
  refine F.ok sc_law (fun vs H Q E h => ?_) (fun cdv A outer s H vs Q E hr h => ?_)
  · obtain ⟨a, ns, rfl, _⟩ := h
    rfl
  · obtain ⟨a, ns, rfl, hS, hn, q⟩ := h
    refine ⟨_, (pss_cons (ps_set (i := 1) sc_law.nd rfl (.inr rfl) (pe_call G__law_stream (hr.mono (by decide)) (by rfl) D__law_stream.g D__law_stream.F.kp D__law_stream.b .nil pass0 (pa_cons (pv 0) (pa_cons pe_int pa_nil))))
  (pss_cons (ps_set (i := 2) sc_law.nd rfl (.inl rfl) (pe_op op_mod (pe_call G__law_draw (hr.mono (by decide)) (by rfl) D__law_draw.g D__law_draw.F.kp D__law_draw.b .nil pass0 (pa_cons (pv 1) (pa_cons pe_int pa_nil))) pe_int))
  (pss_cut (ps_if (pt_cmpR op_eq (pe_op op_mod (pe_call G__law_draw (hr.mono (by decide)) (by rfl) D__law_draw.g D__law_draw.F.kp D__law_draw.b .nil pass0 (pa_cons (pv 1) (pa_cons pe_int pa_nil))) pe_int) pe_int (nomark _))
  (pss_one (ps_set (i := 2) sc_law.nd rfl (.inl rfl) (pe_call G__law_large (hr.mono (by decide)) (by rfl) D__law_large.g D__law_large.F.kp D__law_large.b .nil pass0 (pa_cons (pv 1) (pa_cons pe_int pa_nil)))))
  pss_nil)
  (pss_cons (ps_set (i := 3) sc_law.nd rfl (.inl rfl) (pe_tup (pa_cons pe_int (pa_cons pe_str (pa_cons (pe_tup pa_nil) (pa_cons (pe_tup (pa_cons pe_str (pa_cons (pe_tup (pa_cons pe_int (pa_cons pe_str pa_nil))) pa_nil))) (pa_cons (pe_un un_neg pe_int) pa_nil)))))))
  (pss_cons (ps_set (i := 4) sc_law.nd rfl (.inl rfl) (pe_ix ix_tup (pv 3) (pe_op op_mod (pe_call G__law_draw (hr.mono (by decide)) (by rfl) D__law_draw.g D__law_draw.F.kp D__law_draw.b .nil pass0 (pa_cons (pv 1) (pa_cons pe_int pa_nil))) pe_int) (fun _ _ => rfl)))
  (pss_cons (ps_set (i := 5) sc_law.nd rfl (.inl rfl) (pe_op op_mod (pe_call G__law_draw (hr.mono (by decide)) (by rfl) D__law_draw.g D__law_draw.F.kp D__law_draw.b .nil pass0 (pa_cons (pv 1) (pa_cons pe_int pa_nil))) pe_int))
  (pss_cons (ps_setLc (i := 6) (own := [("k", 7)]) (g := gName 7) rfl sc_law.nd rfl rfl (sw_true rfl rfl rfl (by decide +kernel)) (pi_range1 (by rfl) T.range (pa_cons (pv 5) pa_nil)) (blkOk_by (N := N_law) (sc := defScope s_law) (by decide +kernel)) (fun _ _ _ _ _ => (pg_name (i := 7) sc_law.nd rfl (.inl rfl))) (fun _ _ _ _ _ => pts_nil) (fun _ _ _ _ _ => (pe_call G__law_record (hr.mono (by decide)) (by rfl) D__law_record.g D__law_record.F.kp D__law_record.b .nil pass0 (pa_cons (pe_call G__law_draw (hr.mono (by decide)) (by rfl) D__law_draw.g D__law_draw.F.kp D__law_draw.b .nil pass0 (pa_cons (pv 1) (pa_cons (pe_op op_add pe_int (pv 7)) pa_nil))) pa_nil))))
  (pss_cons (ps_set (i := 8) sc_law.nd rfl (.inl rfl) (pe_make (L_Log.make D_Log___init__) G_Log___init__ (hr.mono (by decide)) (by rfl) L_Log.g D_Log___init__.b .nil pass0 (pa_cons (pv 2) (pa_cons (pv 4) (pa_cons (pe_tupleOf (by rfl) T.tuple (pv 6)) pa_nil)))))
  (pss_cons (ps_if (pt_not (pt_val (pe_call G__law_holds (hr.mono (by decide)) (by rfl) D__law_holds.g D__law_holds.F.kp D__law_holds.b .nil pass0 (pa_cons (pv 8) (pa_cons (pv 2) (pa_cons (pv 4) (pa_cons (pv 6) pa_nil)))))))
  (pss_one (ps_ret pe_bl))
  pss_nil)
  (pss_cons (ps_set (i := 9) sc_law.nd rfl (.inl rfl) (pe_call G__law_record (hr.mono (by decide)) (by rfl) D__law_record.g D__law_record.F.kp D__law_record.b .nil pass0 (pa_cons (pe_call G__law_draw (hr.mono (by decide)) (by rfl) D__law_draw.g D__law_draw.F.kp D__law_draw.b .nil pass0 (pa_cons (pv 1) (pa_cons pe_int pa_nil))) pa_nil)))
  (pss_cons (ps_set (i := 10) sc_law.nd rfl (.inl rfl) (pe_meth (pv 8) L_Log.cl D_Log_with_record.m G_Log_with_record (hr.mono (by decide)) D_Log_with_record.b .nil pass0 (pa_cons (pv 9) pa_nil)))
  (pss_cons (ps_if (pt_not (pt_val (pe_call G__law_holds (hr.mono (by decide)) (by rfl) D__law_holds.g D__law_holds.F.kp D__law_holds.b .nil pass0 (pa_cons (pv 10) (pa_cons (pv 2) (pa_cons (pv 4) (pa_cons (pe_op op_cat (pv 6) (pe_lst (pa_cons (pv 9) pa_nil))) pa_nil)))))))
  (pss_one (ps_ret pe_bl))
  pss_nil)
  (pss_one (ps_ret (pe_call G__law_holds (hr.mono (by decide)) (by rfl) D__law_holds.g D__law_holds.F.kp D__law_holds.b .nil pass0 (pa_cons (pv 8) (pa_cons (pv 2) (pa_cons (pv 4) (pa_cons (pv 6) pa_nil))))))))))))))))))), ?_⟩
    refine q_stream rfl hS hn (by decide) fun ds l H1 hD hdl nl e1 hl => ?_
    have hL1 : SqL K H1 l (ds.map V.int) := sq_of hl
    refine' q_asg ?w1 (fun H2 e2 => ?_)
    case w1 => walk_at "ev"
    have hL2 := ex_l e2 hL1
    refine' q_cut (M := fun σ' H' => ∃ b : Int, σ' = [some (.ref a), some (.ref l), some (.int b), none, none, none, none, none, none, none, none] ∧ 0 ≤ b ∧ b < 10 ^ 18 ∧ Ex H2 H') ?cut (fun σ' H3 p => ?_)
    case cut =>
      refine' s_when ?w2 (fun _ H3 e3 => ?_) (fun _ H3 e3 => ?_)
      case w2 => walk_at "ev"
      · exact spLarge_use (K := K) (ea_cons (ev_var rfl) (ea_cons ev_c ea_nil)) (ex_l e3 hL2) (by decide) (fun c H4 h0 h1 e4 => ⟨c, rfl, h0, by omega, e3.trans e4⟩)
      · have := (drI_ok hD 0).1
        exact ⟨_, rfl, by omega, by omega, e3⟩
    obtain ⟨b, rfl, hb0, hb1, e3⟩ := p
    have hL3 := ex_l e3 hL2
    refine q_asgD (K := K) (d := .tuple imgD) (ed_tup (eds_cons (ed_int ev_c) (eds_cons ed_str (eds_cons (ed_tup eds_nil (Nat.le_of_ble_eq_true rfl)) (eds_cons (ed_tup (eds_cons ed_str (eds_cons (ed_tup (eds_cons (ed_int ev_c) (eds_cons ed_str eds_nil)) (Nat.le_of_ble_eq_true rfl)) eds_nil)) (Nat.le_of_ble_eq_true rfl)) (eds_cons (ed_int (ev_un ev_c ru_neg)) eds_nil))))) (Nat.le_of_ble_eq_true rfl)) (fun v1 H4 e4 h4 => ?_)
    have hL4 := ex_l e4 hL3
    have hlen : (imgD.length : Int) = 5 := rfl
    refine' q_asgD (K := K) (d := imgD.getD (drI ds 3 % 5).toNat .none) (ed_ixT (ed_var rfl h4) ?w3 (atI_getD (i := drI ds 3 % 5) ?w4 ?w5)) (fun v2 H5 e5 h5 => ?_)
    case w3 => walk_at "ev"
    case w4 => omega
    case w5 => omega
    have hL5 := ex_l e5 hL4
    have sim : Sd 2 (imgD.getD (drI ds 3 % 5).toNat .none) := sds_img.getD _
    generalize imgD.getD (drI ds 3 % 5).toNat .none = im at *
    refine' q_asg ?w6 (fun H6 e6 => ?_)
    case w6 => walk_at "ev"
    have hL6 := ex_l e6 hL5
    have hm0 : 0 ≤ drI ds 4 % 10 := by omega
    have hm1 : drI ds 4 % 10 < 10 := by omega
    refine' q_asgN (K := K) (en_lcR1 (K := K) (n := drI ds 4 % 10) (fun _ => true) (fun i => recD (drI ds (5 + (i : Int)))) (ea_cons (ev_var rfl) ea_nil) ⟨hm0, by omega⟩ (fun _ => rfl) (fun i hi => et_nil) (fun i hi _ => ?_)) (fun lh xs H7 nh e7 h7 hd7 => ?_)
    · have := (drI_ok hD (5 + (i : Int))).1
      refine' ed_call (vs := [.int (drI ds (5 + (i : Int)))]) ?w10 (spRec_d this)
      case w10 => walk_at "ev"
    · have hn9 : (drI ds 4 % 10).toNat ≤ 9 := by omega
      generalize hR : givenD (drI ds 4 % 10).toNat (fun _ => true) (fun i => recD (drI ds (5 + (i : Int)))) = rs at *
      have hrl : rs.length ≤ 9 := by
        rw [← hR]
        exact Nat.le_trans (givenD_len _ _ _) hn9
      have srs : Sds 2 rs := by
        rw [← hR]
        intro d hd
        obtain ⟨i, _, rfl⟩ := List.mem_map.mp hd
        exact sd_rec _
      have hL7 := ex_l e7 hL6
      have hH7 : Dp K H7 (.ref lh) (.list rs) := .lst (sq_of h7) hd7
      have h57 : Dp K H7 v2 im := dp_mono (e6.trans e7) _ _ h5
      refine q_mkLog (K := K) (B := H7) (vb := b) (im := im) (rs := rs) (Ex.refl H7) (eds_cons (ed_int (ev_var rfl)) (eds_cons (ed_var rfl h57) (eds_cons (ed_tupOf (ed_var rfl hH7)) eds_nil))) (fun p H8 np e8 l8 => ?_)
      have l8 : LogAt K C H8 p b im rs := l8.mono (ov_ex (Ex.refl H7) e8)
      have hL8 := ex_l e8 hL7
      have hH8 := dp_mono e8 _ _ hH7
      have h58 := dp_mono e8 _ _ h57
      refine' q_when (b := false) (et_is (et_not (et_B (ev_holds (K := K) (ev_var rfl) (ev_var rfl) (ev_var rfl) (ed_var rfl hH8) l8 h58 sim srs (by omega) hb0 hb1))) rfl) (fun hb => nomatch hb) (fun _ H9 e9 => ?_)
      have hL9 := ex_l e9 hL8
      have d15 := (drI_ok hD 15).1
      refine' q_asgD (K := K) (d := recD (drI ds 15)) (ed_call (vs := [.int (drI ds 15)]) ?w11 (spRec_d d15)) (fun vm H10 e10 hm10 => ?_)
      case w11 => walk_at "ev"
      have l10 := l8.mono (e9.trans e10)
      refine q_mwith (K := K) (ev_var rfl) l10 (ev_var rfl) hm10 (by omega) (fun p2 H11 np2 e11 l11 => ?_)
      have e811 := (e9.trans e10).trans e11
      have hm11 := dp_mono e11 _ _ hm10
      have srs2 : Sds 2 (rs ++ [recD (drI ds 15)]) := sds_app srs (sds_cons (sd_rec _) sds_nil)
      refine' q_when (b := false) (et_is (et_not (et_B (ev_holds (K := K) (ev_var rfl) (ev_var rfl) (ev_var rfl) (ed_new (en_catV (ev_var rfl) ((e8.trans e811) _ _ h7) (dpa_mono (e8.trans e811) _ _ hd7) (en_lst (eds_cons (ed_var rfl hm11) eds_nil) (Nat.le_of_ble_eq_true rfl)) (by rw [List.length_singleton]; omega))) l11 (dp_mono e811 _ _ h58) sim srs2 (by rw [List.length_append, List.length_singleton]; omega) hb0 hb1))) rfl) (fun hb => nomatch hb) (fun _ H12 e12 => ?_)
      have e812 := e811.trans e12
      exact s_ret (v := .bl true) (ev_holds (K := K) (ev_var rfl) (ev_var rfl) (ev_var rfl) (ed_var rfl (dp_mono e812 _ _ hH8)) (l8.mono e812) (dp_mono e812 _ _ h58) sim srs (by omega) hb0 hb1) (fun H13 _ => q H13)
end
end Ap
open PySem PySem.W PyProof.Rows
set_option maxHeartbeats 0 in
theorem PySem.Challenge.cw_appendhall_k16_records_of_a_log_holds : PySem.Challenge.rw_appendhall_k16_records_of_a_log.Holds := by
  w_on; o_law; k_head; (case hw => w_witness2)
  k_fill
  refine L2.walk_of (l := PySem.Challenge.rw_appendhall_k16_records_of_a_log) (n := 63) (k := 7) (x := "script") (CX := fun _ => L2.CX0) (sp := fun w => Ap.spLaw _) rfl (by decide) rfl ⟨rfl, by decide, by decide⟩ (fun w h Y => PySem.W.kIn_of Y) ?F (fun _ _ a ns hl _ hS => ⟨a, ns, rfl, hS, hl, fun _ => rfl⟩) (fun _ _ _ _ _ h => h)
  case F =>
    intro w mg fa h KX G hmg
    obtain ⟨C_Log, L_Log, n_Log_base, n_Log_image, n_Log_records, ⟨f_Log_length, fd_Log_length, D_Log_length⟩, ⟨f_Log___init__, fd_Log___init__, D_Log___init__⟩, ⟨f_Log___len__, fd_Log___len__, D_Log___len__⟩, ⟨f_Log___iter__, fd_Log___iter__, D_Log___iter__⟩, ⟨f_Log_record, fd_Log_record, D_Log_record⟩, ⟨f_Log_after, fd_Log_after, D_Log_after⟩, ⟨f_Log_with_record, fd_Log_with_record, D_Log_with_record⟩⟩ : ∃ C, Ap.Kl _ mg "Log" C ∧ L2.NoAttr _ C "base" ∧ L2.NoAttr _ C "image" ∧ L2.NoAttr _ C "records" ∧ (∃ f fd, Ap.Pr _ C "length" "Log.length" Ap.s_Log_length f fd) ∧ (∃ f fd, Ap.Dm _ C "__init__" "Log.__init__" Ap.s_Log___init__ ["self", "base", "image", "records"] f fd) ∧ (∃ f fd, Ap.Dm _ C "__len__" "Log.__len__" Ap.s_Log___len__ ["self"] f fd) ∧ (∃ f fd, Ap.Dm _ C "__iter__" "Log.__iter__" Ap.s_Log___iter__ ["self"] f fd) ∧ (∃ f fd, Ap.Dm _ C "record" "Log.record" Ap.s_Log_record ["self", "number"] f fd) ∧ (∃ f fd, Ap.Dm _ C "after" "Log.after" Ap.s_Log_after ["self", "number"] f fd) ∧ (∃ f fd, Ap.Dm _ C "with_record" "Log.with_record" Ap.s_Log_with_record ["self", "record"] f fd) := by
      refine' ⟨_, Ap.kl_mk KX G ?aC ?pg ?hd ?po ?sa ?mk ?kp, Ap.na_mk KX ?n_base, Ap.na_mk KX ?n_image, Ap.na_mk KX ?n_records, Ap.pr_mk KX ?a_length ?g_length ?t_length ?r_length ?l_length ?c_length ?k_length ?b_length, Ap.dm_mk KX ?a___init__ ?i___init__ ?l___init__ ?c___init__ ?k___init__ ?b___init__, Ap.dm_mk KX ?a___len__ ?i___len__ ?l___len__ ?c___len__ ?k___len__ ?b___len__, Ap.dm_mk KX ?a___iter__ ?i___iter__ ?l___iter__ ?c___iter__ ?k___iter__ ?b___iter__, Ap.dm_mk KX ?a_record ?i_record ?l_record ?c_record ?k_record ?b_record, Ap.dm_mk KX ?a_after ?i_after ?l_after ?c_after ?k_after ?b_after, Ap.dm_mk KX ?a_with_record ?i_with_record ?l_with_record ?c_with_record ?k_with_record ?b_with_record⟩
      (case aC => k_is); (case pg => k_is); (case hd => k_is); (case po => k_is); (case sa => k_is); (case mk => k_is); (case kp => k_is); (case n_base => k_is); (case n_image => k_is); (case n_records => k_is); (case a_length => k_is); (case g_length => k_is); (case t_length => k_is); (case r_length => k_is); (case l_length => k_is); (case c_length => k_is); (case k_length => k_is); (case a___init__ => k_is); (case i___init__ => k_is); (case l___init__ => k_is); (case c___init__ => k_is); (case k___init__ => k_is); (case a___len__ => k_is); (case i___len__ => k_is); (case l___len__ => k_is); (case c___len__ => k_is); (case k___len__ => k_is); (case a___iter__ => k_is); (case i___iter__ => k_is); (case l___iter__ => k_is); (case c___iter__ => k_is); (case k___iter__ => k_is); (case a_record => k_is); (case i_record => k_is); (case l_record => k_is); (case c_record => k_is); (case k_record => k_is); (case a_after => k_is); (case i_after => k_is); (case l_after => k_is); (case c_after => k_is); (case k_after => k_is); (case a_with_record => k_is); (case i_with_record => k_is); (case l_with_record => k_is); (case c_with_record => k_is); (case k_with_record => k_is)
      (case b_length => exact fun _ _ _ _ _ _ us hl => match us, hl with | [_], _ => rfl)
      (case b___init__ => exact fun _ _ _ _ _ _ us hl => match us, hl with | [_, _, _, _], _ => rfl)
      (case b___len__ => exact fun _ _ _ _ _ _ us hl => match us, hl with | [_], _ => rfl)
      (case b___iter__ => exact fun _ _ _ _ _ _ us hl => match us, hl with | [_], _ => rfl)
      (case b_record => exact fun _ _ _ _ _ _ us hl => match us, hl with | [_, _], _ => rfl)
      (case b_after => exact fun _ _ _ _ _ _ us hl => match us, hl with | [_, _], _ => rfl)
      (case b_with_record => exact fun _ _ _ _ _ _ us hl => match us, hl with | [_, _], _ => rfl)
    obtain ⟨C_OutOfRange, C_HallError, E_OutOfRange, g_HallError⟩ : ∃ C B, Ap.Err _ mg "OutOfRange" C B ∧ mg "HallError" = some (.ref B) := by
      refine' ⟨_, _, Ap.err_mk KX G ?aC ?aB ?kp ?ex ?bs ?ty ?ss ?hg ?hk ?hd ?ha ?hn ?ht ?hm ?dB ?tB ?sb ?sv⟩
      (case aC => k_is); (case aB => k_is); (case ex => k_exc); (case kp => k_is); (case bs => k_is); (case ty => k_is); (case ss => k_is); (case hg => k_is); (case hk => k_is); (case hd => k_is); (case ha => k_is); (case hn => k_is); (case ht => k_is); (case hm => k_is); (case dB => k_is); (case tB => k_is); (case sb => k_is); (case sv => k_is)
    obtain ⟨f__law_stream, fd__law_stream, D__law_stream⟩ : ∃ f fd, Ap.Df _ mg "_law_stream" Ap.s__law_stream ["script", "many"] f fd := by
      refine' Ap.df_mk KX G ?a ?l ?c ?k ?b
      (case a => k_is); (case l => k_is); (case c => k_is); (case k => k_is); (case b => exact fun _ _ _ _ _ _ us hl => match us, hl with | [_, _], _ => rfl)
    obtain ⟨f__law_draw, fd__law_draw, D__law_draw⟩ : ∃ f fd, Ap.Df _ mg "_law_draw" Ap.s__law_draw ["draws", "k"] f fd := by
      refine' Ap.df_mk KX G ?a ?l ?c ?k ?b
      (case a => k_is); (case l => k_is); (case c => k_is); (case k => k_is); (case b => exact fun _ _ _ _ _ _ us hl => match us, hl with | [_, _], _ => rfl)
    obtain ⟨f__law_large, fd__law_large, D__law_large⟩ : ∃ f fd, Ap.Df _ mg "_law_large" Ap.s__law_large ["draws", "k"] f fd := by
      refine' Ap.df_mk KX G ?a ?l ?c ?k ?b
      (case a => k_is); (case l => k_is); (case c => k_is); (case k => k_is); (case b => exact fun _ _ _ _ _ _ us hl => match us, hl with | [_, _], _ => rfl)
    obtain ⟨f__law_record, fd__law_record, D__law_record⟩ : ∃ f fd, Ap.Df _ mg "_law_record" Ap.s__law_record ["draw"] f fd := by
      refine' Ap.df_mk KX G ?a ?l ?c ?k ?b
      (case a => k_is); (case l => k_is); (case c => k_is); (case k => k_is); (case b => exact fun _ _ _ _ _ _ us hl => match us, hl with | [_], _ => rfl)
    obtain ⟨f__law_record_of, fd__law_record_of, D__law_record_of⟩ : ∃ f fd, Ap.Df _ mg "_law_record_of" Ap.s__law_record_of ["log", "number"] f fd := by
      refine' Ap.df_mk KX G ?a ?l ?c ?k ?b
      (case a => k_is); (case l => k_is); (case c => k_is); (case k => k_is); (case b => exact fun _ _ _ _ _ _ us hl => match us, hl with | [_, _], _ => rfl)
    obtain ⟨f__law_after, fd__law_after, D__law_after⟩ : ∃ f fd, Ap.Df _ mg "_law_after" Ap.s__law_after ["log", "number"] f fd := by
      refine' Ap.df_mk KX G ?a ?l ?c ?k ?b
      (case a => k_is); (case l => k_is); (case c => k_is); (case k => k_is); (case b => exact fun _ _ _ _ _ _ us hl => match us, hl with | [_, _], _ => rfl)
    obtain ⟨f__law_integer, fd__law_integer, D__law_integer⟩ : ∃ f fd, Ap.Df _ mg "_law_integer" Ap.s__law_integer ["thing", "due"] f fd := by
      refine' Ap.df_mk KX G ?a ?l ?c ?k ?b
      (case a => k_is); (case l => k_is); (case c => k_is); (case k => k_is); (case b => exact fun _ _ _ _ _ _ us hl => match us, hl with | [_, _], _ => rfl)
    obtain ⟨f__law_holds, fd__law_holds, D__law_holds⟩ : ∃ f fd, Ap.Df _ mg "_law_holds" Ap.s__law_holds ["log", "base", "image", "records"] f fd := by
      refine' Ap.df_mk KX G ?a ?l ?c ?k ?b
      (case a => k_is); (case l => k_is); (case c => k_is); (case k => k_is); (case b => exact fun _ _ _ _ _ _ us hl => match us, hl with | [_, _, _, _], _ => rfl)
    obtain ⟨fd, hb, F⟩ : ∃ fd, (∀ (s : Shared) (v : Value), BindsTo s fd ⟨[v], []⟩ [("script", v)]) ∧ L2.Fun _ "law" "law" Ap.s_law fa fd := by
      refine' Ap.law_mk KX G hmg ?a ?l ?c ?k ?b
      (case a => k_is); (case l => k_is); (case c => k_is); (case k => k_is); (case b => exact fun _ _ _ _ _ _ _ _ => .of_eq rfl)
    refine ⟨fd, hb, fun base _ _ => Ap.ok_law F D__law_stream D__law_draw D__law_large D__law_record D__law_record_of D__law_after D__law_integer D__law_holds L_Log ⟨L_Log.cl, n_Log_base, n_Log_image, n_Log_records⟩ D_Log___init__ D_Log_length D_Log___len__ D_Log___iter__ D_Log_record D_Log_after D_Log_with_record E_OutOfRange g_HallError ?T⟩
    refine' ⟨PySem.W.mg_none_of KX G ?z0, PySem.W.mg_none_of KX G ?z1, PySem.W.mg_none_of KX G ?z2, PySem.W.mg_none_of KX G ?z3, PySem.W.mg_none_of KX G ?z4, PySem.W.mg_none_of KX G ?z5, PySem.W.mg_none_of KX G ?z6, PySem.W.mg_none_of KX G ?z7, PySem.W.mg_none_of KX G ?z8⟩
    (case z0 => k_is); (case z1 => k_is); (case z2 => k_is); (case z3 => k_is); (case z4 => k_is); (case z5 => k_is); (case z6 => k_is); (case z7 => k_is); (case z8 => k_is)
#print axioms PySem.Challenge.cw_appendhall_k16_records_of_a_log_holds
