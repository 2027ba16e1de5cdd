import PyProof.Rows.All
import Wide.All
import OpenK.AllK
import Wide.FinOn
import HandS.ForMost
import HandS.Evl
import HandS.Walk
import HandS.SortKw
import HandS.DictComp
import HandS.IsInst
import HandS.ForExc
import HandS.TupAny
import HandS.Conv
import HandS.Property
import HandS.ExcIs
import HandS.Deep
import HandS.SetBool
import HandS.SetKeys
import HandS.ClsMeth
import OpenK.KDescr
import HandS.WordsDict
import PySem.Challenge.RW_appendhall_k51_reads_close_by_majority
set_option Elab.async false
set_option linter.all false
set_option maxRecDepth 100000
namespace Ap
open PySem PySem.Spec PyProof.Rows L2 Evl

/-! ### more of what evaluates to what -/
section
variable {K : PySem.W.Frag} {σ : L2.St} {H H' : Hp} {ta tb tc te : TE} {t u : TT} {x y z v w : V} {r r' : R2}
theorem ev_chain {k m : Bool} (ha : Ev ta σ H x) (hb : Ev tb σ H y) (hr : RV r x y H (.bl k)) (hc : Ev tc σ H z) (hr' : RV r' y z H (.bl m)) : Ev (tChain r r' ta tb tc) σ H (.bl (k && m)) := fun H1 e Q q =>
  ha H1 e _ fun H2 e2 => hb H2 (e.trans e2) _ fun H3 e3 => hr H3 ((e.trans e2).trans e3) _ fun H4 e4 => ⟨k, rfl, by
    cases k with
    | true =>
      show tc σ H4 _
      exact hc H4 (((e.trans e2).trans e3).trans e4) _ fun H5 e5 => hr' H5 ((((e.trans e2).trans e3).trans e4).trans e5) Q fun H6 e6 => q H6 ((((e2.trans e3).trans e4).trans e5).trans e6)
    | false =>
      show Q (.bl false) H4
      exact q H4 ((e2.trans e3).trans e4)⟩
theorem rc_int {i : Int} : RC (fun xs H Q => (∃ i, xs = [.int i] ∧ Q (.int i) H) ∨ ∃ k, xs = [.bl k] ∧ Q (.int (if k then 1 else 0)) H) [.int i] H (.int i) := fun H1 _ _ q => Or.inl ⟨i, rfl, q H1 (Ex.refl H1)⟩
theorem rc_len {p : Addr} {xs : List V} (h : SqL K H p xs) : RC (fun xs H Q => ∃ p ys, xs = [.ref p] ∧ (SqL K H p ys ∨ SqT K H p ys) ∧ Q (.int ys.length) H) [.ref p] H (.int (xs.length : Int)) := fun H1 e _ q => ⟨p, xs, rfl, Or.inl (ex_l e h), q H1 (Ex.refl H1)⟩
theorem rc_lenT {p : Addr} {xs : List V} (h : SqT K H p xs) : RC (fun xs H Q => ∃ p ys, xs = [.ref p] ∧ (SqL K H p ys ∨ SqT K H p ys) ∧ Q (.int ys.length) H) [.ref p] H (.int (xs.length : Int)) := fun H1 e _ q => ⟨p, xs, rfl, Or.inr (ex_t e h), q H1 (Ex.refl H1)⟩
end


section
variable {K : PySem.W.Frag} {σ : L2.St} {H H' : Hp} {ta tb tc te td ty tv : TE} {t u : TT} {x y z v w : V} {D : Ends} {tz : TS}
theorem ev_dget {a : Addr} {kvs : List (Key × V)} {k : Key} (ha : Ev td σ H (.ref a)) (hk : Ev ty σ H (kV k)) (hr : Rd H a (.dK kvs)) (hv : valV kvs k = some v) : Ev (tDGet td ty) σ H v := fun H1 e Q q =>
  ha H1 e _ fun H2 e2 => hk H2 (e.trans e2) _ fun H3 e3 => ⟨a, v, rfl, .inl ⟨kvs, k, ex_rd ((e.trans e2).trans e3) hr, rfl, hv.symm⟩, q H3 (e2.trans e3)⟩
/-- isinstance(x, T) of a plain value -/
theorem rc_isi {x : V} {T X : String} {b : Bool} (ht : ∀ H, TyX K H x (.type X)) (hb : kitB X T = some b) : RC (rIsi K) [x, .ty T] H (.bl b) := fun H1 _ _ q => ⟨x, .ty T, .type X, .type T, b, rfl, .ty T, ht H1, kit_ty hb, q H1 (Ex.refl H1)⟩
/-- d[k] = e -/
theorem s_put {a : Addr} {kvs : List (Key × V)} {k : Key} (h : Ev tv σ H v) (ha : Ev td σ H (.ref a)) (hk : Ev ty σ H (kV k)) (hd : H a = some (.dK kvs)) (hl : kvs.length < 100000) (q : ∀ H1, Ex H H1 → D.nx σ (upd H1 a (.dK (putK kvs k v)))) : sDPut td ty tv D σ H :=
  h H (Ex.refl H) _ fun H1 e1 => ha H1 e1 _ fun H2 e2 => hk H2 (e1.trans e2) _ fun H3 e3 => ⟨a, _, rfl, DPut.k (((e1.trans e2).trans e3) a _ hd) (sz_lt hl), q H3 ((e1.trans e2).trans e3)⟩
theorem q_put {a : Addr} {kvs : List (Key × V)} {k : Key} (h : Ev tv σ H v) (ha : Ev td σ H (.ref a)) (hk : Ev ty σ H (kV k)) (hd : H a = some (.dK kvs)) (hl : kvs.length < 100000) (q : ∀ H1, Ex H H1 → tz D σ (upd H1 a (.dK (putK kvs k v)))) : tSeq (sDPut td ty tv) tz D σ H :=
  s_put (D := { D with nx := tz D }) h ha hk hd hl q
/-- within a lock, and out of it -/
theorem Ex.unlock {H H' : Hp} {d : Addr} {o : Obj} {u : HO} (hd : H d = some u) (e : Ex (upd H d (.frz o u)) H') : Ex H (upd H' d u) := fun a o' h => by
  by_cases q : a = d
  · subst q
    rw [upd_same, ← hd, h]
  · rw [upd_ne q]
    exact e a o' (by rw [upd_ne q]; exact h)
theorem SqL.locked {a d : Addr} {xs : List V} {o : Obj} {u : HO} (h : SqL K H a xs) (hn : H d = some u) (hu : ∀ l, u ≠ .lst l ∧ ∀ o, u ≠ .frz o (.lst l)) : SqL K (upd H d (.frz o u)) a xs := by
  rcases h with (h | ⟨o', h⟩) | h
  · have q : a ≠ d := fun e => by
      rw [e, hn] at h
      exact (hu xs).1 (Option.some.inj h)
    exact .inl (.inl (by rw [upd_ne q]; exact h))
  · have q : a ≠ d := fun e => by
      rw [e, hn] at h
      exact (hu xs).2 o' (Option.some.inj h)
    exact .inl (.inr ⟨o', by rw [upd_ne q]; exact h⟩)
  · exact .inr h
/-- y = [e for k in d if t] -/
theorem q_lcKeys {d : Addr} {kvs : List (Key × V)} {jd i j : Nat} {vs : List Nat} (hj : σ[jd]? = some (some (.ref d))) (hd : H d = some (.dK kvs)) (hz : kvs.length ≤ 40000) (f : Nat → Bool) (v : Nat → V) (hw : ∀ x, wipe ((wipe σ vs).set j (some x)) vs = wipe σ vs)
    (ht : ∀ (n : Nat) k x o, kvs[n]? = some (k, x) → EvT t ((wipe σ vs).set j (some (kV k))) (upd H d (.frz o (.dK kvs))) (f n))
    (he : ∀ (n : Nat) k x o, kvs[n]? = some (k, x) → f n = true → Ev te ((wipe σ vs).set j (some (kV k))) (upd H d (.frz o (.dK kvs))) (v n))
    (q : ∀ p H1, H p = none → Ex H H1 → H1 p = some (.lst (given kvs.length f v)) → tz D (σ.set i (some (.ref p))) H1) : tSeq (tLock (tAsg (tLc (iKeys (tVar jd)) (gName j) t te vs) (gName i))) tz D σ H := by
  refine ⟨d, .dK kvs, hd, trivial, fun od => ⟨.ref d, hj, d, od, rfl, .inl ⟨kvs, upd_same, fun Dl hD => ?_⟩⟩⟩
  have ne : Dl ≠ d := fun e => by
    rw [e, upd_same] at hD
    cases hD
  refine lc_it walk_keys (fun m H' => Cw (upd H d (.frz od (.dK kvs))) f v Dl m H') ⟨hD, Ex.new hD, upd_same⟩ (fun m H' _ p => p.2.1 d _ upd_same) (fun m x H1 H' hm p y => ?_) (fun H' p => ?_)
  · obtain ⟨rfl, k, x', hk, rfl⟩ := y
    exact ⟨hw _, cw_turn p (by omega) (ht m k x' od hk) (fun hf => he m k x' od hk hf)⟩
  · refine ⟨p.2.1 d _ upd_same, ?_⟩
    refine q Dl _ ?_ (Ex.unlock hd p.2.1) (by rw [upd_ne ne]; exact p.2.2)
    rw [upd_ne ne] at hD
    exact hD
/-- for k in d: body, the dict locked -/
theorem q_forKeys {d : Addr} {kvs : List (Key × V)} {jd j : Nat} {tu : TS} (hj : σ[jd]? = some (some (.ref d))) (hd : H d = some (.dK kvs)) (Pv : Obj → Nat → L2.St → Hp → Prop)
    (h0 : ∀ o, Pv o 0 σ (upd H d (.frz o (.dK kvs)))) (hG : ∀ o i σ' H', i ≤ kvs.length → Pv o i σ' H' → H' d = some (.frz o (.dK kvs)))
    (hs : ∀ o i k x σ' H' rt bk, kvs[i]? = some (k, x) → Pv o i σ' H' → tu ⟨Pv o (i + 1), rt, bk, Pv o (i + 1)⟩ (σ'.set j (some (kV k))) H')
    (q : ∀ o σ' H', Pv o kvs.length σ' H' → tz D σ' (upd H' d (.dK kvs))) : tSeq (tLock (tFor (iKeys (tVar jd)) (gName j) tu)) tz D σ H := by
  refine ⟨d, .dK kvs, hd, trivial, fun od => ⟨.ref d, hj, d, od, rfl, .inl ⟨kvs, upd_same, ?_⟩⟩⟩
  refine for_it walk_keys (Pv od) (h0 od) (fun i σ' H' hi p => hG od i σ' H' hi p) (fun i x σ' H1 H' hi p y => ?_) (fun σ' H' p => ⟨hG od _ σ' H' (Nat.le_refl _) p, q od σ' H' p⟩)
  obtain ⟨rfl, k, x', hk, rfl⟩ := y
  exact hs od i k x' σ' H' _ _ hk p
theorem q_dnew {i : Nat} (k : ∀ p H1, H p = none → Ex H H1 → H1 p = some (.dK []) → tz D (σ.set i (some (.ref p))) H1) : tSeq (tAsg tDNewK (gName i)) tz D σ H := fun p hp => k p _ hp (Ex.new hp) upd_same
theorem el_rep {ta : TA} {vs : List V} {n : Int} (h : EvA ta σ H vs) (hb : Ev tb σ H (.int n)) (hl : vs.length * n.toNat ≤ 100000) (hv : vs.length ≤ 100000) (hn : -100000 ≤ n ∧ n ≤ 100000) : EvL (tOp rRep (tLst ta) tb) σ H (List.replicate n.toNat vs).flatten := fun H1 e Q q =>
  h H1 e _ fun H2 e2 => ⟨sz_of hv, fun p hp => hb _ ((e.trans e2).trans (Ex.new hp)) _ fun H3 e3 => ⟨p, n, vs, rfl, rfl, e3 _ _ upd_same, by omega, by omega, sz_of hl, fun l hl2 => q l _ (fresh_back ((e2.trans (Ex.new hp)).trans e3) hl2) (((e2.trans (Ex.new hp)).trans e3).trans (Ex.new hl2)) upd_same⟩⟩
theorem q_call {sp : Sp} {dvs vs : List V} {E : XK} {ta : TA} {i : Nat} (h : EvA ta σ H vs) (k : ∀ H1, Ex H H1 → sp (vs ++ dvs) H1 (fun v H2 => tz D (σ.set i (some v)) H2) E) : tSeq (tAsg (tCall sp dvs E ta) (gName i)) tz D σ H := h H (Ex.refl H) _ fun H1 e => k H1 e
theorem s_retCall {sp : Sp} {dvs vs : List V} {E : XK} {ta : TA} (h : EvA ta σ H vs) (k : ∀ H1, Ex H H1 → sp (vs ++ dvs) H1 D.rt E) : tRet (tCall sp dvs E ta) D σ H := h H (Ex.refl H) _ fun H1 e => k H1 e
/-- for k in range(lo, hi), any small bounds -/
theorem q_forRng {ta : TA} {j : Nat} {lo n : Int} {tu : TS} (h : EvA ta σ H [.int lo, .int n]) (hn : -100000 ≤ lo ∧ lo ≤ 100000 ∧ -100000 ≤ n ∧ n ≤ 100000) (Pv : Nat → L2.St → Hp → Prop) (h0 : ∀ H1, Ex H H1 → Pv 0 σ H1)
    (hs : ∀ (i : Nat) σ' H', lo + (i : Int) < n → Pv i σ' H' → tu { D with nx := Pv (i + 1), ct := Pv (i + 1), bk := tz D } (σ'.set j (some (.int (lo + (i : Int))))) H') (hd : ∀ σ' H', Pv (n - lo).toNat σ' H' → tz D σ' H') : tSeq (tFor (iRng2 ta) (gName j) tu) tz D σ H :=
  h H (Ex.refl H) _ fun H1 e => ⟨lo, n, rfl, ⟨by omega, by omega, by omega, by omega⟩, for_range (lo := lo) (n := (n - lo).toNat) Pv (h0 H1 e) (fun i σ' H' hi p => hs i σ' H' (by omega) p) hd⟩
theorem given_eq {α : Type} (xs : List α) (d : α) (p : α → Bool) (g : α → V) : given xs.length (fun i => p (xs.getD i d)) (fun i => g (xs.getD i d)) = (xs.filter p).map g := by
  have e : (List.range xs.length).map (fun i => xs.getD i d) = xs := by
    refine List.ext_getElem (by simp) (fun i h1 h2 => ?_)
    rw [List.getElem_map, List.getElem_range, List.getD_eq_getElem?_getD, List.getElem?_eq_getElem h2]
    rfl
  unfold given
  conv => rhs; rw [← e]
  rw [List.filter_map, List.map_map]
  rfl
end
/-! ### draws: whole numbers below 5040 -/
def Dr (ds : List Int) : Prop := ∀ d ∈ ds, 0 ≤ d ∧ d < 5040
theorem Dr.nil : Dr [] := fun _ h => nomatch h
theorem Dr.app {ds : List Int} {d : Int} (h : Dr ds) (h0 : 0 ≤ d) (h1 : d < 5040) : Dr (ds ++ [d]) := fun e he => by
  rcases List.mem_append.mp he with he | he
  · exact h e he
  · rw [List.mem_singleton.mp he]
    exact ⟨h0, h1⟩
/-- a draw: the k-th one, 0 behind the last -/
def drw (ds : List Int) (k : Nat) : Int := ds.getD k 0
theorem drw_ok {ds : List Int} (h : Dr ds) (k : Nat) : 0 ≤ drw ds k ∧ drw ds k < 5040 := by
  unfold drw
  rw [List.getD_eq_getElem?_getD]
  cases e : ds[k]? with
  | none => exact ⟨Int.le_refl _, by show (0 : Int) < 5040; decide⟩
  | some d => exact h d (List.mem_of_getElem? e)
def spStream (K : PySem.W.Frag) : Sp := fun vs H Q _ => ∃ (a : Addr) (ns : List Int) (m : Nat), vs = [.ref a, .int (m : Int)] ∧ SqL K H a (ns.map V.int) ∧ ns.length ≤ 63 ∧ m ≤ 1000 ∧
  ∀ ds : List Int, Dr ds → ds.length ≤ m + 60 → RetL (ds.map V.int) H Q
def spDraw (K : PySem.W.Frag) : Sp := fun vs H Q _ => ∃ (a : Addr) (ds : List Int) (k : Nat), vs = [.ref a, .int (k : Int)] ∧ SqL K H a (ds.map V.int) ∧ RetV (.int (drw ds k)) H Q
theorem spDraw_v {K : PySem.W.Frag} {H : Hp} {a : Addr} {ds : List Int} {j : Int} {k : Nat} (h : SqL K H a (ds.map V.int)) (e : j = (k : Int)) : SpV (spDraw K) [.ref a, .int j] H (.int (drw ds k)) := fun H1 e1 Q q E =>
  ⟨a, ds, k, by rw [e], ex_l e1 h, fun H2 e2 => q H2 e2⟩
def drI (ds : List Int) (j : Int) : Int := drw ds j.toNat
theorem drI_ok {ds : List Int} (h : Dr ds) (j : Int) : 0 ≤ drI ds j ∧ drI ds j < 5040 := drw_ok h _
theorem spDrawI {K : PySem.W.Frag} {H : Hp} {a : Addr} {ds : List Int} {j : Int} (h : SqL K H a (ds.map V.int)) (e : 0 ≤ j) : SpV (spDraw K) [.ref a, .int j] H (.int (drI ds j)) := spDraw_v h (by omega)
theorem q_stream {K : PySem.W.Frag} {σ : L2.St} {H : Hp} {D : Ends} {tz : TS} {E : XK} {i : Nat} {a : Addr} {ns : List Int} {m : Int} (h0 : σ[0]? = some (some (.ref a))) (hS : SqL K H a (ns.map V.int)) (hn : ns.length ≤ 63) (hm : 0 ≤ m ∧ m ≤ 1000)
    (k : ∀ (ds : List Int) (l : Addr) (H1 : Hp), Dr ds → (ds.length : Int) ≤ m + 60 → H l = none → Ex H H1 → H1 l = some (.lst (ds.map V.int)) → tz D (σ.set i (some (.ref l))) H1) :
    tSeq (tAsg (tCall (spStream K) [] E (tCons (tVar 0) (tCons (tC (.int m)) tNil))) (gName i)) tz D σ H :=
  ⟨.ref a, h0, a, ns, m.toNat, by rw [show ((m.toNat : Nat) : Int) = m by omega]; rfl, hS, hn, by omega, fun ds hD hl l H1 n e h => k ds l H1 hD (by omega) n e h⟩

/-! ### a def of the text, its place and how it is called; the law's own end -/
structure Df (K : PySem.W.Frag) (mg : Str → Option Value) (x : Str) (st : Stmt) (ps : List Str) (f : Addr) (fd : FuncData) : Prop where
  F : Fun K x x st f fd
  b : Binds K fd ps []
  g : mg x = some (.ref f)
theorem df_mk {K : PySem.W.Frag} {mg : Str → Option Value} {h : Heap} (X : K.In h) (G : h.Ns mainGlobals mg) {x : Str} {st : Stmt} {ps : List Str} {f : Addr} {oc : Value} {od an : Option Addr} {sl : Array (Option Value)} {kV dc pm cd ct : Value}
    (a : PySem.W.nsIn K mainGlobals x = some (some (.ref f))) (l : K.lookup f = some ⟨oc, od, .func (PySem.W.fnOf x x (defArgs st) (defBody st) (defScope st) .none kV dc pm an cd ct), sl⟩) (c : PySem.W.codeIn K cd x = true) (k : PySem.W.keepIn K (.ref f) = true)
    (hb : ∀ (kV doc pm : Value) (an : Option Addr) (cdv ct : Value) (us : List Value), us.length = ps.length → bindArgs (PySem.W.fnOf x x (defArgs st) (defBody st) (defScope st) .none kV doc pm an cdv ct) ⟨us, []⟩ = pure (ps.zip us)) :
    ∃ f fd, Df K mg x st ps f fd := ⟨_, _, fun_mk l c k, (fun_mk l c k).binds hb, PySem.W.mg_of X G a⟩
theorem law_mk {K : PySem.W.Frag} {mg : Str → Option Value} {h : Heap} (X : K.In h) (G : h.Ns mainGlobals mg) {st : Stmt} {fa f : Addr} {oc : Value} {od an : Option Addr} {sl : Array (Option Value)} {kV dc pm cd ct : Value} (hfa : mg "law" = some (.ref fa))
    (a : PySem.W.nsIn K mainGlobals "law" = some (some (.ref f))) (l : K.lookup f = some ⟨oc, od, .func (PySem.W.fnOf "law" "law" (defArgs st) (defBody st) (defScope st) .none kV dc pm an cd ct), sl⟩) (c : PySem.W.codeIn K cd "law" = true) (k : PySem.W.keepIn K (.ref f) = true)
    (hb : ∀ (kV doc pm : Value) (an : Option Addr) (cdv ct : Value) (s : Shared) (v : Value), BindsTo s (PySem.W.fnOf "law" "law" (defArgs st) (defBody st) (defScope st) .none kV doc pm an cdv ct) ⟨[v], []⟩ [("script", v)]) :
    ∃ fd, (∀ (s : Shared) (v : Value), BindsTo s fd ⟨[v], []⟩ [("script", v)]) ∧ Fun K "law" "law" st fa fd := by
  have e := hfa.symm.trans (PySem.W.mg_of X G a)
  cases e
  exact ⟨_, fun s v => hb kV dc pm an cd ct s v, fun_mk l c k⟩
def spLaw (K : PySem.W.Frag) : Sp := fun vs H Q _ => ∃ (a : Addr) (ns : List Int), vs = [.ref a] ∧ SqL K H a (ns.map V.int) ∧ ns.length ≤ 63 ∧ ∀ H', Q (.bl true) H'
end Ap

set_option Elab.async false
set_option linter.all false
set_option maxRecDepth 100000
namespace Ap
open PySem PySem.Spec PyProof.Rows L2 Evl

/-! ### data: what a value stands for, whatever grows around it -/
section
variable {K : PySem.W.Frag} {H H' : Hp}
mutual
theorem dp_mono (e : Ex H H') : ∀ (d : PyData) (v : V), Dp K H v d → Dp K H' v d
  | .none, _, h => by cases h; exact .non
  | .bool b, _, h => by cases h; exact .bl b
  | .int i, _, h => by cases h; exact .int i
  | .str x, _, h => by cases h; exact .str x
  | .list ds, _, h => by
    cases h with
    | lst hs ha => exact .lst (ex_l e hs) (dpa_mono e ds _ ha)
  | .tuple ds, _, h => by
    cases h with
    | tup hs ha => exact .tup (ex_t e hs) (dpa_mono e ds _ ha)
  | .dict _, _, h => by cases h
theorem dpa_mono (e : Ex H H') : ∀ (ds : List PyData) (vs : List V), DpAll K H vs ds → DpAll K H' vs ds
  | [], _, h => by cases h; exact .nil
  | d :: ds, _, h => by
    cases h with
    | cons h1 h2 => exact .cons (dp_mono e d _ h1) (dpa_mono e ds _ h2)
end
theorem dpa_len : ∀ {vs : List V} {ds : List PyData}, DpAll K H vs ds → vs.length = ds.length
  | _, _, .nil => rfl
  | _, _, .cons _ h => by rw [List.length_cons, List.length_cons, dpa_len h]
theorem dpa_at : ∀ {vs : List V} {ds : List PyData} {i : Nat} {d : PyData}, DpAll K H vs ds → ds[i]? = some d → ∃ v, vs[i]? = some v ∧ Dp K H v d
  | _, _, i, d, .nil, h => by simp at h
  | _, _, 0, d, .cons h1 _, h => ⟨_, rfl, by
    have e := Option.some.inj (show some _ = some d from h)
    rw [← e]
    exact h1⟩
  | _, _, i + 1, d, .cons _ h2, h => by
    obtain ⟨v, e, q⟩ := dpa_at (i := i) h2 (by simpa using h)
    exact ⟨v, by simpa using e, q⟩
theorem dpa_atV : ∀ {vs : List V} {ds : List PyData} {i : Nat} {v : V}, DpAll K H vs ds → vs[i]? = some v → ∃ d, ds[i]? = some d ∧ Dp K H v d
  | _, _, i, v, .nil, h => by simp at h
  | _, _, 0, v, .cons h1 _, h => ⟨_, rfl, by
    have e := Option.some.inj (show some _ = some v from h)
    rw [← e]
    exact h1⟩
  | _, _, i + 1, v, .cons _ h2, h => by
    obtain ⟨d, e, q⟩ := dpa_atV (i := i) h2 (by simpa using h)
    exact ⟨d, by simpa using e, q⟩
theorem dpa_app : ∀ {vs ws : List V} {ds es : List PyData}, DpAll K H vs ds → DpAll K H ws es → DpAll K H (vs ++ ws) (ds ++ es)
  | _, _, _, _, .nil, h => h
  | _, _, _, _, .cons h1 h2, h => .cons h1 (dpa_app h2 h)
theorem dpa_one {v : V} {d : PyData} (h : Dp K H v d) : DpAll K H [v] [d] := .cons h .nil
theorem dpa_drop : ∀ {vs : List V} {ds : List PyData} (n : Nat), DpAll K H vs ds → DpAll K H (vs.drop n) (ds.drop n)
  | _, _, 0, h => h
  | _, _, n + 1, .nil => .nil
  | _, _, n + 1, .cons _ h2 => dpa_drop n h2
theorem dpa_take : ∀ {vs : List V} {ds : List PyData} (n : Nat), DpAll K H vs ds → DpAll K H (vs.take n) (ds.take n)
  | _, _, 0, _ => .nil
  | _, _, n + 1, .nil => .nil
  | _, _, n + 1, .cons h1 h2 => .cons h1 (dpa_take n h2)
theorem dpa_ints : ∀ (ns : List Int), DpAll K H (ns.map V.int) (ns.map PyData.int)
  | [] => .nil
  | n :: r => .cons (.int n) (dpa_ints r)
end

/-! ### data that == reads to its end: no dict, so deep at most -/
mutual
theorem eqv_self : ∀ d : PyData, d.canLay0 = true → PyData.eqv d d = true
  | .none, _ => by simp [PyData.eqv]
  | .bool b, _ => by simp [PyData.eqv]
  | .int i, _ => by simp [PyData.eqv]
  | .str x, _ => by simp [PyData.eqv]
  | .list ds, h => by
    show PyData.eqvAll ds ds = true
    exact eqvAll_self ds (by simpa [PyData.canLay0] using h)
  | .tuple ds, h => by
    show PyData.eqvAll ds ds = true
    exact eqvAll_self ds (by simpa [PyData.canLay0] using h)
  | .dict _, h => by simp [PyData.canLay0] at h
theorem eqvAll_self : ∀ ds : List PyData, PyData.canLayAll0 ds = true → PyData.eqvAll ds ds = true
  | [], _ => by simp [PyData.eqvAll]
  | d :: ds, h => by
    have h' : d.canLay0 = true ∧ PyData.canLayAll0 ds = true := by simpa [PyData.canLayAll0] using h
    simp [PyData.eqvAll, eqv_self d h'.1, eqvAll_self ds h'.2]
end
/-- no dict within, no text out of range, at most n deep -/
def Sd (n : Nat) (d : PyData) : Prop := d.canLay0 = true ∧ d.depth ≤ n
def Sds (n : Nat) (ds : List PyData) : Prop := ∀ d ∈ ds, Sd n d
theorem sds_lay : ∀ {n : Nat} {ds : List PyData}, Sds n ds → PyData.canLayAll0 ds = true ∧ PyData.depthAll ds ≤ n
  | _, [], _ => ⟨by simp [PyData.canLayAll0], by simp [PyData.depthAll]⟩
  | n, d :: ds, h => by
    have h1 := h d List.mem_cons_self
    have h2 := sds_lay (fun e he => h e (List.mem_cons_of_mem _ he))
    exact ⟨by simp [PyData.canLayAll0, h1.1, h2.1], by have := h1.2; have := h2.2; simp only [PyData.depthAll]; omega⟩
theorem sd_tuple {n : Nat} {ds : List PyData} (h : Sds n ds) : Sd (n + 1) (.tuple ds) := ⟨by simp [PyData.canLay0, (sds_lay h).1], by have := (sds_lay h).2; simp only [PyData.depth]; omega⟩
theorem sd_list {n : Nat} {ds : List PyData} (h : Sds n ds) : Sd (n + 1) (.list ds) := ⟨by simp [PyData.canLay0, (sds_lay h).1], by have := (sds_lay h).2; simp only [PyData.depth]; omega⟩
theorem sd_int {n : Nat} {i : Int} : Sd n (.int i) := ⟨by simp [PyData.canLay0], by simp [PyData.depth]⟩
theorem sd_bool {n : Nat} {b : Bool} : Sd n (.bool b) := ⟨by simp [PyData.canLay0], by simp [PyData.depth]⟩
theorem sd_none {n : Nat} : Sd n .none := ⟨by simp [PyData.canLay0], by simp [PyData.depth]⟩
theorem sd_str {n : Nat} {x : Str} (h : PyData.strOk x = true) : Sd n (.str x) := ⟨by simp [PyData.canLay0, h], by simp [PyData.depth]⟩
theorem Sd.up {n m : Nat} {d : PyData} (h : Sd n d) (l : n ≤ m) : Sd m d := ⟨h.1, Nat.le_trans h.2 l⟩
theorem sds_nil {n : Nat} : Sds n [] := fun _ h => nomatch h
theorem sds_cons {n : Nat} {d : PyData} {ds : List PyData} (h : Sd n d) (hs : Sds n ds) : Sds n (d :: ds) := fun e he => by
  rcases List.mem_cons.mp he with q | q
  · rw [q]; exact h
  · exact hs e q
theorem sds_app {n : Nat} {ds es : List PyData} (h : Sds n ds) (hs : Sds n es) : Sds n (ds ++ es) := fun e he => by
  rcases List.mem_append.mp he with q | q
  · exact h e q
  · exact hs e q
theorem Sds.drop {n : Nat} {ds : List PyData} (h : Sds n ds) (k : Nat) : Sds n (ds.drop k) := fun e he => h e (List.mem_of_mem_drop he)
theorem Sds.take {n : Nat} {ds : List PyData} (h : Sds n ds) (k : Nat) : Sds n (ds.take k) := fun e he => h e (List.mem_of_mem_take he)
theorem Sd.shaped {d : PyData} {n : Nat} (h : Sd n d) (l : n ≤ 64) : SeqAt.shaped d = true := by
  unfold SeqAt.shaped
  rw [h.1, decide_eq_true (Nat.le_trans h.2 l)]
  rfl
theorem Sd.self {d : PyData} {n : Nat} (h : Sd n d) : PyData.eqv d d = true := eqv_self d h.1

/-! ### the part of a heap that a base and what is new since a point make -/
def ov (H H1 H2 : Hp) : Hp := fun a => match H a with
  | some o => some o
  | none => match H1 a with
    | some _ => none
    | none => H2 a
theorem ov_ex {H H1 H2 : Hp} (e : Ex H H1) (e2 : Ex H1 H2) : Ex (ov H H1 H2) H2 := fun a o h => by
  unfold ov at h
  cases h0 : H a with
  | some o' =>
    rw [h0] at h
    rw [← h]
    exact e2 a o' (e a o' h0)
  | none =>
    rw [h0] at h
    cases h1 : H1 a with
    | some o' => rw [h1] at h; cases h
    | none => rw [h1] at h; exact h
theorem ov_base {H H1 H2 : Hp} : Ex H (ov H H1 H2) := fun a o h => by
  unfold ov
  rw [h]
theorem ov_none {H H1 H2 : Hp} {a : Addr} {o : HO} (h : H a = none) (h1 : H1 a = some o) : ov H H1 H2 a = none := by
  unfold ov
  rw [h, h1]
theorem ov_grow {H H1 H2 H3 : Hp} (e2 : Ex H2 H3) : Ex (ov H H1 H2) (ov H H1 H3) := fun a o h => by
  unfold ov at h ⊢
  cases h0 : H a with
  | some o' => rw [h0] at h; exact h
  | none =>
    rw [h0] at h
    cases h1 : H1 a with
    | some o' => rw [h1] at h; cases h
    | none =>
      rw [h1] at h
      exact e2 a o h
theorem ov_later {H H1 H2 H3 : Hp} (e1 : Ex H1 H2) : Ex (ov H H2 H3) (ov H H1 H3) := fun a o h => by
  unfold ov at h ⊢
  cases h0 : H a with
  | some o' => rw [h0] at h; exact h
  | none =>
    rw [h0] at h
    cases h2 : H2 a with
    | some o' => rw [h2] at h; cases h
    | none =>
      rw [h2] at h
      have h1 : H1 a = none := fresh_back e1 h2
      rw [h1]
      exact h
theorem ov_new {H H1 H2 : Hp} {p : Addr} (e : Ex H H1) (e2 : Ex H1 H2) (hp : H2 p = none) {u : HO} : ov H H1 (upd H2 p u) p = some u := by
  have h1 : H1 p = none := fresh_back e2 hp
  have h0 : H p = none := fresh_back e h1
  unfold ov
  rw [h0, h1]
  exact upd_same

/-! ### what evaluates to data -/
def EvD (K : PySem.W.Frag) (te : TE) (σ : L2.St) (H : Hp) (d : PyData) : Prop := ∀ H1, Ex H H1 → ∀ Q : VK, (∀ v H2, Ex H1 H2 → Dp K (ov H H1 H2) v d → Q v H2) → te σ H1 Q
def EvDs (K : PySem.W.Frag) (ta : TA) (σ : L2.St) (H : Hp) (ds : List PyData) : Prop := ∀ H1, Ex H H1 → ∀ Q : List V → Hp → Prop, (∀ vs H2, Ex H1 H2 → DpAll K (ov H H1 H2) vs ds → Q vs H2) → ta σ H1 Q
/-- a new list of data -/
def EvN (K : PySem.W.Frag) (te : TE) (σ : L2.St) (H : Hp) (ds : List PyData) : Prop := ∀ H1, Ex H H1 → ∀ Q : VK, (∀ p xs H2, H1 p = none → Ex H1 H2 → H2 p = some (.lst xs) → DpAll K (ov H H1 H2) xs ds → Q (.ref p) H2) → te σ H1 Q
section
variable {K : PySem.W.Frag} {σ : L2.St} {H H' : Hp} {ta tb tc te : TE} {t u : TT} {x y z v w : V} {d e : PyData} {ds es : List PyData} {r : R2}
theorem ed_of (h : Ev te σ H v) (hd : Dp K H v d) : EvD K te σ H d := fun H1 e Q q => h H1 e Q fun H2 e2 => q v H2 e2 (dp_mono ov_base d v hd)
theorem ed_var {i : Nat} (h : σ[i]? = some (some v)) (hd : Dp K H v d) : EvD K (tVar i) σ H d := ed_of (ev_var h) hd
theorem ed_int {i : Int} (h : Ev te σ H (.int i)) : EvD K te σ H (.int i) := ed_of h (.int i)
theorem ed_str {s : Str} : EvD K (tC (.str s)) σ H (.str s) := ed_of ev_c (.str s)
theorem ed_bool {b : Bool} (h : Ev te σ H (.bl b)) : EvD K te σ H (.bool b) := ed_of h (.bl b)
theorem ed_non : EvD K (tC .non) σ H .none := ed_of ev_c .non
theorem ed_is (h : EvD K te σ H d) (q : d = e) : EvD K te σ H e := q ▸ h
theorem EvD.mono (e : Ex H H') (h : EvD K te σ H d) : EvD K te σ H' d := fun H1 a Q q => h H1 (e.trans a) Q fun v H2 e2 hd => q v H2 e2 (dp_mono (fun b o hb => by
  unfold ov at hb ⊢
  cases h0 : H b with
  | some o' => rw [h0] at hb; rw [e b o' h0]; exact hb
  | none =>
    rw [h0] at hb
    cases h1 : H1 b with
    | some o' => rw [h1] at hb; cases hb
    | none =>
      rw [h1] at hb
      rw [fresh_back a h1]
      exact hb) d v hd)
theorem eds_nil : EvDs K tNil σ H [] := fun H1 _ _ q => q [] H1 (Ex.refl H1) .nil
theorem eds_cons {tr : TA} (h : EvD K te σ H d) (hr : EvDs K tr σ H ds) : EvDs K (tCons te tr) σ H (d :: ds) := fun H1 e Q q =>
  h H1 e _ fun v H2 e2 hv => hr H2 (e.trans e2) _ fun vs H3 e3 hs => q _ H3 (e2.trans e3) (.cons (dp_mono (ov_grow e3) d v hv) (dpa_mono (ov_later e2) ds vs hs))
theorem ed_tup {ta : TA} (h : EvDs K ta σ H ds) (hl : ds.length ≤ 100000) : EvD K (tTup ta) σ H (.tuple ds) := fun H1 e Q q =>
  h H1 e _ fun vs H2 e2 hs => ⟨by rw [dpa_len hs]; exact sz_of hl, fun p hp => q _ _ (e2.trans (Ex.new hp)) (.tup (st_of (ov_new e e2 hp)) (dpa_mono (ov_grow (Ex.new hp)) ds vs hs))⟩
theorem en_lst {ta : TA} (h : EvDs K ta σ H ds) (hl : ds.length ≤ 100000) : EvN K (tLst ta) σ H ds := fun H1 e Q q =>
  h H1 e _ fun vs H2 e2 hs => ⟨by rw [dpa_len hs]; exact sz_of hl, fun p hp => q p vs _ (fresh_back e2 hp) (e2.trans (Ex.new hp)) upd_same (dpa_mono (ov_grow (Ex.new hp)) ds vs hs)⟩
theorem ed_new (h : EvN K te σ H ds) : EvD K te σ H (.list ds) := fun H1 e Q q => h H1 e _ fun p xs H2 np e2 hp hs => q _ H2 e2 (.lst (sq_of (by
  have h1 := fresh_back e np
  unfold ov
  rw [h1, np]
  exact hp)) hs)
theorem atI_len {α β : Type} {xs : List α} {ys : List β} (h : xs.length = ys.length) {i : Int} {y : β} (hy : atI ys i = some y) : ∃ j : Nat, ys[j]? = some y ∧ ∀ x, xs[j]? = some x → atI xs i = some x := by
  unfold atI at hy ⊢
  cases e : ixN ys.length i with
  | none => rw [e] at hy; cases hy
  | some j =>
    rw [e] at hy
    refine ⟨j, hy, fun x hx => ?_⟩
    rw [h, e]
    exact hx
theorem ed_ixT {i : Int} (ha : EvD K ta σ H (.tuple ds)) (hb : Ev tb σ H (.int i)) (h : atI ds i = some d) : EvD K (tOp (rIxT K) ta tb) σ H d := fun H1 e Q q =>
  ha H1 e _ fun v H2 e2 hv => hb H2 (e.trans e2) _ fun H3 e3 => by
    cases hv with
    | tup hs hd =>
      obtain ⟨j, hj, hx⟩ := atI_len (dpa_len hd) h
      obtain ⟨x, ex, dx⟩ := dpa_at hd hj
      exact ⟨_, _, i, x, rfl, rfl, ex_t ((ov_ex e e2).trans e3) hs, hx x ex, q x H3 (e2.trans e3) (dp_mono (ov_grow e3) d x dx)⟩
theorem ed_ixL {i : Int} (ha : EvD K ta σ H (.list ds)) (hb : Ev tb σ H (.int i)) (h : atI ds i = some d) : EvD K (tOp (rIxL K) ta tb) σ H d := fun H1 e Q q =>
  ha H1 e _ fun v H2 e2 hv => hb H2 (e.trans e2) _ fun H3 e3 => by
    cases hv with
    | lst hs hd =>
      obtain ⟨j, hj, hx⟩ := atI_len (dpa_len hd) h
      obtain ⟨x, ex, dx⟩ := dpa_at hd hj
      exact ⟨_, _, i, x, rfl, rfl, ex_l ((ov_ex e e2).trans e3) hs, hx x ex, q x H3 (e2.trans e3) (dp_mono (ov_grow e3) d x dx)⟩
/-- the same part of two lists of one length -/
def cutA {α : Type} (xs : List α) (lo hi : Option Int) : List α := (xs.drop (HT.sIx xs.length 0 lo)).take (HT.sIx xs.length xs.length hi - HT.sIx xs.length 0 lo)
theorem dpa_cut {vs : List V} {lo hi : Option Int} (h : DpAll K H vs ds) : DpAll K H (cutV vs lo hi) (cutA ds lo hi) := by
  unfold cutV cutA
  rw [dpa_len h]
  exact dpa_take _ (dpa_drop _ h)
theorem ed_slT {tl th : TO} {lo hi : Option Int} (h : EvD K te σ H (.tuple ds)) (h1 : EvO tl σ H lo) (h2 : EvO th σ H hi) : EvD K (tSl (rSlA K) te tl th) σ H (.tuple (cutA ds lo hi)) := fun H1 e Q q =>
  h H1 e _ fun v H2 e2 hv => h1 H2 (e.trans e2) _ fun H3 e3 => h2 H3 ((e.trans e2).trans e3) _ fun H4 e4 => by
    have e24 := e2.trans (e3.trans e4)
    cases hv with
    | @tup a xs _ hs hd =>
      refine ⟨a, xs, rfl, ex_t ((ov_ex e e2).trans (e3.trans e4)) hs, fun hw => q _ H4 e24 (.tup (ex_t (ov_grow (e3.trans e4)) hs) ?_), fun _ p hp => q _ _ (e24.trans (Ex.new hp)) (.tup (st_of (ov_new e e24 hp)) (dpa_cut (dpa_mono (ov_grow ((e3.trans e4).trans (Ex.new hp))) ds xs hd)))⟩
      have ec : cutA ds lo hi = ds := by
        unfold cutA
        rw [← dpa_len hd, hw.1, hw.2, List.drop_zero, Nat.sub_zero, dpa_len hd, List.take_length]
      rw [ec]
      exact dpa_mono (ov_grow (e3.trans e4)) ds xs hd
theorem en_slL {tl th : TO} {lo hi : Option Int} (h : EvD K te σ H (.list ds)) (h1 : EvO tl σ H lo) (h2 : EvO th σ H hi) : EvN K (tSl (rSlL K) te tl th) σ H (cutA ds lo hi) := fun H1 e Q q =>
  h H1 e _ fun v H2 e2 hv => h1 H2 (e.trans e2) _ fun H3 e3 => h2 H3 ((e.trans e2).trans e3) _ fun H4 e4 => by
    have e24 := e2.trans (e3.trans e4)
    cases hv with
    | @lst a xs _ hs hd =>
      exact ⟨a, xs, rfl, ex_l ((ov_ex e e2).trans (e3.trans e4)) hs, fun p hp => q p _ _ (fresh_back e24 hp) (e24.trans (Ex.new hp)) upd_same (dpa_cut (dpa_mono (ov_grow ((e3.trans e4).trans (Ex.new hp))) ds xs hd))⟩
theorem ed_catT (ha : EvD K ta σ H (.tuple ds)) (hb : EvD K tb σ H (.tuple es)) (hl : ds.length + es.length ≤ 100000) : EvD K (tOp (rCatA K) ta tb) σ H (.tuple (ds ++ es)) := fun H1 e Q q =>
  ha H1 e _ fun v H2 e2 hv => hb H2 (e.trans e2) _ fun w H3 e3 hw => by
    have e13 := e2.trans e3
    cases hv with
    | @tup a xs _ hs hd =>
      cases hw with
      | @tup b ys _ ht he =>
        have hs3 := ex_t ((ov_ex e e2).trans e3) hs
        have ht3 := ex_t (ov_ex (e.trans e2) e3) ht
        have hd3 := dpa_mono (ov_grow e3) ds xs hd
        have he3 := dpa_mono (ov_later e2) es ys he
        have ld := dpa_len hd
        have le := dpa_len he
        refine ⟨a, b, xs, ys, rfl, rfl, hs3, ht3, sz_of (by omega), fun h0 => ?_, fun _ h0 => ?_, fun _ _ p hp => q _ _ (e13.trans (Ex.new hp)) (.tup (st_of (ov_new e e13 hp)) (dpa_app (dpa_mono (ov_grow (Ex.new hp)) ds xs hd3) (dpa_mono (ov_grow (Ex.new hp)) es ys he3)))⟩
        · have z : ds = [] := List.eq_nil_of_length_eq_zero (by rw [← ld, h0]; rfl)
          subst z
          exact q _ _ e13 (.tup (ex_t (ov_later e2) ht) he3)
        · have z : es = [] := List.eq_nil_of_length_eq_zero (by rw [← le, h0]; rfl)
          subst z
          exact q _ _ e13 (.tup (ex_t (ov_grow e3) hs) (by rw [List.append_nil]; exact hd3))
theorem en_cat (ha : EvN K ta σ H ds) (hb : EvN K tb σ H es) (hl : ds.length + es.length ≤ 100000) : EvN K (tOp rCat ta tb) σ H (ds ++ es) := fun H1 e Q q =>
  ha H1 e _ fun p xs H2 np e2 hp hs => hb H2 (e.trans e2) _ fun p' ys H3 np' e3 hp' ht =>
    ⟨p, p', xs, ys, rfl, rfl, e3 _ _ hp, hp', by rw [dpa_len hs, dpa_len ht]; exact sz_of hl, fun o ho => q o _ _ (fresh_back (e2.trans e3) ho) ((e2.trans e3).trans (Ex.new ho)) upd_same
      (dpa_app (dpa_mono (ov_grow (e3.trans (Ex.new ho))) ds xs hs) (dpa_mono ((ov_later e2).trans (ov_grow (Ex.new ho))) es ys ht))⟩
/-- a list that stands in the base, by its items -/
theorem en_tup {a : Addr} {xs : List V} (ha : Ev ta σ H (.ref a)) (hs : SqL K H a xs) (hd : DpAll K H xs ds) : EvD K (tThen ta (kTup K)) σ H (.tuple ds) := fun H1 e Q q =>
  ha H1 e _ fun H2 e2 => .inl ⟨a, xs, rfl, ex_l (e.trans e2) hs, fun p hp => q _ _ (e2.trans (Ex.new hp)) (.tup (st_of (ov_new e e2 hp)) (dpa_mono ov_base ds xs hd))⟩
theorem ed_tupOf (ha : EvD K ta σ H (.list ds)) : EvD K (tThen ta (kTup K)) σ H (.tuple ds) := fun H1 e Q q =>
  ha H1 e _ fun v H2 e2 hv => by
    cases hv with
    | @lst a xs _ hs hd => exact .inl ⟨a, xs, rfl, ex_l (ov_ex e e2) hs, fun p hp => q _ _ (e2.trans (Ex.new hp)) (.tup (st_of (ov_new e e2 hp)) (dpa_mono (ov_grow (Ex.new hp)) ds xs hd))⟩
theorem ev_eqD {n m : Nat} (ha : EvD K ta σ H d) (hb : EvD K tb σ H e) (sd : Sd n d) (se : Sd m e) (hn : n ≤ 64) (hm : m ≤ 64) : Ev (tOp (rEqD K) ta tb) σ H (.bl (PyData.eqv d e)) := fun H1 a Q q =>
  ha H1 a _ fun v H2 e2 hv => hb H2 (a.trans e2) _ fun w H3 e3 hw => ⟨d, e, dp_mono ((ov_ex a e2).trans e3) d v hv, dp_mono (ov_ex (a.trans e2) e3) e w hw, sd.shaped hn, se.shaped hm, q H3 (e2.trans e3)⟩
theorem ev_neD {n m : Nat} (ha : EvD K ta σ H d) (hb : EvD K tb σ H e) (sd : Sd n d) (se : Sd m e) (hn : n ≤ 64) (hm : m ≤ 64) : Ev (tOp (rNeD K) ta tb) σ H (.bl (!PyData.eqv d e)) := fun H1 a Q q =>
  ha H1 a _ fun v H2 e2 hv => hb H2 (a.trans e2) _ fun w H3 e3 hw => ⟨d, e, dp_mono ((ov_ex a e2).trans e3) d v hv, dp_mono (ov_ex (a.trans e2) e3) e w hw, sd.shaped hn, se.shaped hm, q H3 (e2.trans e3)⟩
/-- the two sides are one: != is False -/
theorem ev_neSelf {n : Nat} (ha : EvD K ta σ H d) (hb : EvD K tb σ H d) (sd : Sd n d) (hn : n ≤ 64) : Ev (tOp (rNeD K) ta tb) σ H (.bl false) := ev_is (ev_neD ha hb sd sd hn hn) (by rw [sd.self]; rfl)
theorem ev_eqSelf {n : Nat} (ha : EvD K ta σ H d) (hb : EvD K tb σ H d) (sd : Sd n d) (hn : n ≤ 64) : Ev (tOp (rEqD K) ta tb) σ H (.bl true) := ev_is (ev_eqD ha hb sd sd hn hn) (by rw [sd.self])
theorem ev_lenD (ha : EvD K ta σ H (.list ds)) : Ev (tCB (fun xs H Q => ∃ p ys, xs = [.ref p] ∧ (SqL K H p ys ∨ SqT K H p ys) ∧ Q (.int ys.length) H) (tCons ta tNil)) σ H (.int (ds.length : Int)) := fun H1 e Q q =>
  ha H1 e _ fun v H2 e2 hv => by
    cases hv with
    | @lst a xs _ hs hd => exact ⟨a, xs, rfl, .inl (ex_l (ov_ex e e2) hs), by rw [dpa_len hd]; exact q H2 e2⟩
theorem ev_lenDT (ha : EvD K ta σ H (.tuple ds)) : Ev (tCB (fun xs H Q => ∃ p ys, xs = [.ref p] ∧ (SqL K H p ys ∨ SqT K H p ys) ∧ Q (.int ys.length) H) (tCons ta tNil)) σ H (.int (ds.length : Int)) := fun H1 e Q q =>
  ha H1 e _ fun v H2 e2 hv => by
    cases hv with
    | @tup a xs _ hs hd => exact ⟨a, xs, rfl, .inr (ex_t (ov_ex e e2) hs), by rw [dpa_len hd]; exact q H2 e2⟩
theorem ed_if {b : Bool} (h : EvT t σ H b) (h1 : b = true → EvD K ta σ H d) (h2 : b = false → EvD K tb σ H d) : EvD K (tIf t ta tb) σ H d := fun H1 e Q q => h H1 e _ fun H2 e2 => by
  cases b with
  | true =>
    show ta σ H2 Q
    exact h1 rfl H2 (e.trans e2) Q fun v H3 e3 hv => q v H3 (e2.trans e3) (dp_mono (ov_later e2) d v hv)
  | false =>
    show tb σ H2 Q
    exact h2 rfl H2 (e.trans e2) Q fun v H3 e3 hv => q v H3 (e2.trans e3) (dp_mono (ov_later e2) d v hv)
/-- a promise that gives data, over a base that the caller names -/
def RetD (K : PySem.W.Frag) (B : Hp) (d : PyData) (H : Hp) (Q : VK) : Prop := ∀ v H2, Ex H H2 → Dp K (ov B H H2) v d → Q v H2
theorem ov_ov {B H H1 H2 : Hp} (e : Ex B H) (e1 : Ex H H1) (e2 : Ex H1 H2) : Ex (ov (ov B H H1) H1 H2) (ov B H H2) := fun a o h => by
  unfold ov at h ⊢
  cases h0 : B a with
  | some o' =>
    rw [h0] at h
    exact h
  | none =>
    rw [h0] at h
    cases h1 : H a with
    | some o' =>
      rw [h1, e1 a o' h1] at h
      cases h
    | none =>
      rw [h1] at h
      cases h3 : H1 a with
      | some o' =>
        rw [h3] at h
        rw [← h]
        exact e2 a o' h3
      | none =>
        rw [h3] at h
        exact h
def SpD (K : PySem.W.Frag) (sp : Sp) (vs : List V) (H : Hp) (d : PyData) : Prop := ∀ H1, Ex H H1 → ∀ Q : VK, (∀ v H2, Ex H1 H2 → Dp K (ov H H1 H2) v d → Q v H2) → ∀ E : XK, sp vs H1 Q E
theorem ed_call {sp : Sp} {dvs vs : List V} {E : XK} {ta : TA} (h : EvA ta σ H vs) (hs : SpD K sp (vs ++ dvs) H d) : EvD K (tCall sp dvs E ta) σ H d := fun H1 e Q q =>
  h H1 e _ fun H2 e2 => hs H2 (e.trans e2) Q (fun v H3 e3 hv => q v H3 (e2.trans e3) (dp_mono (ov_later e2) d v hv)) E
/-! ### statements -/
variable {D : Ends} {tz : TS} {i : Nat}
theorem dp_all {H2 : Hp} {v : V} {d : PyData} (e : Ex H H2) (h : Dp K (ov H H H2) v d) : Dp K H2 v d := dp_mono (ov_ex (Ex.refl H) e) d v h
theorem q_asgD (h : EvD K te σ H d) (k : ∀ v H1, Ex H H1 → Dp K H1 v d → tz D (σ.set i (some v)) H1) : tSeq (tAsg te (gName i)) tz D σ H := h H (Ex.refl H) _ fun v H1 e hv => k v H1 e (dp_mono (ov_ex (Ex.refl H) e) d v hv)
theorem s_asgD (h : EvD K te σ H d) (k : ∀ v H1, Ex H H1 → Dp K H1 v d → D.nx (σ.set i (some v)) H1) : tAsg te (gName i) D σ H := h H (Ex.refl H) _ fun v H1 e hv => k v H1 e (dp_mono (ov_ex (Ex.refl H) e) d v hv)
theorem q_asgN (h : EvN K te σ H ds) (k : ∀ p xs H1, H p = none → Ex H H1 → H1 p = some (.lst xs) → DpAll K H1 xs ds → tz D (σ.set i (some (.ref p))) H1) : tSeq (tAsg te (gName i)) tz D σ H :=
  h H (Ex.refl H) _ fun p xs H1 np e hp hs => k p xs H1 np e hp (dpa_mono (ov_ex (Ex.refl H) e) ds xs hs)
theorem q_asgDB {B : Hp} (eB : Ex B H) (h : EvD K te σ B d) (k : ∀ v H1, Ex H H1 → Dp K (ov B H H1) v d → tz D (σ.set i (some v)) H1) : tSeq (tAsg te (gName i)) tz D σ H := h H eB _ fun v H1 e hv => k v H1 e hv
theorem s_retDB {B : Hp} (eB : Ex B H) (h : EvD K te σ B d) (k : ∀ v H1, Ex H H1 → Dp K (ov B H H1) v d → D.rt v H1) : tRet te D σ H := h H eB _ k
theorem s_retD (h : EvD K te σ H d) (k : ∀ v H1, Ex H H1 → Dp K (ov H H H1) v d → D.rt v H1) : tRet te D σ H := h H (Ex.refl H) _ k
/-! ### a comprehension over a range, its items data -/
def givenD (n : Nat) (f : Nat → Bool) (g : Nat → PyData) : List PyData := ((List.range n).filter f).map g
theorem givenD_yes {n : Nat} {f : Nat → Bool} {g : Nat → PyData} (h : f n = true) : givenD (n + 1) f g = givenD n f g ++ [g n] := by
  unfold givenD
  rw [List.range_succ, List.filter_append, List.map_append, List.filter_cons, if_pos h]
  all_goals rfl
theorem givenD_no {n : Nat} {f : Nat → Bool} {g : Nat → PyData} (h : f n = false) : givenD (n + 1) f g = givenD n f g := by
  unfold givenD
  rw [List.range_succ, List.filter_append, List.map_append, List.filter_cons, if_neg (by rw [h]; decide)]
  show _ ++ [] = _
  rw [List.append_nil]
theorem givenD_len (n : Nat) (f : Nat → Bool) (g : Nat → PyData) : (givenD n f g).length ≤ n := by
  unfold givenD
  rw [List.length_map]
  have h := List.length_filter_le f (List.range n)
  rw [List.length_range] at h
  exact h
/-- the word of a comprehension over the base B, begun at H1: the items lean on the base and on what is new, not on the list itself -/
def CwD (K : PySem.W.Frag) (B H1 : Hp) (f : Nat → Bool) (g : Nat → PyData) (Dl : Addr) (i : Nat) (H' : Hp) : Prop := Ex B H' ∧ Ex H1 H' ∧ ∃ acc, H' Dl = some (.lst acc) ∧ DpAll K (ov B (upd H1 Dl (.lst [])) H') acc (givenD i f g)
theorem cwD_turn {B H1 H' : Hp} {f : Nat → Bool} {g : Nat → PyData} {Dl : Addr} {i : Nat} {σ2 : L2.St} (b1 : Ex B H1) (nD : H1 Dl = none) (p : CwD K B H1 f g Dl i H') (hi : i < 50000) (ht : EvT t σ2 B (f i)) (he : f i = true → EvD K te σ2 B (g i)) :
    t σ2 H' fun b H3 => if b = true then te σ2 H3 fun y H4 => ∃ acc, H4 Dl = some (.lst acc) ∧ acc.length < sizeLine ∧ CwD K B H1 f g Dl (i + 1) (upd H4 Dl (.lst (acc ++ [y]))) else CwD K B H1 f g Dl (i + 1) H3 := by
  obtain ⟨p1, p2, acc, p3, p4⟩ := p
  have nB : B Dl = none := fresh_back b1 nD
  refine ht H' p1 _ fun H3 e3 => ?_
  cases hf : f i with
  | true =>
    show te σ2 H3 fun y H4 => ∃ acc, H4 Dl = some (.lst acc) ∧ acc.length < sizeLine ∧ CwD K B H1 f g Dl (i + 1) (upd H4 Dl (.lst (acc ++ [y])))
    refine he hf H3 (p1.trans e3) _ fun y H4 e4 hy => ⟨acc, e4 Dl _ (e3 Dl _ p3), sz_lt (by rw [dpa_len p4]; have := givenD_len i f g; omega), Ex.mut ((p1.trans e3).trans e4) nB, Ex.mut ((p2.trans e3).trans e4) nD, _, upd_same, ?_⟩
    have k1 : Ex (ov B H3 H4) (ov B (upd H1 Dl (.lst [])) (upd H4 Dl (.lst (acc ++ [y])))) := fun a o ha => by
      unfold ov at ha ⊢
      cases h0 : B a with
      | some o' => rw [h0] at ha; exact ha
      | none =>
        rw [h0] at ha
        cases h3 : H3 a with
        | some o' => rw [h3] at ha; cases ha
        | none =>
          rw [h3] at ha
          have ne : a ≠ Dl := fun e => by
            rw [e, e3 Dl _ p3] at h3
            cases h3
          rw [upd_ne ne, fresh_back (p2.trans e3) h3]
          show upd H4 Dl _ a = some o
          rw [upd_ne ne]
          exact ha
    have k2 : Ex (ov B (upd H1 Dl (.lst [])) H') (ov B (upd H1 Dl (.lst [])) (upd H4 Dl (.lst (acc ++ [y])))) := fun a o ha => by
      unfold ov at ha ⊢
      cases h0 : B a with
      | some o' => rw [h0] at ha; exact ha
      | none =>
        rw [h0] at ha
        by_cases ne : a = Dl
        · rw [ne, upd_same] at ha
          cases ha
        · rw [upd_ne ne] at ha ⊢
          cases h1 : H1 a with
          | some o' => rw [h1] at ha; cases ha
          | none =>
            rw [h1] at ha
            show upd H4 Dl _ a = some o
            rw [upd_ne ne]
            exact e4 a o (e3 a o ha)
    rw [givenD_yes hf]
    exact dpa_app (dpa_mono k2 _ _ p4) (dpa_one (dp_mono k1 _ _ hy))
  | false =>
    show CwD K B H1 f g Dl (i + 1) H3
    refine ⟨p1.trans e3, p2.trans e3, acc, e3 Dl _ p3, ?_⟩
    rw [givenD_no hf]
    exact dpa_mono (ov_grow e3) _ _ p4
theorem cwD_start {B H1 : Hp} {f : Nat → Bool} {g : Nat → PyData} {Dl : Addr} (b1 : Ex B H1) (nD : H1 Dl = none) : CwD K B H1 f g Dl 0 (upd H1 Dl (.lst [])) := ⟨b1.trans (Ex.new nD), Ex.new nD, [], upd_same, .nil⟩
theorem cwD_end {B H1 H' : Hp} {f : Nat → Bool} {g : Nat → PyData} {Dl : Addr} {n : Nat} (p : CwD K B H1 f g Dl n H') : ∃ acc, H' Dl = some (.lst acc) ∧ DpAll K (ov B H1 H') acc (givenD n f g) := by
  obtain ⟨_, _, acc, p3, p4⟩ := p
  refine ⟨acc, p3, dpa_mono (fun a o ha => ?_) _ _ p4⟩
  unfold ov at ha ⊢
  cases h0 : B a with
  | some o' => rw [h0] at ha; exact ha
  | none =>
    rw [h0] at ha
    by_cases ne : a = Dl
    · rw [ne, upd_same] at ha
      cases ha
    · rw [upd_ne ne] at ha
      exact ha
theorem en_lcR1 {ta : TA} {j : Nat} {vs : List Nat} {n : Int} (f : Nat → Bool) (g : Nat → PyData) (h : EvA ta σ H [.int n]) (hn : 0 ≤ n ∧ n ≤ 40000) (hw : ∀ x, wipe ((wipe σ vs).set j (some x)) vs = wipe σ vs)
    (ht : ∀ i : Nat, (i : Int) < n → EvT t ((wipe σ vs).set j (some (.int (i : Int)))) H (f i)) (he : ∀ i : Nat, (i : Int) < n → f i = true → EvD K te ((wipe σ vs).set j (some (.int (i : Int)))) H (g i)) :
    EvN K (tLc (iRng1 ta) (gName j) t te vs) σ H (givenD n.toNat f g) := fun H0 e Q q => h H0 e _ fun H1 e1 => ⟨n, rfl, by omega, by omega, fun Dl hD =>
  lc_range (lo := 0) (n := n.toNat) (CwD K H H1 f g Dl) (cwD_start (e.trans e1) hD) (fun i H' hi p => by
    have e0 : (0 : Int) + (i : Int) = (i : Int) := Int.zero_add _
    show wipe ((wipe σ vs).set j (some (.int ((0 : Int) + (i : Int))))) vs = wipe σ vs ∧ t ((wipe σ vs).set j (some (.int ((0 : Int) + (i : Int))))) H' fun b H3 => if b = true then te ((wipe σ vs).set j (some (.int ((0 : Int) + (i : Int))))) H3 fun y H4 => ∃ acc, H4 Dl = some (.lst acc) ∧ acc.length < sizeLine ∧ CwD K H H1 f g Dl (i + 1) (upd H4 Dl (.lst (acc ++ [y]))) else CwD K H H1 f g Dl (i + 1) H3
    rw [e0]
    exact ⟨hw _, cwD_turn (e.trans e1) hD p (by omega) (ht i (by omega)) (fun hf => he i (by omega) hf)⟩) (fun H' p => by
      obtain ⟨acc, h1, h2⟩ := cwD_end p
      exact q Dl acc H' (fresh_back e1 hD) (e1.trans p.2.1) h1 (dpa_mono (ov_later e1) _ _ h2))⟩
theorem et_nil : EvT tYes σ H true := fun H1 _ _ q => q H1 (Ex.refl H1)
end
end Ap

set_option Elab.async false
set_option linter.all false
set_option maxRecDepth 100000
namespace Ap
open PySem PySem.Spec PyProof.Rows L2 Evl
/-! ### a method that may raise, called where the wish hangs on the slots -/
def tMX (C : Addr) (m : Str) (sp : Sp) (E : L2.St → XK) (ta : TE) (t : TA) : TE := fun σ H Q => ta σ H fun x G => ∃ a dx fs, x = .ref a ∧ G a = some (.ins C dx fs) ∧ fs.lookup m = none ∧ t σ G fun vs G2 => sp (x :: vs) G2 Q (E σ)
theorem pe_mx {X : Cx} {CX : CXT} {k : Nat} {f C : Addr} {fd : FuncData} {ps : List Str} {sp : Sp} {E : L2.St → XK} {m : Str} {pos apos : Pos} {e o : Expr} {es : List Expr} {ta : TE} {t : TA} {pl : Sem Bool}
    (he : PE X o ta) (c : Cls X.K C) (hm : Meth X.K C m f) (F : FnOk X.prog X.w X.K X.mg X.base CX k f fd ps sp) (hr : Room k X.A) (hb : Binds X.K fd ps []) (hx : ∀ σ, PassesAt CX X σ (E σ)) (ha : PA X (e :: es) t)
    (z1 : starEach (e :: es) X.env = (false, eval e X.env) :: starEach es X.env := by rfl) (z2 : (backTo pos (starEach es X.env)).any (·.1) = false := by rfl)
    (z3 : eval (.Call (.Attribute o m apos) (e :: es) [] pos) X.env = (do { let ov ← eval o X.env; standAt apos.atName; let (f, first) ← holding [ov] (getMethod ov m pl); callWith pos f first (backTo pos (starEach (e :: es) X.env)) (backToKw pos (keywordEach [] X.env)) }) := by rfl) :
    PE X (.Call (.Attribute o m apos) (e :: es) [] pos) (tMX C m sp E ta t) := ⟨fun pins s σ H Q I h => PySem.W.methodCall_KW (pl := pl) (thn (he.run pins s σ H _ I h) fun u s1 hh => by
  obtain ⟨x, G, J, rx, a, dx, fs, ex, ea, l, q⟩ := hh
  subst ex
  cases (show u = Value.ref a from rx)
  exact getmeth_ok J ea c hm l (PySem.W.callWith_K (first := [.ref a]) (h₀ := X.base) I.ok.mod.kin hm.kp (thn (ha.run pos pins s1 σ G _ J q) fun us s2 ⟨vs, G2, J2, r, q2⟩ => ⟨J2.kIn, run_fnS (us := .ref a :: us) (vs := .ref a :: vs) F hr hb (hx σ) J2 (.cons rfl r) q2⟩) z1 z2)) z3⟩
/-- a block under a proposition -/
theorem pss_guard {X : Cx} {b : List Stmt} {t : TS} {p : Prop} (h : p → PSs X b t) : PSs X b (fun D σ H => p ∧ t D σ H) := ⟨fun pins s σ H D I q => (h q.1).run pins s σ H D I q.2⟩
/-- try: .. except X as n: suite, the errors of the body of one own class without fields -/
theorem ps_try_own {X : Cx} {C : Addr} {x n : Str} {c : Value} {i : Nat} {body suite : List Stmt} {b₀ : Stmt} {np pos pos' : Pos} {tb : WX → TS} {ts : Addr → TS} {Wout : WX} (hs : X.stack = X.env :: X.outer) (hf : X.env.frame = some X.env.locals) (hN : X.N.Nodup) (hi : X.N[i]? = some n) (hln : X.env.kindOf n = some .local) (hc : Names X x c) (tk : Takes X Wout)
    (hb : ∀ (W : WX) (pn : List (Addr × Obj)) (xe : Value → Shared → Prop), Takes (X.tr pn xe) W → PSs (X.tr pn xe) body (tb W))
    (hsu : ∀ (a : Addr) (oe : Obj) (pn : List (Addr × Obj)), Zc (.ref C) none oe → (∃ vs, oe.data = .fields vs) → PSs (X.suite a ((a, oe) :: pn)) (b₀ :: suite) (ts a)) :
    PS X (.Try body [.ExceptHandler (some (.Name x np)) (some n) (b₀ :: suite) pos'] [] [] pos) (fun D σ H => tb (wAs X.K c i (fun a cls d D σ H => (cls = .ref C ∧ d = none) ∧ ts a D σ H) Wout D) D σ H) :=
  ps_try_as hs hf hN hi hln hc tk (fun W pn xe tk' _ => hb W pn xe tk') (fun a oe cls d pn hz hf => pss_guard fun h => by
    obtain ⟨h1, h2⟩ := h
    subst h1
    subst h2
    exact hsu a oe pn hz hf)
/-- the same without a name -/
theorem ps_try_ownN {X : Cx} {C : Addr} {x : Str} {c : Value} {body suite : List Stmt} {b₀ : Stmt} {np pos pos' : Pos} {tb : WX → TS} {ts : Addr → TS} {Wout : WX} (hs : X.stack = X.env :: X.outer) (hf : X.env.frame = some X.env.locals) (hc : Names X x c) (tk : Takes X Wout)
    (hb : ∀ (W : WX) (pn : List (Addr × Obj)) (xe : Value → Shared → Prop), Takes (X.tr pn xe) W → PSs (X.tr pn xe) body (tb W))
    (hsu : ∀ (a : Addr) (oe : Obj) (pn : List (Addr × Obj)), Zc (.ref C) none oe → (∃ vs, oe.data = .fields vs) → PSs (X.suite a ((a, oe) :: pn)) (b₀ :: suite) (ts a)) :
    PS X (.Try body [.ExceptHandler (some (.Name x np)) none (b₀ :: suite) pos'] [] [] pos) (fun D σ H => tb (wOnly X.K c (fun a cls d D σ H => (cls = .ref C ∧ d = none) ∧ ts a D σ H) Wout D) D σ H) :=
  ps_try_only hs hf hc tk (fun W pn xe tk' _ => hb W pn xe tk') (fun a oe cls d pn hz hf => pss_guard fun h => by
    obtain ⟨h1, h2⟩ := h
    subst h1
    subst h2
    exact hsu a oe pn hz hf)
/-- an own error class C over ValueError (through B), as the top left it -/
structure Err (K : PySem.W.Frag) (mg : Str → Option Value) (x : Str) (C B : Addr) : Prop where
  g : mg x = some (.ref C)
  kp : PySem.W.keepIn K (.ref C) = true
  ex : PySem.W.excIn K C [.type "ValueError", .type "Exception", .type "BaseException", .type "object"] "ValueError.__new__" = true
  bs : PySem.W.subIn K (.ref C) (.type "BaseException") = some true
  ty : PySem.W.typeIn K (.ref C) = some (.type "type")
  me : PySem.W.exmOne K (.ref C) (.ref C) = some true
  ec : ExcC K C
  k1 : PySem.W.kitOne K (.ref C) (.ref B) = some true
  k2 : PySem.W.kitOne K (.ref C) (.type "ValueError") = some true
theorem Err.mk' {X : Cx} {x m : Str} {C B : Addr} {j : Nat} {p p2 pos : Pos} (T : Err X.K X.mg x C B) (hg : Gl X x) (hdb : (x == ("__debug__" : Str)) = false := by decide) : PMk X (.Call (.Name x p) [.Constant (.str m) j p2] [] pos) (fun _ H Q => Q (.ref C) none H) :=
  pmk_own PySem.F.excBase_ValueError T.ex T.g T.kp (raises_own T.bs T.ty) hg hdb
/-- isinstance(e, T), e the error in hand -/
theorem ev_isE {K : PySem.W.Frag} {σ : L2.St} {H : Hp} {tx : TE} {D a : Addr} {i : Nat} {c : V} {cv : Value} {b : Bool} (h : σ[i]? = some (some (.ref a))) (hx : Ev tx σ H c) (hc : ∀ u, RelV c u → u = cv) (k : PySem.W.kitOne K (.ref D) cv = some b) : Ev (tCB (rIsE K D a) (tCons (tVar i) (tCons tx tNil))) σ H (.bl b) :=
  ev_cb (ea_cons (ev_var h) (ea_cons hx ea_nil)) fun H1 _ Q q => ⟨c, cv, b, rfl, hc, k, q H1 (Ex.refl H1)⟩
/-! ### slices and comprehensions of data -/
theorem cutA_from {α : Type} (xs : List α) (m : Nat) : cutA xs (some (m : Int)) none = xs.drop m := by
  unfold cutA
  rw [show HT.sIx xs.length 0 (some ((m : Nat) : Int)) = min m xs.length from HT.sIx_nat xs.length 0 m, HT.sIx_none]
  by_cases h : m ≤ xs.length
  · rw [Nat.min_eq_left h, ← List.length_drop, List.take_length]
  · rw [Nat.min_eq_right (by omega), List.drop_length, List.drop_eq_nil_of_le (by omega), List.take_nil]
theorem filter_from (m : Nat) : ∀ n : Nat, (List.range n).filter (fun k => decide (m ≤ k)) = (List.range n).drop m
  | 0 => by simp
  | n + 1 => by
    rw [List.range_succ, List.filter_append, filter_from m n]
    by_cases h : m ≤ n
    · rw [List.drop_append_of_le_length (by rw [List.length_range]; exact h), List.filter_cons, if_pos (by exact decide_eq_true h)]
      all_goals rfl
    · rw [List.filter_cons, if_neg (by rw [decide_eq_false h]; decide), List.filter_nil, List.append_nil, List.drop_eq_nil_of_le (by rw [List.length_range]; omega), List.drop_eq_nil_of_le (by rw [List.length_append, List.length_range, List.length_singleton]; omega)]
theorem range_getD {α : Type} (xs : List α) (d : α) : (List.range xs.length).map (fun i => xs.getD i d) = xs := by
  refine List.ext_getElem (by simp) (fun i h1 h2 => ?_)
  rw [List.getElem_map, List.getElem_range, List.getD_eq_getElem?_getD, List.getElem?_eq_getElem h2]
  rfl
theorem givenD_from (ds : List PyData) (m : Nat) (f : Nat → Bool) (hf : ∀ k, k < ds.length → f k = decide (m ≤ k)) : givenD ds.length f (fun k => ds.getD k .none) = ds.drop m := by
  unfold givenD
  have e : (List.range ds.length).filter f = (List.range ds.length).filter (fun k => decide (m ≤ k)) := List.filter_congr fun k hk => hf k (List.mem_range.mp hk)
  rw [e, filter_from, List.map_drop, range_getD]
theorem givenD_all (n : Nat) (g : Nat → PyData) : givenD n (fun _ => true) g = (List.range n).map g := by
  unfold givenD
  rw [List.filter_eq_self.mpr (fun _ _ => rfl)]
theorem atI_getD {α : Type} {xs : List α} {i : Int} {d : α} (h0 : 0 ≤ i) (h1 : i < (xs.length : Int)) : atI xs i = some (xs.getD i.toNat d) := by
  obtain ⟨j, rfl⟩ := Int.eq_ofNat_of_zero_le h0
  have hj : j < xs.length := by omega
  refine atI_nat ?_
  rw [show ((j : Int)).toNat = j from rfl, List.getD_eq_getElem?_getD, List.getElem?_eq_getElem hj]
  rfl
/-- range with great bounds -/
theorem q_forRngB {σ : L2.St} {H : Hp} {D : Ends} {tz : TS} {ta : TA} {j : Nat} {lo n : Int} {tu : TS} (h : EvA ta σ H [.int lo, .int n]) (hn : -(2 ^ 62) ≤ lo ∧ lo < 2 ^ 62 ∧ -(2 ^ 62) ≤ n ∧ n < 2 ^ 62) (Pv : Nat → L2.St → Hp → Prop) (h0 : ∀ H1, Ex H H1 → Pv 0 σ H1)
    (hs : ∀ (i : Nat) σ' H', lo + (i : Int) < n → Pv i σ' H' → tu { D with nx := Pv (i + 1), ct := Pv (i + 1), bk := tz D } (σ'.set j (some (.int (lo + (i : Int))))) H') (hd : ∀ σ' H', Pv (n - lo).toNat σ' H' → tz D σ' H') : tSeq (tFor (iRng2 ta) (gName j) tu) tz D σ H :=
  h H (Ex.refl H) _ fun H1 e => ⟨lo, n, rfl, hn, for_range (lo := lo) (n := (n - lo).toNat) Pv (h0 H1 e) (fun i σ' H' hi p => hs i σ' H' (by omega) p) hd⟩

/-! ### a method of the text, its class's own -/
structure Dm (K : PySem.W.Frag) (C : Addr) (x qual : Str) (st : Stmt) (ps : List Str) (f : Addr) (fd : FuncData) : Prop where
  F : Fun K x qual st f fd
  b : Binds K fd ps []
  m : Meth K C x f
theorem dm_mk {K : PySem.W.Frag} {h : Heap} (X : K.In h) {C : Addr} {x qual : Str} {st : Stmt} {ps : List Str} {f : Addr} {oc : Value} {od an : Option Addr} {sl : Array (Option Value)} {kV dc pm cd ct : Value}
    (a : PySem.W.findIn K (.ref C) x = some (some (.ref f))) (i : PySem.W.isFn K (.ref f) = true) (l : K.lookup f = some ⟨oc, od, .func (PySem.W.fnOf x qual (defArgs st) (defBody st) (defScope st) .none kV dc pm an cd ct), sl⟩) (c : PySem.W.codeIn K cd qual = true) (k : PySem.W.keepIn K (.ref f) = true)
    (hb : ∀ (kV doc pm : Value) (an : Option Addr) (cdv ct : Value) (us : List Value), us.length = ps.length → bindArgs (PySem.W.fnOf x qual (defArgs st) (defBody st) (defScope st) .none kV doc pm an cdv ct) ⟨us, []⟩ = pure (ps.zip us)) :
    ∃ f fd, Dm K C x qual st ps f fd := ⟨_, _, fun_mk l c k, (fun_mk l c k).binds hb, ⟨a, i, k⟩⟩
/-- a class of the text with an __init__ -/
structure Kl (K : PySem.W.Frag) (mg : Str → Option Value) (x : Str) (C : Addr) : Prop where
  cl : Cls K C
  g : mg x = some (.ref C)
  makes : PySem.W.makesIn K C = true
  kp : PySem.W.keepIn K (.ref C) = true
theorem Kl.make {K : PySem.W.Frag} {mg : Str → Option Value} {x : Str} {C f : Addr} {q : Str} {st : Stmt} {ps : List Str} {fd : FuncData} (L : Kl K mg x C) (D : Dm K C "__init__" q st ps f fd) : Mk K C f := ⟨L.makes, D.m.at_, D.m.fn, L.kp⟩
theorem kl_mk {K : PySem.W.Frag} {h : Heap} {mg : Str → Option Value} {x : Str} {C : Addr} (X : K.In h) (G : h.Ns mainGlobals mg) (a : PySem.W.nsIn K mainGlobals x = some (some (.ref C))) (pg : PySem.W.plainGet K C Str.empty = true) (hd : PySem.W.hasDictIn K C = true) (po : PySem.W.plainOver K C = true)
    (sa : PySem.W.findIn K (.ref C) "__setattr__" = some (some (.builtin "object.__setattr__"))) (mk : PySem.W.makesIn K C = true) (kp : PySem.W.keepIn K (.ref C) = true) : Kl K mg x C := ⟨⟨pg, hd, po, sa⟩, PySem.W.mg_of X G a, mk, kp⟩
theorem na_mk {K : PySem.W.Frag} {h : Heap} {C : Addr} {f : Str} (X : K.In h) (a : PySem.W.findIn K (.ref C) f = some none) : NoAttr K C f := a
/-- a property of an own class: its getter -/
structure Pr (K : PySem.W.Frag) (C : Addr) (x qual : Str) (st : Stmt) (f : Addr) (fd : FuncData) : Prop where
  F : Fun K x qual st f fd
  b : Binds K fd ["self"] []
  p : ∃ p, PropOf K C x p f
theorem pr_mk {K : PySem.W.Frag} {h : Heap} (X : K.In h) {C : Addr} {x qual : Str} {st : Stmt} {f p : Addr} {rest : List Value} {oc : Value} {od an : Option Addr} {sl : Array (Option Value)} {kV dc pm cd ct : Value}
    (a : PySem.W.findIn K (.ref C) x = some (some (.ref p))) (g : PySem.W.specialIn K (.ref p) "__get__" = some (some (.builtin "property.__get__"))) (t : PySem.W.takesIn K (.ref p) = some true) (r : PySem.W.recIn K p "property" = some (.ref f :: rest))
    (l : K.lookup f = some ⟨oc, od, .func (PySem.W.fnOf x qual (defArgs st) (defBody st) (defScope st) .none kV dc pm an cd ct), sl⟩) (c : PySem.W.codeIn K cd qual = true) (k : PySem.W.keepIn K (.ref f) = true)
    (hb : ∀ (kV doc pm : Value) (an : Option Addr) (cdv ct : Value) (us : List Value), us.length = (["self"] : List Str).length → bindArgs (PySem.W.fnOf x qual (defArgs st) (defBody st) (defScope st) .none kV doc pm an cdv ct) ⟨us, []⟩ = pure ((["self"] : List Str).zip us)) :
    ∃ f fd, Pr K C x qual st f fd := ⟨_, _, fun_mk l c k, (fun_mk l c k).binds hb, p, ⟨a, g, t, rest, r⟩⟩
theorem pe_pr {X : Cx} {CX : CXT} {k : Nat} {C g : Addr} {f : Str} {fd : FuncData} {sp : Sp} {E : XK} {e : Expr} {pos : Pos} {ta : TE} {q : Str} {st : Stmt} (he : PE X e ta) (c : Cls X.K C) (hp : Pr X.K C f q st g fd) (F : FnOk X.prog X.w X.K X.mg X.base CX k g fd ["self"] sp) (hr : Room (k + 1) X.A) (hx : Passes CX X.nox E)
    (hab : attributeBase e f X.env (eval e X.env) = eval e X.env) : PE X (.Attribute e f pos) (tProp C sp [] E ta) := by
  obtain ⟨p, hp'⟩ := hp.p
  exact pe_prop he c hp' F hr hp.b .nil hx hab
section
variable {K : PySem.W.Frag} {σ : L2.St} {H H' : Hp} {ta tb te : TE} {ds es : List PyData}
theorem en_catV {a : Addr} {xs : List V} (ha : Ev ta σ H (.ref a)) (h : H a = some (.lst xs)) (hd : DpAll K H xs ds) (hb : EvN K tb σ H es) (hl : ds.length + es.length ≤ 100000) : EvN K (tOp rCat ta tb) σ H (ds ++ es) := fun H1 e Q q =>
  ha H1 e _ fun H2 e2 => hb H2 (e.trans e2) _ fun p' ys H3 np' e3 hp' ht =>
    ⟨a, p', xs, ys, rfl, rfl, ((e.trans e2).trans e3) _ _ h, hp', by rw [dpa_len hd, dpa_len ht]; exact sz_of hl, fun o ho => q o _ _ (fresh_back (e2.trans e3) ho) ((e2.trans e3).trans (Ex.new ho)) upd_same
      (dpa_app (dpa_mono ov_base ds xs hd) (dpa_mono ((ov_later e2).trans (ov_grow (Ex.new ho))) es ys ht))⟩
theorem el_cat {xs ys : List V} (ha : EvL ta σ H xs) (hb : EvL tb σ H ys) (hl : xs.length + ys.length ≤ 100000) : EvL (tOp rCat ta tb) σ H (xs ++ ys) := fun H1 e Q q =>
  ha H1 e _ fun p H2 np e2 hp => hb H2 (e.trans e2) _ fun p' H3 np' e3 hp' => ⟨p, p', xs, ys, rfl, rfl, e3 _ _ hp, hp', sz_of hl, fun o ho => q o _ (fresh_back (e2.trans e3) ho) ((e2.trans e3).trans (Ex.new ho)) upd_same⟩
theorem el_rg2 {a b : Int} (ha : Ev ta σ H (.int a)) (hb : Ev tb σ H (.int b)) (ok : RgOk a b) : EvL (tLstRg (tRg2 ta tb)) σ H (rgV a b) := fun H1 e Q q =>
  ha H1 e _ fun H2 e2 => hb H2 (e.trans e2) _ fun H3 e3 => ⟨a, b, rfl, rfl, ok, fun p hp => q p _ (fresh_back (e2.trans e3) hp) ((e2.trans e3).trans (Ex.new hp)) upd_same⟩
theorem rc_max2 {i j : Int} : RC (fun xs H Q => ∃ i j, xs = [.int i, .int j] ∧ Q (.int (if j > i then j else i)) H) [.int i, .int j] H (.int (if j > i then j else i)) := fun H1 _ Q q => ⟨i, j, rfl, q H1 (Ex.refl H1)⟩
theorem rc_min2 {i j : Int} : RC (fun xs H Q => ∃ i j, xs = [.int i, .int j] ∧ Q (.int (if j < i then j else i)) H) [.int i, .int j] H (.int (if j < i then j else i)) := fun H1 _ Q q => ⟨i, j, rfl, q H1 (Ex.refl H1)⟩
end
theorem q_forRng3 {σ : L2.St} {H : Hp} {D : Ends} {tz : TS} {ta : TA} {j : Nat} {lo hi c : Int} {n : Nat} {tu : TS} (h : EvA ta σ H [.int lo, .int hi, .int c]) (hn : RgC lo hi c n) (Pv : Nat → L2.St → Hp → Prop) (h0 : ∀ H1, Ex H H1 → Pv 0 σ H1)
    (hs : ∀ (i : Nat) σ' H', i < n → Pv i σ' H' → tu { D with nx := Pv (i + 1), ct := Pv (i + 1), bk := tz D } (σ'.set j (some (.int (lo + (i : Int) * c)))) H') (hd : ∀ σ' H', Pv n σ' H' → tz D σ' H') : tSeq (tFor (iRng3 ta) (gName j) tu) tz D σ H :=
  h H (Ex.refl H) _ fun H1 e => ⟨lo, hi, c, n, rfl, hn, for_it walk_rangeC Pv (h0 H1 e) (fun _ _ _ _ _ => trivial) (fun i x σ' H1 H' hi p y => by
    obtain ⟨rfl, rfl⟩ := y
    exact hs i σ' _ hi p) hd⟩
/-- the part of a list from lo to hi -/
def rng {α : Type} (xs : List α) (lo hi : Nat) : List α := (xs.drop lo).take (hi - lo)
theorem rng_drop {α : Type} (xs : List α) (lo hi k : Nat) : (rng xs lo hi).drop k = rng xs (lo + k) hi := by
  unfold rng
  rw [List.drop_take, List.drop_drop, Nat.sub_sub]
theorem rng_nil {α : Type} (xs : List α) {lo hi : Nat} (h : hi ≤ lo) : rng xs lo hi = [] := by
  unfold rng
  rw [Nat.sub_eq_zero_of_le h, List.take_zero]
theorem rng_app {α : Type} (xs : List α) {a b c : Nat} (h1 : a ≤ b) (h2 : b ≤ c) : rng xs a b ++ rng xs b c = rng xs a c := by
  unfold rng
  have e : c - a = (b - a) + (c - b) := by omega
  rw [e, List.take_add, List.drop_drop, show a + (b - a) = b by omega]
theorem rng_len {α : Type} (xs : List α) {lo hi : Nat} (h1 : lo ≤ hi) (h2 : hi ≤ xs.length) : (rng xs lo hi).length = hi - lo := by
  unfold rng
  rw [List.length_take, List.length_drop]
  omega
theorem rng_all {α : Type} (xs : List α) (lo : Nat) : rng xs lo xs.length = xs.drop lo := by
  unfold rng
  rw [← List.length_drop, List.take_length]
theorem cutA_rng {α : Type} (xs : List α) {lo hi : Nat} (h : lo ≤ xs.length) : cutA xs (some (lo : Int)) (some (hi : Int)) = rng xs lo (min hi xs.length) := by
  unfold cutA rng
  rw [HT.sIx_nat, HT.sIx_nat, Nat.min_eq_left h]
theorem Sds.rng {n : Nat} {ds : List PyData} (h : Sds n ds) (a b : Nat) : Sds n (Ap.rng ds a b) := (h.drop _).take _
section
variable {σ : L2.St} {H : Hp} {ta : TE} {p : Addr}
theorem et_isY (h : Ev ta σ H .non) : EvT (tTest (tOp (fun x y H Q => y = .non ∧ Q (.bl (decide (x = .non))) H) ta (tC .non))) σ H true := et_test (ev_is (ev_op h ev_c (fun G _ _ q => ⟨rfl, q G (Ex.refl G)⟩)) (by rfl))
theorem et_isR (h : Ev ta σ H (.ref p)) : EvT (tTest (tOp (fun x y H Q => y = .non ∧ Q (.bl (decide (x = .non))) H) ta (tC .non))) σ H false := et_test (ev_is (v := .bl (decide (V.ref p = .non))) (ev_op h ev_c (fun G _ _ q => ⟨rfl, q G (Ex.refl G)⟩)) (by rw [decide_eq_false (fun h => nomatch h)]))
theorem et_notY (h : Ev ta σ H .non) : EvT (tTest (tOp (fun x y H Q => y = .non ∧ Q (.bl (!decide (x = .non))) H) ta (tC .non))) σ H false := et_test (ev_is (ev_op h ev_c (fun G _ _ q => ⟨rfl, q G (Ex.refl G)⟩)) (by rfl))
theorem et_notR (h : Ev ta σ H (.ref p)) : EvT (tTest (tOp (fun x y H Q => y = .non ∧ Q (.bl (!decide (x = .non))) H) ta (tC .non))) σ H true := et_test (ev_is (v := .bl (!decide (V.ref p = .non))) (ev_op h ev_c (fun G _ _ q => ⟨rfl, q G (Ex.refl G)⟩)) (by rw [decide_eq_false (fun h => nomatch h)]; rfl))
end
theorem kit_own {K : PySem.W.Frag} {t : Value} {B : Addr} (hd : PySem.W.hasDictIn K B = true) (ht : PySem.W.typeIn K (.ref B) = some (.type "type")) (hs : PySem.W.subIn K t (.ref B) = some true) : PySem.W.kitOne K t (.ref B) = some true := by
  obtain ⟨cd, hc, _⟩ := PySem.W.any_some hd
  unfold PySem.W.kitOne
  split
  · rfl
  · show (if ((PySem.W.clsIn K B).isSome && PySem.W.typeIn K (.ref B) == some (.type "type")) = true then PySem.W.subIn K t (.ref B) else none) = some true
    rw [hc, ht, if_pos (by rfl)]
    exact hs
theorem kit_blt {K : PySem.W.Frag} {t : Value} {n : String} (hm : PySem.W.kitMeta n = true) (hs : PySem.W.subIn K t (.type n) = some true) : PySem.W.kitOne K t (.type n) = some true := by
  unfold PySem.W.kitOne
  split
  · rfl
  · show (if PySem.W.kitMeta n = true then PySem.W.subIn K t (.type n) else none) = some true
    rw [if_pos hm]
    exact hs
theorem err_mk {K : PySem.W.Frag} {h : Heap} {mg : Str → Option Value} {x y : Str} {C B : Addr} (X : K.In h) (G : h.Ns mainGlobals mg) (a : PySem.W.nsIn K mainGlobals x = some (some (.ref C))) (b : PySem.W.nsIn K mainGlobals y = some (some (.ref B))) (kp : PySem.W.keepIn K (.ref C) = true)
    (ex : PySem.W.excIn K C [.type "ValueError", .type "Exception", .type "BaseException", .type "object"] "ValueError.__new__" = true) (bs : PySem.W.subIn K (.ref C) (.type "BaseException") = some true) (ty : PySem.W.typeIn K (.ref C) = some (.type "type")) (ss : PySem.W.subIn K (.ref C) (.ref C) = some true)
    (hg : PySem.W.findIn K (.ref C) "__getattribute__" = some (some (.builtin "BaseException.__getattribute__"))) (hk : PySem.W.findIn K (.ref C) "__getattr__" = some none) (hd : PySem.W.hasDictIn K C = true) (ha : PySem.W.findIn K (.ref C) "__class__" = some (some (.builtin "object.__class__")))
    (hn : PySem.W.specialIn K (.builtin "object.__class__") "__get__" = some (some (.builtin "getset_descriptor.__get__"))) (ht : PySem.W.takesIn K (.builtin "object.__class__") = some true) (hm : PySem.W.mroIn K C (.type "object") = some true)
    (dB : PySem.W.hasDictIn K B = true) (tB : PySem.W.typeIn K (.ref B) = some (.type "type")) (sb : PySem.W.subIn K (.ref C) (.ref B) = some true) (sv : PySem.W.subIn K (.ref C) (.type "ValueError") = some true) : Err K mg x C B ∧ mg y = some (.ref B) :=
  ⟨⟨PySem.W.mg_of X G a, kp, ex, bs, ty, PySem.W.exm_ref bs hd ty ss, ⟨hg, hk, bs, hd, ha, hn, ht, hm⟩, kit_own dB tB sb, kit_blt (by decide +kernel) sv⟩, PySem.W.mg_of X G b⟩
end Ap

set_option Elab.async false
set_option linter.all false
set_option maxRecDepth 100000
namespace Ap
open PySem PySem.Spec PyProof.Rows L2 Evl
/-! ### any object: as data, and dicts besides (what is in a dict is left open) -/
mutual
inductive Dx (K : PySem.W.Frag) (H : Hp) : V → PyData → Prop
  | non : Dx K H .non .none
  | bl (b : Bool) : Dx K H (.bl b) (.bool b)
  | int (i : Int) : Dx K H (.int i) (.int i)
  | str (x : Str) : Dx K H (.str x) (.str x)
  | lst {a : Addr} {xs : List V} {ds : List PyData} : SqL K H a xs → DxAll K H xs ds → Dx K H (.ref a) (.list ds)
  | tup {a : Addr} {xs : List V} {ds : List PyData} : SqT K H a xs → DxAll K H xs ds → Dx K H (.ref a) (.tuple ds)
  | dic {a : Addr} {kvs : List (Key × V)} : H a = some (.dK kvs) → Dx K H (.ref a) (.dict [])
inductive DxAll (K : PySem.W.Frag) (H : Hp) : List V → List PyData → Prop
  | nil : DxAll K H [] []
  | cons {v : V} {vs : List V} {d : PyData} {ds : List PyData} : Dx K H v d → DxAll K H vs ds → DxAll K H (v :: vs) (d :: ds)
end
mutual
theorem dx_dp {K : PySem.W.Frag} {H : Hp} : ∀ (d : PyData) (v : V), Dx K H v d → d.canLay0 = true → Dp K H v d
  | .none, _, h, _ => by cases h; exact .non
  | .bool b, _, h, _ => by cases h; exact .bl b
  | .int i, _, h, _ => by cases h; exact .int i
  | .str x, _, h, _ => by cases h; exact .str x
  | .list ds, _, h, c => by
    cases h with
    | lst hs ha => exact .lst hs (dxa_dpa ds _ ha (by simpa [PyData.canLay0] using c))
  | .tuple ds, _, h, c => by
    cases h with
    | tup hs ha => exact .tup hs (dxa_dpa ds _ ha (by simpa [PyData.canLay0] using c))
  | .dict _, _, _, c => by simp [PyData.canLay0] at c
theorem dxa_dpa {K : PySem.W.Frag} {H : Hp} : ∀ (ds : List PyData) (vs : List V), DxAll K H vs ds → PyData.canLayAll0 ds = true → DpAll K H vs ds
  | [], _, h, _ => by cases h; exact .nil
  | d :: ds, _, h, c => by
    have c' : d.canLay0 = true ∧ PyData.canLayAll0 ds = true := by simpa [PyData.canLayAll0] using c
    cases h with
    | cons h1 h2 => exact .cons (dx_dp d _ h1 c'.1) (dxa_dpa ds _ h2 c'.2)
end
/-! ### data: what a value stands for, whatever grows around it -/
section
variable {K : PySem.W.Frag} {H H' : Hp}
mutual
theorem dx_mono (e : Ex H H') : ∀ (d : PyData) (v : V), Dx K H v d → Dx K H' v d
  | .none, _, h => by cases h; exact .non
  | .bool b, _, h => by cases h; exact .bl b
  | .int i, _, h => by cases h; exact .int i
  | .str x, _, h => by cases h; exact .str x
  | .list ds, _, h => by
    cases h with
    | lst hs ha => exact .lst (Evl.ex_l e hs) (dxa_mono e ds _ ha)
  | .tuple ds, _, h => by
    cases h with
    | tup hs ha => exact .tup (ex_t e hs) (dxa_mono e ds _ ha)
  | .dict _, _, h => by
    cases h with
    | dic h => exact .dic (e _ _ h)
theorem dxa_mono (e : Ex H H') : ∀ (ds : List PyData) (vs : List V), DxAll K H vs ds → DxAll K H' vs ds
  | [], _, h => by cases h; exact .nil
  | d :: ds, _, h => by
    cases h with
    | cons h1 h2 => exact .cons (dx_mono e d _ h1) (dxa_mono e ds _ h2)
end
theorem dxa_len : ∀ {vs : List V} {ds : List PyData}, DxAll K H vs ds → vs.length = ds.length
  | _, _, .nil => rfl
  | _, _, .cons _ h => by rw [List.length_cons, List.length_cons, dxa_len h]
theorem dxa_at : ∀ {vs : List V} {ds : List PyData} {i : Nat} {d : PyData}, DxAll K H vs ds → ds[i]? = some d → ∃ v, vs[i]? = some v ∧ Dx K H v d
  | _, _, i, d, .nil, h => by simp at h
  | _, _, 0, d, .cons h1 _, h => ⟨_, rfl, by
    have e := Option.some.inj (show some _ = some d from h)
    rw [← e]
    exact h1⟩
  | _, _, i + 1, d, .cons _ h2, h => by
    obtain ⟨v, e, q⟩ := dxa_at (i := i) h2 (by simpa using h)
    exact ⟨v, by simpa using e, q⟩
theorem dxa_atV : ∀ {vs : List V} {ds : List PyData} {i : Nat} {v : V}, DxAll K H vs ds → vs[i]? = some v → ∃ d, ds[i]? = some d ∧ Dx K H v d
  | _, _, i, v, .nil, h => by simp at h
  | _, _, 0, v, .cons h1 _, h => ⟨_, rfl, by
    have e := Option.some.inj (show some _ = some v from h)
    rw [← e]
    exact h1⟩
  | _, _, i + 1, v, .cons _ h2, h => by
    obtain ⟨d, e, q⟩ := dxa_atV (i := i) h2 (by simpa using h)
    exact ⟨d, by simpa using e, q⟩
theorem dxa_app : ∀ {vs ws : List V} {ds es : List PyData}, DxAll K H vs ds → DxAll K H ws es → DxAll K H (vs ++ ws) (ds ++ es)
  | _, _, _, _, .nil, h => h
  | _, _, _, _, .cons h1 h2, h => .cons h1 (dxa_app h2 h)
theorem dxa_one {v : V} {d : PyData} (h : Dx K H v d) : DxAll K H [v] [d] := .cons h .nil
theorem dxa_drop : ∀ {vs : List V} {ds : List PyData} (n : Nat), DxAll K H vs ds → DxAll K H (vs.drop n) (ds.drop n)
  | _, _, 0, h => h
  | _, _, n + 1, .nil => .nil
  | _, _, n + 1, .cons _ h2 => dxa_drop n h2
theorem dxa_take : ∀ {vs : List V} {ds : List PyData} (n : Nat), DxAll K H vs ds → DxAll K H (vs.take n) (ds.take n)
  | _, _, 0, _ => .nil
  | _, _, n + 1, .nil => .nil
  | _, _, n + 1, .cons h1 h2 => .cons h1 (dxa_take n h2)
theorem dxa_ints : ∀ (ns : List Int), DxAll K H (ns.map V.int) (ns.map PyData.int)
  | [] => .nil
  | n :: r => .cons (.int n) (dxa_ints r)
end

/-! ### what evaluates to data -/
def EvX (K : PySem.W.Frag) (te : TE) (σ : L2.St) (H : Hp) (d : PyData) : Prop := ∀ H1, Ex H H1 → ∀ Q : VK, (∀ v H2, Ex H1 H2 → Dx K (ov H H1 H2) v d → Q v H2) → te σ H1 Q
def EvXs (K : PySem.W.Frag) (ta : TA) (σ : L2.St) (H : Hp) (ds : List PyData) : Prop := ∀ H1, Ex H H1 → ∀ Q : List V → Hp → Prop, (∀ vs H2, Ex H1 H2 → DxAll K (ov H H1 H2) vs ds → Q vs H2) → ta σ H1 Q
/-- a new list of data -/
def EvXN (K : PySem.W.Frag) (te : TE) (σ : L2.St) (H : Hp) (ds : List PyData) : Prop := ∀ H1, Ex H H1 → ∀ Q : VK, (∀ p xs H2, H1 p = none → Ex H1 H2 → H2 p = some (.lst xs) → DxAll K (ov H H1 H2) xs ds → Q (.ref p) H2) → te σ H1 Q
section
variable {K : PySem.W.Frag} {σ : L2.St} {H H' : Hp} {ta tb tc te : TE} {t u : TT} {x y z v w : V} {d e : PyData} {ds es : List PyData} {r : R2}
theorem ex_of (h : Ev te σ H v) (hd : Dx K H v d) : EvX K te σ H d := fun H1 e Q q => h H1 e Q fun H2 e2 => q v H2 e2 (dx_mono ov_base d v hd)
theorem ex_var {i : Nat} (h : σ[i]? = some (some v)) (hd : Dx K H v d) : EvX K (tVar i) σ H d := ex_of (ev_var h) hd
theorem ex_int {i : Int} (h : Ev te σ H (.int i)) : EvX K te σ H (.int i) := ex_of h (.int i)
theorem ex_str {s : Str} : EvX K (tC (.str s)) σ H (.str s) := ex_of ev_c (.str s)
theorem ex_bool {b : Bool} (h : Ev te σ H (.bl b)) : EvX K te σ H (.bool b) := ex_of h (.bl b)
theorem ex_non : EvX K (tC .non) σ H .none := ex_of ev_c .non
theorem ex_is (h : EvX K te σ H d) (q : d = e) : EvX K te σ H e := q ▸ h
theorem EvX.mono (e : Ex H H') (h : EvX K te σ H d) : EvX K te σ H' d := fun H1 a Q q => h H1 (e.trans a) Q fun v H2 e2 hd => q v H2 e2 (dx_mono (fun b o hb => by
  unfold ov at hb ⊢
  cases h0 : H b with
  | some o' => rw [h0] at hb; rw [e b o' h0]; exact hb
  | none =>
    rw [h0] at hb
    cases h1 : H1 b with
    | some o' => rw [h1] at hb; cases hb
    | none =>
      rw [h1] at hb
      rw [fresh_back a h1]
      exact hb) d v hd)
theorem exs_nil : EvXs K tNil σ H [] := fun H1 _ _ q => q [] H1 (Ex.refl H1) .nil
theorem exs_cons {tr : TA} (h : EvX K te σ H d) (hr : EvXs K tr σ H ds) : EvXs K (tCons te tr) σ H (d :: ds) := fun H1 e Q q =>
  h H1 e _ fun v H2 e2 hv => hr H2 (e.trans e2) _ fun vs H3 e3 hs => q _ H3 (e2.trans e3) (.cons (dx_mono (ov_grow e3) d v hv) (dxa_mono (ov_later e2) ds vs hs))
theorem ex_tup {ta : TA} (h : EvXs K ta σ H ds) (hl : ds.length ≤ 100000) : EvX K (tTup ta) σ H (.tuple ds) := fun H1 e Q q =>
  h H1 e _ fun vs H2 e2 hs => ⟨by rw [dxa_len hs]; exact sz_of hl, fun p hp => q _ _ (e2.trans (Ex.new hp)) (.tup (st_of (ov_new e e2 hp)) (dxa_mono (ov_grow (Ex.new hp)) ds vs hs))⟩
theorem exn_lst {ta : TA} (h : EvXs K ta σ H ds) (hl : ds.length ≤ 100000) : EvXN K (tLst ta) σ H ds := fun H1 e Q q =>
  h H1 e _ fun vs H2 e2 hs => ⟨by rw [dxa_len hs]; exact sz_of hl, fun p hp => q p vs _ (fresh_back e2 hp) (e2.trans (Ex.new hp)) upd_same (dxa_mono (ov_grow (Ex.new hp)) ds vs hs)⟩
theorem ex_new (h : EvXN K te σ H ds) : EvX K te σ H (.list ds) := fun H1 e Q q => h H1 e _ fun p xs H2 np e2 hp hs => q _ H2 e2 (.lst (sq_of (by
  have h1 := fresh_back e np
  unfold ov
  rw [h1, np]
  exact hp)) hs)
theorem ex_ixT {i : Int} (ha : EvX K ta σ H (.tuple ds)) (hb : Ev tb σ H (.int i)) (h : atI ds i = some d) : EvX K (tOp (rIxT K) ta tb) σ H d := fun H1 e Q q =>
  ha H1 e _ fun v H2 e2 hv => hb H2 (e.trans e2) _ fun H3 e3 => by
    cases hv with
    | tup hs hd =>
      obtain ⟨j, hj, hx⟩ := atI_len (dxa_len hd) h
      obtain ⟨x, ex, dx⟩ := dxa_at hd hj
      exact ⟨_, _, i, x, rfl, rfl, ex_t ((ov_ex e e2).trans e3) hs, hx x ex, q x H3 (e2.trans e3) (dx_mono (ov_grow e3) d x dx)⟩
theorem ex_ixL {i : Int} (ha : EvX K ta σ H (.list ds)) (hb : Ev tb σ H (.int i)) (h : atI ds i = some d) : EvX K (tOp (rIxL K) ta tb) σ H d := fun H1 e Q q =>
  ha H1 e _ fun v H2 e2 hv => hb H2 (e.trans e2) _ fun H3 e3 => by
    cases hv with
    | lst hs hd =>
      obtain ⟨j, hj, hx⟩ := atI_len (dxa_len hd) h
      obtain ⟨x, ex, dx⟩ := dxa_at hd hj
      exact ⟨_, _, i, x, rfl, rfl, Evl.ex_l ((ov_ex e e2).trans e3) hs, hx x ex, q x H3 (e2.trans e3) (dx_mono (ov_grow e3) d x dx)⟩
theorem dxa_cut {vs : List V} {lo hi : Option Int} (h : DxAll K H vs ds) : DxAll K H (cutV vs lo hi) (cutA ds lo hi) := by
  unfold cutV cutA
  rw [dxa_len h]
  exact dxa_take _ (dxa_drop _ h)
theorem ex_slT {tl th : TO} {lo hi : Option Int} (h : EvX K te σ H (.tuple ds)) (h1 : EvO tl σ H lo) (h2 : EvO th σ H hi) : EvX K (tSl (rSlA K) te tl th) σ H (.tuple (cutA ds lo hi)) := fun H1 e Q q =>
  h H1 e _ fun v H2 e2 hv => h1 H2 (e.trans e2) _ fun H3 e3 => h2 H3 ((e.trans e2).trans e3) _ fun H4 e4 => by
    have e24 := e2.trans (e3.trans e4)
    cases hv with
    | @tup a xs _ hs hd =>
      refine ⟨a, xs, rfl, ex_t ((ov_ex e e2).trans (e3.trans e4)) hs, fun hw => q _ H4 e24 (.tup (ex_t (ov_grow (e3.trans e4)) hs) ?_), fun _ p hp => q _ _ (e24.trans (Ex.new hp)) (.tup (st_of (ov_new e e24 hp)) (dxa_cut (dxa_mono (ov_grow ((e3.trans e4).trans (Ex.new hp))) ds xs hd)))⟩
      have ec : cutA ds lo hi = ds := by
        unfold cutA
        rw [← dxa_len hd, hw.1, hw.2, List.drop_zero, Nat.sub_zero, dxa_len hd, List.take_length]
      rw [ec]
      exact dxa_mono (ov_grow (e3.trans e4)) ds xs hd
theorem exn_slL {tl th : TO} {lo hi : Option Int} (h : EvX K te σ H (.list ds)) (h1 : EvO tl σ H lo) (h2 : EvO th σ H hi) : EvXN K (tSl (rSlL K) te tl th) σ H (cutA ds lo hi) := fun H1 e Q q =>
  h H1 e _ fun v H2 e2 hv => h1 H2 (e.trans e2) _ fun H3 e3 => h2 H3 ((e.trans e2).trans e3) _ fun H4 e4 => by
    have e24 := e2.trans (e3.trans e4)
    cases hv with
    | @lst a xs _ hs hd =>
      exact ⟨a, xs, rfl, Evl.ex_l ((ov_ex e e2).trans (e3.trans e4)) hs, fun p hp => q p _ _ (fresh_back e24 hp) (e24.trans (Ex.new hp)) upd_same (dxa_cut (dxa_mono (ov_grow ((e3.trans e4).trans (Ex.new hp))) ds xs hd))⟩
theorem ex_catT (ha : EvX K ta σ H (.tuple ds)) (hb : EvX K tb σ H (.tuple es)) (hl : ds.length + es.length ≤ 100000) : EvX K (tOp (rCatA K) ta tb) σ H (.tuple (ds ++ es)) := fun H1 e Q q =>
  ha H1 e _ fun v H2 e2 hv => hb H2 (e.trans e2) _ fun w H3 e3 hw => by
    have e13 := e2.trans e3
    cases hv with
    | @tup a xs _ hs hd =>
      cases hw with
      | @tup b ys _ ht he =>
        have hs3 := ex_t ((ov_ex e e2).trans e3) hs
        have ht3 := ex_t (ov_ex (e.trans e2) e3) ht
        have hd3 := dxa_mono (ov_grow e3) ds xs hd
        have he3 := dxa_mono (ov_later e2) es ys he
        have ld := dxa_len hd
        have le := dxa_len he
        refine ⟨a, b, xs, ys, rfl, rfl, hs3, ht3, sz_of (by omega), fun h0 => ?_, fun _ h0 => ?_, fun _ _ p hp => q _ _ (e13.trans (Ex.new hp)) (.tup (st_of (ov_new e e13 hp)) (dxa_app (dxa_mono (ov_grow (Ex.new hp)) ds xs hd3) (dxa_mono (ov_grow (Ex.new hp)) es ys he3)))⟩
        · have z : ds = [] := List.eq_nil_of_length_eq_zero (by rw [← ld, h0]; rfl)
          subst z
          exact q _ _ e13 (.tup (ex_t (ov_later e2) ht) he3)
        · have z : es = [] := List.eq_nil_of_length_eq_zero (by rw [← le, h0]; rfl)
          subst z
          exact q _ _ e13 (.tup (ex_t (ov_grow e3) hs) (by rw [List.append_nil]; exact hd3))
theorem exn_cat (ha : EvXN K ta σ H ds) (hb : EvXN K tb σ H es) (hl : ds.length + es.length ≤ 100000) : EvXN K (tOp rCat ta tb) σ H (ds ++ es) := fun H1 e Q q =>
  ha H1 e _ fun p xs H2 np e2 hp hs => hb H2 (e.trans e2) _ fun p' ys H3 np' e3 hp' ht =>
    ⟨p, p', xs, ys, rfl, rfl, e3 _ _ hp, hp', by rw [dxa_len hs, dxa_len ht]; exact sz_of hl, fun o ho => q o _ _ (fresh_back (e2.trans e3) ho) ((e2.trans e3).trans (Ex.new ho)) upd_same
      (dxa_app (dxa_mono (ov_grow (e3.trans (Ex.new ho))) ds xs hs) (dxa_mono ((ov_later e2).trans (ov_grow (Ex.new ho))) es ys ht))⟩
/-- a list that stands in the base, by its items -/
theorem exn_tup {a : Addr} {xs : List V} (ha : Ev ta σ H (.ref a)) (hs : SqL K H a xs) (hd : DxAll K H xs ds) : EvX K (tThen ta (kTup K)) σ H (.tuple ds) := fun H1 e Q q =>
  ha H1 e _ fun H2 e2 => .inl ⟨a, xs, rfl, Evl.ex_l (e.trans e2) hs, fun p hp => q _ _ (e2.trans (Ex.new hp)) (.tup (st_of (ov_new e e2 hp)) (dxa_mono ov_base ds xs hd))⟩
theorem ex_tupOf (ha : EvX K ta σ H (.list ds)) : EvX K (tThen ta (kTup K)) σ H (.tuple ds) := fun H1 e Q q =>
  ha H1 e _ fun v H2 e2 hv => by
    cases hv with
    | @lst a xs _ hs hd => exact .inl ⟨a, xs, rfl, Evl.ex_l (ov_ex e e2) hs, fun p hp => q _ _ (e2.trans (Ex.new hp)) (.tup (st_of (ov_new e e2 hp)) (dxa_mono (ov_grow (Ex.new hp)) ds xs hd))⟩
theorem ev_eqX {n m : Nat} (ha : EvX K ta σ H d) (hb : EvX K tb σ H e) (sd : Sd n d) (se : Sd m e) (hn : n ≤ 64) (hm : m ≤ 64) : Ev (tOp (rEqD K) ta tb) σ H (.bl (PyData.eqv d e)) := fun H1 a Q q =>
  ha H1 a _ fun v H2 e2 hv => hb H2 (a.trans e2) _ fun w H3 e3 hw => ⟨d, e, dx_dp _ _ (dx_mono ((ov_ex a e2).trans e3) d v hv) sd.1, dx_dp _ _ (dx_mono (ov_ex (a.trans e2) e3) e w hw) se.1, sd.shaped hn, se.shaped hm, q H3 (e2.trans e3)⟩
theorem ev_neX {n m : Nat} (ha : EvX K ta σ H d) (hb : EvX K tb σ H e) (sd : Sd n d) (se : Sd m e) (hn : n ≤ 64) (hm : m ≤ 64) : Ev (tOp (rNeD K) ta tb) σ H (.bl (!PyData.eqv d e)) := fun H1 a Q q =>
  ha H1 a _ fun v H2 e2 hv => hb H2 (a.trans e2) _ fun w H3 e3 hw => ⟨d, e, dx_dp _ _ (dx_mono ((ov_ex a e2).trans e3) d v hv) sd.1, dx_dp _ _ (dx_mono (ov_ex (a.trans e2) e3) e w hw) se.1, sd.shaped hn, se.shaped hm, q H3 (e2.trans e3)⟩
/-- the two sides are one: != is False -/
theorem ev_neSelfX {n : Nat} (ha : EvX K ta σ H d) (hb : EvX K tb σ H d) (sd : Sd n d) (hn : n ≤ 64) : Ev (tOp (rNeD K) ta tb) σ H (.bl false) := ev_is (ev_neX ha hb sd sd hn hn) (by rw [sd.self]; rfl)
theorem ev_eqSelfX {n : Nat} (ha : EvX K ta σ H d) (hb : EvX K tb σ H d) (sd : Sd n d) (hn : n ≤ 64) : Ev (tOp (rEqD K) ta tb) σ H (.bl true) := ev_is (ev_eqX ha hb sd sd hn hn) (by rw [sd.self])
theorem ev_lenX (ha : EvX K ta σ H (.list ds)) : Ev (tCB (fun xs H Q => ∃ p ys, xs = [.ref p] ∧ (SqL K H p ys ∨ SqT K H p ys) ∧ Q (.int ys.length) H) (tCons ta tNil)) σ H (.int (ds.length : Int)) := fun H1 e Q q =>
  ha H1 e _ fun v H2 e2 hv => by
    cases hv with
    | @lst a xs _ hs hd => exact ⟨a, xs, rfl, .inl (Evl.ex_l (ov_ex e e2) hs), by rw [dxa_len hd]; exact q H2 e2⟩
theorem ev_lenXT (ha : EvX K ta σ H (.tuple ds)) : Ev (tCB (fun xs H Q => ∃ p ys, xs = [.ref p] ∧ (SqL K H p ys ∨ SqT K H p ys) ∧ Q (.int ys.length) H) (tCons ta tNil)) σ H (.int (ds.length : Int)) := fun H1 e Q q =>
  ha H1 e _ fun v H2 e2 hv => by
    cases hv with
    | @tup a xs _ hs hd => exact ⟨a, xs, rfl, .inr (ex_t (ov_ex e e2) hs), by rw [dxa_len hd]; exact q H2 e2⟩
theorem ex_if {b : Bool} (h : EvT t σ H b) (h1 : b = true → EvX K ta σ H d) (h2 : b = false → EvX K tb σ H d) : EvX K (tIf t ta tb) σ H d := fun H1 e Q q => h H1 e _ fun H2 e2 => by
  cases b with
  | true =>
    show ta σ H2 Q
    exact h1 rfl H2 (e.trans e2) Q fun v H3 e3 hv => q v H3 (e2.trans e3) (dx_mono (ov_later e2) d v hv)
  | false =>
    show tb σ H2 Q
    exact h2 rfl H2 (e.trans e2) Q fun v H3 e3 hv => q v H3 (e2.trans e3) (dx_mono (ov_later e2) d v hv)
/-- a promise that gives data, over a base that the caller names -/
def RetX (K : PySem.W.Frag) (B : Hp) (d : PyData) (H : Hp) (Q : VK) : Prop := ∀ v H2, Ex H H2 → Dx K (ov B H H2) v d → Q v H2
def SpX (K : PySem.W.Frag) (sp : Sp) (vs : List V) (H : Hp) (d : PyData) : Prop := ∀ H1, Ex H H1 → ∀ Q : VK, (∀ v H2, Ex H1 H2 → Dx K (ov H H1 H2) v d → Q v H2) → ∀ E : XK, sp vs H1 Q E
theorem ex_call {sp : Sp} {dvs vs : List V} {E : XK} {ta : TA} (h : EvA ta σ H vs) (hs : SpX K sp (vs ++ dvs) H d) : EvX K (tCall sp dvs E ta) σ H d := fun H1 e Q q =>
  h H1 e _ fun H2 e2 => hs H2 (e.trans e2) Q (fun v H3 e3 hv => q v H3 (e2.trans e3) (dx_mono (ov_later e2) d v hv)) E
/-! ### statements -/
variable {D : Ends} {tz : TS} {i : Nat}
theorem dx_all {H2 : Hp} {v : V} {d : PyData} (e : Ex H H2) (h : Dx K (ov H H H2) v d) : Dx K H2 v d := dx_mono (ov_ex (Ex.refl H) e) d v h
theorem q_asgX (h : EvX K te σ H d) (k : ∀ v H1, Ex H H1 → Dx K H1 v d → tz D (σ.set i (some v)) H1) : tSeq (tAsg te (gName i)) tz D σ H := h H (Ex.refl H) _ fun v H1 e hv => k v H1 e (dx_mono (ov_ex (Ex.refl H) e) d v hv)
theorem s_asgX (h : EvX K te σ H d) (k : ∀ v H1, Ex H H1 → Dx K H1 v d → D.nx (σ.set i (some v)) H1) : tAsg te (gName i) D σ H := h H (Ex.refl H) _ fun v H1 e hv => k v H1 e (dx_mono (ov_ex (Ex.refl H) e) d v hv)
theorem q_asgXN (h : EvXN K te σ H ds) (k : ∀ p xs H1, H p = none → Ex H H1 → H1 p = some (.lst xs) → DxAll K H1 xs ds → tz D (σ.set i (some (.ref p))) H1) : tSeq (tAsg te (gName i)) tz D σ H :=
  h H (Ex.refl H) _ fun p xs H1 np e hp hs => k p xs H1 np e hp (dxa_mono (ov_ex (Ex.refl H) e) ds xs hs)
theorem q_asgXB {B : Hp} (eB : Ex B H) (h : EvX K te σ B d) (k : ∀ v H1, Ex H H1 → Dx K (ov B H H1) v d → tz D (σ.set i (some v)) H1) : tSeq (tAsg te (gName i)) tz D σ H := h H eB _ fun v H1 e hv => k v H1 e hv
theorem s_retXB {B : Hp} (eB : Ex B H) (h : EvX K te σ B d) (k : ∀ v H1, Ex H H1 → Dx K (ov B H H1) v d → D.rt v H1) : tRet te D σ H := h H eB _ k
theorem s_retX (h : EvX K te σ H d) (k : ∀ v H1, Ex H H1 → Dx K (ov H H H1) v d → D.rt v H1) : tRet te D σ H := h H (Ex.refl H) _ k
/-! ### a comprehension over a range, its items data -/
/-- the word of a comprehension over the base B, begun at H1: the items lean on the base and on what is new, not on the list itself -/
def CwX (K : PySem.W.Frag) (B H1 : Hp) (f : Nat → Bool) (g : Nat → PyData) (Dl : Addr) (i : Nat) (H' : Hp) : Prop := Ex B H' ∧ Ex H1 H' ∧ ∃ acc, H' Dl = some (.lst acc) ∧ DxAll K (ov B (upd H1 Dl (.lst [])) H') acc (givenD i f g)
theorem cwX_turn {B H1 H' : Hp} {f : Nat → Bool} {g : Nat → PyData} {Dl : Addr} {i : Nat} {σ2 : L2.St} (b1 : Ex B H1) (nD : H1 Dl = none) (p : CwX K B H1 f g Dl i H') (hi : i < 50000) (ht : EvT t σ2 B (f i)) (he : f i = true → EvX K te σ2 B (g i)) :
    t σ2 H' fun b H3 => if b = true then te σ2 H3 fun y H4 => ∃ acc, H4 Dl = some (.lst acc) ∧ acc.length < sizeLine ∧ CwX K B H1 f g Dl (i + 1) (upd H4 Dl (.lst (acc ++ [y]))) else CwX K B H1 f g Dl (i + 1) H3 := by
  obtain ⟨p1, p2, acc, p3, p4⟩ := p
  have nB : B Dl = none := fresh_back b1 nD
  refine ht H' p1 _ fun H3 e3 => ?_
  cases hf : f i with
  | true =>
    show te σ2 H3 fun y H4 => ∃ acc, H4 Dl = some (.lst acc) ∧ acc.length < sizeLine ∧ CwX K B H1 f g Dl (i + 1) (upd H4 Dl (.lst (acc ++ [y])))
    refine he hf H3 (p1.trans e3) _ fun y H4 e4 hy => ⟨acc, e4 Dl _ (e3 Dl _ p3), sz_lt (by rw [dxa_len p4]; have := givenD_len i f g; omega), Ex.mut ((p1.trans e3).trans e4) nB, Ex.mut ((p2.trans e3).trans e4) nD, _, upd_same, ?_⟩
    have k1 : Ex (ov B H3 H4) (ov B (upd H1 Dl (.lst [])) (upd H4 Dl (.lst (acc ++ [y])))) := fun a o ha => by
      unfold ov at ha ⊢
      cases h0 : B a with
      | some o' => rw [h0] at ha; exact ha
      | none =>
        rw [h0] at ha
        cases h3 : H3 a with
        | some o' => rw [h3] at ha; cases ha
        | none =>
          rw [h3] at ha
          have ne : a ≠ Dl := fun e => by
            rw [e, e3 Dl _ p3] at h3
            cases h3
          rw [upd_ne ne, fresh_back (p2.trans e3) h3]
          show upd H4 Dl _ a = some o
          rw [upd_ne ne]
          exact ha
    have k2 : Ex (ov B (upd H1 Dl (.lst [])) H') (ov B (upd H1 Dl (.lst [])) (upd H4 Dl (.lst (acc ++ [y])))) := fun a o ha => by
      unfold ov at ha ⊢
      cases h0 : B a with
      | some o' => rw [h0] at ha; exact ha
      | none =>
        rw [h0] at ha
        by_cases ne : a = Dl
        · rw [ne, upd_same] at ha
          cases ha
        · rw [upd_ne ne] at ha ⊢
          cases h1 : H1 a with
          | some o' => rw [h1] at ha; cases ha
          | none =>
            rw [h1] at ha
            show upd H4 Dl _ a = some o
            rw [upd_ne ne]
            exact e4 a o (e3 a o ha)
    rw [givenD_yes hf]
    exact dxa_app (dxa_mono k2 _ _ p4) (dxa_one (dx_mono k1 _ _ hy))
  | false =>
    show CwX K B H1 f g Dl (i + 1) H3
    refine ⟨p1.trans e3, p2.trans e3, acc, e3 Dl _ p3, ?_⟩
    rw [givenD_no hf]
    exact dxa_mono (ov_grow e3) _ _ p4
theorem cwX_start {B H1 : Hp} {f : Nat → Bool} {g : Nat → PyData} {Dl : Addr} (b1 : Ex B H1) (nD : H1 Dl = none) : CwX K B H1 f g Dl 0 (upd H1 Dl (.lst [])) := ⟨b1.trans (Ex.new nD), Ex.new nD, [], upd_same, .nil⟩
theorem cwX_end {B H1 H' : Hp} {f : Nat → Bool} {g : Nat → PyData} {Dl : Addr} {n : Nat} (p : CwX K B H1 f g Dl n H') : ∃ acc, H' Dl = some (.lst acc) ∧ DxAll K (ov B H1 H') acc (givenD n f g) := by
  obtain ⟨_, _, acc, p3, p4⟩ := p
  refine ⟨acc, p3, dxa_mono (fun a o ha => ?_) _ _ p4⟩
  unfold ov at ha ⊢
  cases h0 : B a with
  | some o' => rw [h0] at ha; exact ha
  | none =>
    rw [h0] at ha
    by_cases ne : a = Dl
    · rw [ne, upd_same] at ha
      cases ha
    · rw [upd_ne ne] at ha
      exact ha
theorem exn_lcR1 {ta : TA} {j : Nat} {vs : List Nat} {n : Int} (f : Nat → Bool) (g : Nat → PyData) (h : EvA ta σ H [.int n]) (hn : 0 ≤ n ∧ n ≤ 40000) (hw : ∀ x, wipe ((wipe σ vs).set j (some x)) vs = wipe σ vs)
    (ht : ∀ i : Nat, (i : Int) < n → EvT t ((wipe σ vs).set j (some (.int (i : Int)))) H (f i)) (he : ∀ i : Nat, (i : Int) < n → f i = true → EvX K te ((wipe σ vs).set j (some (.int (i : Int)))) H (g i)) :
    EvXN K (tLc (iRng1 ta) (gName j) t te vs) σ H (givenD n.toNat f g) := fun H0 e Q q => h H0 e _ fun H1 e1 => ⟨n, rfl, by omega, by omega, fun Dl hD =>
  lc_range (lo := 0) (n := n.toNat) (CwX K H H1 f g Dl) (cwX_start (e.trans e1) hD) (fun i H' hi p => by
    have e0 : (0 : Int) + (i : Int) = (i : Int) := Int.zero_add _
    show wipe ((wipe σ vs).set j (some (.int ((0 : Int) + (i : Int))))) vs = wipe σ vs ∧ t ((wipe σ vs).set j (some (.int ((0 : Int) + (i : Int))))) H' fun b H3 => if b = true then te ((wipe σ vs).set j (some (.int ((0 : Int) + (i : Int))))) H3 fun y H4 => ∃ acc, H4 Dl = some (.lst acc) ∧ acc.length < sizeLine ∧ CwX K H H1 f g Dl (i + 1) (upd H4 Dl (.lst (acc ++ [y]))) else CwX K H H1 f g Dl (i + 1) H3
    rw [e0]
    exact ⟨hw _, cwX_turn (e.trans e1) hD p (by omega) (ht i (by omega)) (fun hf => he i (by omega) hf)⟩) (fun H' p => by
      obtain ⟨acc, h1, h2⟩ := cwX_end p
      exact q Dl acc H' (fresh_back e1 hD) (e1.trans p.2.1) h1 (dxa_mono (ov_later e1) _ _ h2))⟩
end
end Ap

set_option Elab.async false
set_option linter.all false
set_option maxRecDepth 100000
set_option maxHeartbeats 2000000
namespace Ap
open PySem PySem.Spec PyProof.Rows L2 Evl
/-! ### a set comprehension whose items are keys (integers, texts): the library tells it of truth values alone -/
def emptySet (w : World) : Obj := { cls := .type "set", dict := none, data := .set #[] 0 (.fresh 0 0 (!w.params.followText "set-order")) }
theorem emptySet_of {P : Program} {w : World} {h : Heap} : (h.push (emptySet w)).SetOf (mixKind P w) h.objs.size (fun _ => false) 0 :=
  ⟨_, #[], 0, _, Heap.get?_push_size _ rfl, ⟨rfl, rfl, rfl⟩, rfl, (fun e he => by simp at he), (fun k => by simp), (by decide), (by rfl), rfl⟩
/-- the set of no keys at D -/
abbrev hp0 (P : Program) (w : World) (H : Hp) (D : Addr) : Hp := upd H D (SetK P w D (fun _ => false) 0)
/-- the set at D with one key more -/
def Adds (P : Program) (w : World) (D : Addr) (Nx : Hp → Prop) : VK := fun y H => ∃ (k : Key) (S : Key → Bool) (n : Nat), y = kV k ∧ H D = some (SetK P w D S n) ∧ n + 1 < scanBound ∧ Nx (upd H D (SetK P w D (fun j => S j || decide (j = k)) (if S k = true then n else n + 1)))
def ScTurns (P : Program) (w : World) (g : TG) (tt : TT) (te : TE) (τ : L2.St) (vs : List Nat) (D : Addr) (J : It) (Qe : Hp → Prop) (W : Nat → Nat → Hp → Prop) : Prop := ∀ i m H, W i m H →
  (J.stop i H ∧ Qe H) ∨ (J.go i H ∧ ∃ Nx : Hp → Prop, (∀ H', Nx H' → ∃ m', m' < m ∧ W (i + 1) m' H') ∧
    ∀ x H', J.yld i H x H' → g x τ H' fun σ2 H2 => wipe σ2 vs = τ ∧ tt σ2 H2 fun b H3 => if b = true then te σ2 H3 (Adds P w D Nx) else Nx H3)
def tScK (P : Program) (w : World) (wi : TI) (g : TG) (tt : TT) (te : TE) (vs : List Nat) : TE := fun σ H Q => wi σ H fun J H1 => ∀ D, H1 D = none → ∃ W : Nat → Nat → Hp → Prop, (∃ m, W 0 m (hp0 P w H1 D)) ∧ ScTurns P w g tt te (wipe σ vs) vs D J (fun H => Q (.ref D) H) W
section
variable {X : Cx}
theorem adds_ok {pins : List (Addr × Obj)} {σ : L2.St} {H : Hp} {s : Shared} {D : Addr} {Nx : Hp → Prop} {y : V} {u : Value} {E : Value → Shared → Prop} {A : Around} {Q : Value → Shared → Prop} (I : Inv X pins σ H s) (r : RelV y u) (a : Adds X.prog X.w D Nx y H)
    (h : ∀ H' s', Inv X pins σ H' s' → Nx H' → Q .none s') : wpAny (model X.prog X.w) A (call (.builtin "set.add") [.ref D, u]) Q E s := by
  obtain ⟨k, S, n, rfl, hD, room, nx⟩ := a
  refine call_set_add (kV_is r) (key_scan r) (setK_get I hD) room fun h' sb new => ?_
  obtain ⟨o, _, _, _, ho, _⟩ := id new
  exact h _ _ (I.write (e := D) (t' := s.toks + 1) (by rw [hD]; trivial) (.inl rfl) (fun b v hb hv => (sb.2 b hb).trans hv) ⟨o, ho⟩ (setK_new new)) nx
theorem pe_scK {elt tg iter : Expr} {ifs : List Expr} {scope : Scope} {own : List (PySem.Str × Nat)} {pos : Pos} {wi : TI} {g : TG} {tt : TT} {te : TE} (hc : X.calm = true) (hN : X.N.Nodup) (hi : PI X tg iter wi) (ok : BlkOk X.N X.env.scope scope own)
    (hg : ∀ (s : Shared) (H : Hp) (C : Addr) (cl : List (PySem.Str × Addr)) (fp : List Addr), PG (X.blk s H scope (compEnvC scope cl C X.env) fp) tg g) (ht : ∀ (s : Shared) (H : Hp) (C : Addr) (cl : List (PySem.Str × Addr)) (fp : List Addr), PTs (X.blk s H scope (compEnvC scope cl C X.env) fp) ifs tt)
    (he : ∀ (s : Shared) (H : Hp) (C : Addr) (cl : List (PySem.Str × Addr)) (fp : List Addr), PE (X.blk s H scope (compEnvC scope cl C X.env) fp) elt te) (hs : ∀ x, foldedSetIterable iter X.env x = pure x := by intro _; rfl) :
    PE X (.SetComp elt [⟨tg, iter, ifs, 0⟩] scope pos) (tScK X.prog X.w wi g tt te (own.map (·.2))) := by
  refine ⟨fun pins s σ H Q I h => ?_⟩
  rw [PpSet.eval_SetComp]
  -- the closure, the iterated thing, its iterator
  refine wpAny_comprehension_free (use := none) rfl hs (closure_ok fun y hy e => (ok.free y hy e).elim (fun k => I.ok.has _ (.inl k)) fun k => I.ok.has _ (.inr k)) ok.kind (fun y hy e => by rw [ok.uniq y hy, e])
    (thn (hi.run pins s σ H _ I h) fun xv s1 hx => thn hx fun itv s2 h2 => ?_)
  obtain ⟨it, fp, tn, J, H2, rfl, I2, T, st2, f2, q⟩ := h2
  -- the empty set
  refine PpSet.newSet_ok (newEnv_comp ?_)
  obtain ⟨D, hD⟩ : ∃ D, D = s2.heap.objs.size := ⟨_, rfl⟩
  rw [← hD]
  obtain ⟨W, ⟨m0, w0⟩, turn⟩ := q D (I2.hok.fresh (Nat.le_of_eq hD.symm))
  obtain ⟨s3, h3⟩ : ∃ s3 : Shared, s3 = { s2 with heap := s2.heap.push (emptySet X.w) } := ⟨_, rfl⟩
  have hs3 : s3.heap = s2.heap.push (emptySet X.w) := by rw [h3]
  have kp3 : ∀ b o, s2.heap.get? b = some o → s3.heap.get? b = some o := fun b o e => by rw [hs3]; exact Heap.get?_push_of_some _ e
  have I3 : Inv X pins σ (hp0 X.prog X.w H2 D) s3 := by
    rw [h3]
    refine I2.laid (t' := s2.toks) (fun b o e => Heap.get?_push_of_some _ e) (Nat.le_of_eq hD.symm) ?_
    rw [hD]
    exact setK_new emptySet_of
  obtain ⟨H3, hH3⟩ : ∃ H3, H3 = hp0 X.prog X.w H2 D := ⟨_, rfl⟩
  rw [← hH3] at I3 w0
  -- what the iterator keeps stays apart from it
  have f3 : ∀ b ∈ fp, FpOk X pins H3 b ∧ b < s3.heap.objs.size := fun b hb => by
    obtain ⟨o, e, _⟩ := T.obj _ _ st2 b hb
    have hlt := Heap.lt_size e
    refine ⟨⟨?_, (f2 b hb).2⟩, by rw [hs3, Heap.size_push]; exact Nat.lt_succ_of_lt hlt⟩
    rw [hH3]
    show upd H2 D _ b = none
    rw [upd_ne (by rw [hD]; exact Nat.ne_of_lt hlt)]
    exact (f2 b hb).1
  have n3 : ∀ b ∈ fp, H3 b = none := fun b hb => (f3 b hb).1.1
  -- the block's own variables
  have I4 := block_start I3 ok hN f3
  show codeAny _ _ (.compStart (.SetComp elt [⟨tg, iter, ifs, 0⟩] scope pos) 0 (.ref it) (.ref D) (compEnvC scope (cellsFrom ((s2.heap.push (emptySet X.w)).objs.size + 1) scope.names (cloFrom X.env.cells scope.names [])) (s2.heap.push (emptySet X.w)).objs.size X.env)) (compPost (model X.prog X.w) X.A X.xe none (EP X pins σ Q) (.ref D) (s2.heap.push (emptySet X.w)).objs.size) { s2 with heap := pushCells ((s2.heap.push (emptySet X.w)).push { cls := .type "dict", data := .dict #[] }) scope.names }
  rw [← hs3, show ({ s2 with heap := pushCells (s3.heap.push { cls := .type "dict", data := .dict #[] }) scope.names } : Shared) = { s3 with heap := pushCells (s3.heap.push { cls := .type "dict", data := .dict #[] }) scope.names } by rw [h3]]
  have pg := hg s3 H3 s3.heap.objs.size (cellsFrom (s3.heap.objs.size + 1) scope.names (cloFrom X.env.cells scope.names [])) fp
  have pt := ht s3 H3 s3.heap.objs.size (cellsFrom (s3.heap.objs.size + 1) scope.names (cloFrom X.env.cells scope.names [])) fp
  have pe := he s3 H3 s3.heap.objs.size (cellsFrom (s3.heap.objs.size + 1) scope.names (cloFrom X.env.cells scope.names [])) fp
  have st4 : tn 0 (pushCells (s3.heap.push { cls := .type "dict", data := .dict #[] }) scope.names) := T.keep _ _ _ st2 fun b _ o e => pushCells_keeps _ _ _ _ (Heap.get?_push_of_some _ (kp3 b o e))
  generalize hce : compEnvC scope (cellsFrom (s3.heap.objs.size + 1) scope.names (cloFrom X.env.cells scope.names [])) s3.heap.objs.size X.env = ce at I4 pg pt pe ⊢
  have cL : ce.locals = s3.heap.objs.size := by subst hce; rfl
  generalize hs4 : ({ s3 with heap := pushCells (s3.heap.push { cls := .type "dict", data := .dict #[] }) scope.names } : Shared) = s4 at I4 ⊢
  have st4 : tn 0 s4.heap := by
    rw [← hs4]
    exact st4
  have fpk : ∀ {τ : L2.St} {H' : Hp} {s' : Shared}, Inv (X.blk s3 H3 scope ce fp) [] τ H' s' → (∀ b ∈ fp, H' b = none) → ∀ b ∈ fp, FpOk (X.blk s3 H3 scope ce fp) [] H' b := fun I' nn b hb =>
    ⟨nn b hb, (I'.ok.exf b hb).1, I'.ok.exfs b hb, .inl hb, fun x c e => (I'.ok.exf b hb).2 x c e, fun p hp => absurd (show p ∈ ([] : List (Addr × Obj)) ++ [] from hp) (by simp)⟩
  -- the loop
  have loop : codeAny (model X.prog X.w) X.A (.compLoop (.SetComp elt [⟨tg, iter, ifs, 0⟩] scope pos) 0 (.ref it) (.ref D) ce) (compPost (model X.prog X.w) X.A X.xe none (EP X pins σ Q) (.ref D) s3.heap.objs.size) s4 := by
    refine PpSet.compLoopS_any (fun n s' => ∃ i H', Inv (X.blk s3 H3 scope ce fp) [] (wipe σ (own.map (·.2))) H' s' ∧ tn i s'.heap ∧ (∀ b ∈ fp, H' b = none) ∧ W i n H') ?_ m0 ⟨0, H3, I4, st4, n3, w0⟩
    rintro n s5 ⟨i, H5, I5, st5, n5, w5⟩
    rcases turn i n H5 w5 with ⟨stop, qe⟩ | ⟨go, Nx, hNx, step⟩
    · -- it is through: back in the block around
      refine thnF (T.done (X.blk s3 H3 scope ce fp) rfl rfl rfl hc i [] s5 _ H5 (fun _ _ => False) I5 (fpk I5 n5) st5 stop) fun r s6 ⟨hr, I6⟩ => ?_
      subst hr
      obtain ⟨m, hn, _⟩ := I6.loc
      have hn : s6.heap.Ns s3.heap.objs.size m := cL ▸ (show s6.heap.Ns ce.locals m from hn)
      have nC : H5 s3.heap.objs.size = none := cL ▸ (show H5 ce.locals = none from I6.free)
      have I7 : Inv X pins σ H5 s6 := I3.call' (ch := fp) I6.os I6.base I6.hok I6.bare fun b hb => ⟨(f3 b hb).1.2.2.2.1, (f3 b hb).1.2.1, (f3 b hb).1.2.2.2.2.1, (f3 b hb).1.2.2.2.2.2⟩
      obtain ⟨k0, k1, k2, k3, k4, k5⟩ := I3.fpOk (Nat.le_refl _) nC
      exact ⟨m, hn, fun h'' sb => ⟨.ref D, H5, I7.turned (t' := s6.toks) (fun b o hb e => (sb.2 b hb).trans e) k0 k1 k3 k4 k5, rfl, qe⟩⟩
    · -- one item more
      refine thnF (T.item (X.blk s3 H3 scope ce fp) rfl rfl rfl hc i [] s5 _ H5 (fun _ _ => False) I5 (fpk I5 n5) st5 go) fun r s6 ⟨u, hr, h6⟩ => ?_
      subst hr
      refine thnF h6 fun _ s7 ⟨x, H7, I7, r7, y7, st7, n7⟩ => ?_
      refine thnF (pg.run _ s7 _ H7 x u _ (I7.pinned (fpk I7 n7) (T.obj _ _ st7)) r7 (step x H7 y7)) fun _ s8 ⟨σ8, H8, I8, hw8, q8⟩ => ?_
      refine thnF (pt.run _ s8 σ8 H8 _ I8 q8) fun b s9 ⟨H9, I9, q9⟩ => ?_
      have fin : ∀ (s' : Shared) (H' : Hp), Inv (X.blk s3 H3 scope ce fp) ([] ++ pinsAt fp s7.heap) σ8 H' s' → Nx H' → ∃ m, m < n ∧ ∃ i H', Inv (X.blk s3 H3 scope ce fp) [] (wipe σ (own.map (·.2))) H' s' ∧ tn i s'.heap ∧ (∀ b ∈ fp, H' b = none) ∧ W i m H' := fun s' H' I' nx => by
        have pin' : ∀ b ∈ fp, ∀ o, s7.heap.get? b = some o → s'.heap.get? b = some o ∧ H' b = none := fun b hb o e =>
          have z := I'.pin (b, o) (List.mem_append_right _ (List.mem_append_right _ (mem_pinsAt hb e)))
          ⟨z.1, z.2.1⟩
        obtain ⟨m', hm, w'⟩ := hNx H' nx
        exact ⟨m', hm, i + 1, H', (I'.unpinned (pins := [])).weak (by rw [← hw8, wipe_length]) (fun j v e => (wipe_some (hw8.symm ▸ e)).1), T.keep _ _ _ st7 fun b hb o e => (pin' b hb o e).1, fun b hb => by
          obtain ⟨o, e, _⟩ := T.obj _ _ st7 b hb
          exact (pin' b hb o e).2, w'⟩
      cases b with
      | false =>
        simp only [Bool.false_eq_true, if_false] at q9 ⊢
        exact fin s9 H9 I9 q9
      | true =>
        simp only [if_true] at q9 ⊢
        exact thnF (pe.run _ s9 σ8 H9 _ I9 q9) fun z s10 ⟨y, H10, I10, r10, ad⟩ => adds_ok (X := X.blk s3 H3 scope ce fp) I10 r10 ad fun H' s11 I11 nx => fin s11 H' I11 nx
  exact PpSet.codeAny_compStart_set loop (T.self X.A 0 _ _ _ st4 loop)
/-- len of a set of keys -/
def rLenK (P : Program) (w : World) : List V → Hp → VK → Prop := fun xs H Q => ∃ (a : Addr) (S : Key → Bool) (n : Nat), xs = [V.ref a] ∧ H a = some (SetK P w a S n) ∧ Q (.int (n : Int)) H
theorem call_lenK : CallR X (.builtin "len") (rLenK X.prog X.w) := by
  intro pins s σ H xs us Q I r h
  obtain ⟨a, S, n, rfl, ha, q⟩ := h
  obtain ⟨u, rfl, rx⟩ := vals1 r
  cases rx
  obtain ⟨o, es, ep, t, ho, hex, hd, _, _, hb, hf, rfl⟩ := setK_get I ha
  exact call_len_set ho hex hd hf (by have : scanBound = 4096 := rfl; omega) ⟨.int es.size, H, I.tok _, ⟨s.toks + 1, rfl⟩, q⟩
end
/-! ### the set of those items of a list of integers that pass a test -/
def keyOfI (k : Key) : Option Int := match k with
  | .inl i => some i
  | .inr _ => none
def setStep (f : Int → Bool) (p : (Key → Bool) × Nat) (x : Int) : (Key → Bool) × Nat := if f x = true then (fun j => p.1 j || decide (j = Sum.inl x), if p.1 (Sum.inl x) = true then p.2 else p.2 + 1) else p
def setSt (f : Int → Bool) (ns : List Int) : (Key → Bool) × Nat := ns.foldl (setStep f) (fun _ => false, 0)
theorem setSt_snoc (f : Int → Bool) (ns : List Int) (x : Int) : setSt f (ns ++ [x]) = setStep f (setSt f ns) x := by
  unfold setSt
  rw [List.foldl_append]
  rfl
theorem setSt_le (f : Int → Bool) : ∀ ns : List Int, (setSt f ns).2 ≤ ns.length := fun ns => by
  suffices h : ∀ (ns : List Int) (p : (Key → Bool) × Nat), (ns.foldl (setStep f) p).2 ≤ p.2 + ns.length by
    have := h ns (fun _ => false, 0)
    simpa [setSt] using this
  intro ns
  induction ns with
  | nil => intro p; simp
  | cons x r ih =>
    intro p
    have h1 := ih (setStep f p x)
    have h2 : (setStep f p x).2 ≤ p.2 + 1 := by
      unfold setStep
      split
      · dsimp only
        split <;> omega
      · omega
    simp only [List.foldl_cons, List.length_cons]
    omega
/-- its items are as many as it tells -/
theorem setSt_acc (f : Int → Bool) (ns : List Int) : ∃ acc : List Int, acc.Nodup ∧ (setSt f ns).2 = acc.length ∧ (∀ x, (setSt f ns).1 (Sum.inl x) = true ↔ x ∈ acc) ∧ ∀ x, x ∈ acc ↔ x ∈ ns ∧ f x = true := by
  suffices h : ∀ (ns : List Int) (p : (Key → Bool) × Nat) (a0 : List Int), a0.Nodup → p.2 = a0.length → (∀ x, p.1 (Sum.inl x) = true ↔ x ∈ a0) → ∃ acc : List Int, acc.Nodup ∧ (ns.foldl (setStep f) p).2 = acc.length ∧ (∀ x, (ns.foldl (setStep f) p).1 (Sum.inl x) = true ↔ x ∈ acc) ∧ ∀ x, x ∈ acc ↔ x ∈ a0 ∨ (x ∈ ns ∧ f x = true) by
    obtain ⟨acc, h1, h2, h3, h4⟩ := h ns (fun _ => false, 0) [] List.nodup_nil rfl (fun x => by simp)
    exact ⟨acc, h1, h2, h3, fun x => (h4 x).trans (by simp)⟩
  intro ns
  induction ns with
  | nil => exact fun p a0 h1 h2 h3 => ⟨a0, h1, h2, h3, fun x => by simp⟩
  | cons y r ih =>
    intro p a0 h1 h2 h3
    rw [List.foldl_cons]
    by_cases hf : f y = true
    · by_cases hy : y ∈ a0
      · obtain ⟨acc, k1, k2, k3, k4⟩ := ih (setStep f p y) a0 h1 (by unfold setStep; rw [if_pos hf]; show (if p.1 (Sum.inl y) = true then p.2 else p.2 + 1) = _; rw [if_pos ((h3 y).mpr hy), h2]) (fun x => by
          unfold setStep
          rw [if_pos hf]
          show (p.1 (Sum.inl x) || decide ((Sum.inl x : Key) = Sum.inl y)) = true ↔ _
          rw [Bool.or_eq_true, h3 x, decide_eq_true_iff]
          exact ⟨fun h => h.elim id fun e => by rw [Sum.inl.inj e]; exact hy, .inl⟩)
        refine ⟨acc, k1, k2, k3, fun x => (k4 x).trans ⟨fun h => h.elim .inl fun h => .inr ⟨List.mem_cons_of_mem _ h.1, h.2⟩, fun h => h.elim .inl fun h => ?_⟩⟩
        rcases List.mem_cons.mp h.1 with e | m
        · exact .inl (e ▸ hy)
        · exact .inr ⟨m, h.2⟩
      · obtain ⟨acc, k1, k2, k3, k4⟩ := ih (setStep f p y) (y :: a0) (List.nodup_cons.mpr ⟨hy, h1⟩) (by unfold setStep; rw [if_pos hf]; show (if p.1 (Sum.inl y) = true then p.2 else p.2 + 1) = _; rw [if_neg (fun q => hy ((h3 y).mp q)), h2]; rfl) (fun x => by
          unfold setStep
          rw [if_pos hf]
          show (p.1 (Sum.inl x) || decide ((Sum.inl x : Key) = Sum.inl y)) = true ↔ _
          rw [Bool.or_eq_true, h3 x, decide_eq_true_iff, List.mem_cons]
          exact ⟨fun h => h.elim .inr fun e => .inl (Sum.inl.inj e), fun h => h.elim (fun e => .inr (by rw [e])) .inl⟩)
        refine ⟨acc, k1, k2, k3, fun x => (k4 x).trans ⟨fun h => ?_, fun h => ?_⟩⟩
        · rcases h with h | h
          · rcases List.mem_cons.mp h with e | m
            · exact .inr ⟨e ▸ List.mem_cons_self, e ▸ hf⟩
            · exact .inl m
          · exact .inr ⟨List.mem_cons_of_mem _ h.1, h.2⟩
        · rcases h with h | h
          · exact .inl (List.mem_cons_of_mem _ h)
          · rcases List.mem_cons.mp h.1 with e | m
            · exact .inl (e ▸ List.mem_cons_self)
            · exact .inr ⟨m, h.2⟩
    · obtain ⟨acc, k1, k2, k3, k4⟩ := ih p a0 h1 h2 h3
      have e0 : setStep f p y = p := if_neg hf
      rw [e0]
      refine ⟨acc, k1, k2, k3, fun x => (k4 x).trans ⟨fun h => h.elim .inl fun h => .inr ⟨List.mem_cons_of_mem _ h.1, h.2⟩, fun h => h.elim .inl fun h => ?_⟩⟩
      rcases List.mem_cons.mp h.1 with e | m
      · exact absurd (e ▸ h.2) hf
      · exact .inr ⟨m, h.2⟩
section
variable {P : Program} {w : World} {K : PySem.W.Frag} {σ : L2.St} {H : Hp} {tl : TE} {t : TT} {te : TE}
/-- len({x for x in xs if ..}) of a list of integers -/
theorem ev_lenSc {a : Addr} {ns : List Int} {j : Nat} {vs : List Nat} (f : Int → Bool) (h : Ev tl σ H (.ref a)) (hx : SqL K H a (ns.map V.int)) (hz : ns.length ≤ 1000) (hw : ∀ x, wipe ((wipe σ vs).set j (some x)) vs = wipe σ vs)
    (ht : ∀ x : Int, EvT t ((wipe σ vs).set j (some (.int x))) H (f x)) (he : ∀ x : Int, Ev te ((wipe σ vs).set j (some (.int x))) H (.int x)) :
    Ev (tCB (rLenK P w) (tCons (tScK P w (iList K tl) (gName j) t te vs) tNil)) σ H (.int ((setSt f ns).2 : Int)) := fun H1 e Q q => h H1 e _ fun H2 e2 => ⟨a, rfl, ⟨_, ex_l (e.trans e2) hx⟩, fun D hD => by
    refine ⟨fun i m H' => m = ns.length - i ∧ i ≤ ns.length ∧ Ex H2 H' ∧ H' D = some (SetK P w D (setSt f (ns.take i)).1 (setSt f (ns.take i)).2), ⟨ns.length, rfl, Nat.zero_le _, Ex.new hD, upd_same⟩, ?_⟩
    rintro i m H' ⟨rfl, hi, e3, hS⟩
    have hx' : SqL K H' a (ns.map V.int) := ex_l ((e.trans e2).trans e3) hx
    by_cases hlt : i < ns.length
    · have hni : (ns.map V.int)[i]? = some (.int ns[i]) := by rw [List.getElem?_map, List.getElem?_eq_getElem hlt]; rfl
      have htk : ns.take (i + 1) = ns.take i ++ [ns[i]] := by rw [List.take_succ, List.getElem?_eq_getElem hlt]; rfl
      refine .inr ⟨⟨_, _, hx', hni⟩, fun H3 => Ex H2 H3 ∧ H3 D = some (SetK P w D (setSt f (ns.take (i + 1))).1 (setSt f (ns.take (i + 1))).2), fun H3 p => ⟨ns.length - (i + 1), by omega, rfl, hlt, p⟩, fun x H3 y => ?_⟩
      obtain ⟨rfl, y⟩ := y
      have ex := Option.some.inj ((y _ hx').symm.trans hni)
      subst ex
      refine ⟨hw _, ht _ H3 ((e.trans e2).trans e3) _ fun H4 e4 => ?_⟩
      rw [htk, setSt_snoc]
      unfold setStep
      cases hf : f ns[i] with
      | true =>
        show te _ H4 _
        refine he _ H4 (((e.trans e2).trans e3).trans e4) _ fun H5 e5 => ⟨Sum.inl ns[i], _, _, rfl, e5 _ _ (e4 _ _ hS), ?_, ?_⟩
        · have h1 := setSt_le f (ns.take i)
          have h2 : (ns.take i).length ≤ ns.length := by rw [List.length_take]; omega
          have : scanBound = 4096 := rfl
          omega
        · rw [if_pos rfl]
          exact ⟨Ex.mut ((e3.trans e4).trans e5) hD, upd_same⟩
      | false =>
        show Ex H2 H4 ∧ _
        rw [if_neg (by decide)]
        exact ⟨e3.trans e4, e4 _ _ hS⟩
    · have ei : i = ns.length := by omega
      subst ei
      rw [List.take_length] at hS
      exact .inl ⟨⟨_, hx', by rw [List.length_map]; exact Nat.le_refl _⟩, D, _, _, rfl, hS, q H' (e2.trans e3)⟩⟩
end
end Ap

set_option Elab.async false
set_option linter.all false
set_option maxRecDepth 100000
namespace Ap
open PySem PySem.Spec PyProof.Rows L2 Evl
/-! ### values: what is_integer, is_text, is_value, is_deed, is_record say of any object -/
def tyN : PyData → String
  | .none => "NoneType"
  | .bool _ => "bool"
  | .int _ => "int"
  | .str _ => "str"
  | .list _ => "list"
  | .tuple _ => "tuple"
  | .dict _ => "dict"
theorem tyx_dx {K : PySem.W.Frag} {H : Hp} : ∀ {d : PyData} {v : V}, Dx K H v d → TyX K H v (.type (tyN d))
  | _, _, .non => .base .non
  | _, _, .bl b => .base (.bl b)
  | _, _, .int i => .base (.int i)
  | _, _, .str x => .base (.str x)
  | _, _, .lst hs _ => by
    rcases hs with (h | ⟨o, h⟩) | ⟨o, its, n, h, hc, _⟩
    · exact .base (.lst h)
    · exact .base (.frz h)
    · exact .kList h hc
  | _, _, .tup hs _ => by
    rcases hs with (h | ⟨o, h⟩) | ⟨o, its, n, h, hc, _⟩
    · exact .base (.tup h)
    · exact .fTuple h
    · exact .kTuple h hc
  | _, _, .dic h => .base (.dK h)
def isInt : PyData → Bool
  | .int _ => true
  | .bool _ => true
  | _ => false
def isBoo : PyData → Bool
  | .bool _ => true
  | _ => false
def isStr : PyData → Bool
  | .str _ => true
  | _ => false
def isTup : PyData → Bool
  | .tuple _ => true
  | _ => false
theorem kit_int : ∀ d : PyData, kitB (tyN d) "int" = some (isInt d)
  | .none => (by decide +kernel : kitB "NoneType" "int" = some false)
  | .bool _ => (by decide +kernel : kitB "bool" "int" = some true)
  | .int _ => (by decide +kernel : kitB "int" "int" = some true)
  | .str _ => (by decide +kernel : kitB "str" "int" = some false)
  | .list _ => (by decide +kernel : kitB "list" "int" = some false)
  | .tuple _ => (by decide +kernel : kitB "tuple" "int" = some false)
  | .dict _ => (by decide +kernel : kitB "dict" "int" = some false)
theorem kit_bool : ∀ d : PyData, kitB (tyN d) "bool" = some (isBoo d)
  | .none => (by decide +kernel : kitB "NoneType" "bool" = some false)
  | .bool _ => (by decide +kernel : kitB "bool" "bool" = some true)
  | .int _ => (by decide +kernel : kitB "int" "bool" = some false)
  | .str _ => (by decide +kernel : kitB "str" "bool" = some false)
  | .list _ => (by decide +kernel : kitB "list" "bool" = some false)
  | .tuple _ => (by decide +kernel : kitB "tuple" "bool" = some false)
  | .dict _ => (by decide +kernel : kitB "dict" "bool" = some false)
theorem kit_str : ∀ d : PyData, kitB (tyN d) "str" = some (isStr d)
  | .none => (by decide +kernel : kitB "NoneType" "str" = some false)
  | .bool _ => (by decide +kernel : kitB "bool" "str" = some false)
  | .int _ => (by decide +kernel : kitB "int" "str" = some false)
  | .str _ => (by decide +kernel : kitB "str" "str" = some true)
  | .list _ => (by decide +kernel : kitB "list" "str" = some false)
  | .tuple _ => (by decide +kernel : kitB "tuple" "str" = some false)
  | .dict _ => (by decide +kernel : kitB "dict" "str" = some false)
theorem kit_tup : ∀ d : PyData, kitB (tyN d) "tuple" = some (isTup d)
  | .none => (by decide +kernel : kitB "NoneType" "tuple" = some false)
  | .bool _ => (by decide +kernel : kitB "bool" "tuple" = some false)
  | .int _ => (by decide +kernel : kitB "int" "tuple" = some false)
  | .str _ => (by decide +kernel : kitB "str" "tuple" = some false)
  | .list _ => (by decide +kernel : kitB "list" "tuple" = some false)
  | .tuple _ => (by decide +kernel : kitB "tuple" "tuple" = some true)
  | .dict _ => (by decide +kernel : kitB "dict" "tuple" = some false)
section
variable {K : PySem.W.Frag} {σ : L2.St} {H : Hp} {te : TE} {d : PyData} {T : String} {b : Bool}
theorem ev_isiX (h : EvX K te σ H d) (k : kitB (tyN d) T = some b) : Ev (tCB (rIsi K) (tCons te (tCons (tC (.ty T)) tNil))) σ H (.bl b) := fun H1 e Q q => h H1 e _ fun v H2 e2 hv =>
  ⟨v, .ty T, .type (tyN d), .type T, b, rfl, .ty T, tyx_dx (dx_mono (ov_ex e e2) d v hv), kit_ty k, q H2 e2⟩
end
/-- bounded: texts, lists and tuples of at most 1000, at most n deep -/
inductive Okd : Nat → PyData → Prop
  | non {n : Nat} : Okd n .none
  | bl {n : Nat} (b : Bool) : Okd n (.bool b)
  | int {n : Nat} (i : Int) : Okd n (.int i)
  | str {n : Nat} {x : Str} (h : x.length ≤ 1000) : Okd n (.str x)
  | dic {n : Nat} {kvs : List (PyData × PyData)} : Okd n (.dict kvs)
  | lst {n : Nat} {ds : List PyData} (h : ds.length ≤ 1000) (hs : ∀ d, d ∈ ds → Okd n d) : Okd (n + 1) (.list ds)
  | tup {n : Nat} {ds : List PyData} (h : ds.length ≤ 1000) (hs : ∀ d, d ∈ ds → Okd n d) : Okd (n + 1) (.tuple ds)
def isI : PyData → Bool
  | .int i => decide (-(10 ^ 18) ≤ i) && decide (i ≤ 10 ^ 18)
  | _ => false
def chOk (c : Nat) : Bool := (decide ((32 : Int) ≤ (c : Int)) && decide ((c : Int) ≤ 126)) && !decide (V.int (c : Int) = V.int 37)
def isT : PyData → Bool
  | .str x => decide (x.length ≤ 200) && x.cps.toList.all chOk
  | _ => false
def isP (d : PyData) : Bool := isI d || isT d
mutual
def isV : PyData → Bool
  | .tuple ds => isVs ds
  | d => isP d
def isVs : List PyData → Bool
  | [] => true
  | d :: ds => isV d && isVs ds
end
theorem isVs_iff : ∀ ds : List PyData, isVs ds = ds.all isV
  | [] => rfl
  | d :: ds => by simp [isVs, isVs_iff ds]
def isN (d : PyData) : Bool := isI d && (match d with
  | .int i => decide (0 ≤ i)
  | _ => false)
section
variable {K : PySem.W.Frag} {σ : L2.St} {H : Hp} {te tl : TE} {t : TT}
/-- [f(c) for c in text] -/
theorem el_lcS {j : Nat} {vs : List Nat} {z : Str} (v : Nat → V) (h : Ev tl σ H (.str z)) (hz : z.cps.size ≤ 40000) (hw : ∀ x, wipe ((wipe σ vs).set j (some x)) vs = wipe σ vs) (ht : ∀ (c : Nat) H1, Ex H H1 → EvT t ((wipe σ vs).set j (some (.str ⟨#[c]⟩))) H1 true)
    (he : ∀ (i c : Nat) H1, Ex H H1 → z.cps[i]? = some c → Ev te ((wipe σ vs).set j (some (.str ⟨#[c]⟩))) H1 (v i)) : EvL (tLc (iStr tl) (gName j) t te vs) σ H (given z.cps.size (fun _ => true) v) := fun H0 e Q q => h H0 e _ fun H1 e1 => ⟨z, rfl, fun Dl hD =>
  lc_it walk_str (Cw H1 (fun _ => true) v Dl) ⟨hD, Ex.new hD, upd_same⟩ (fun _ _ _ _ => trivial) (fun i x H2 H' hi p y => by
    obtain ⟨rfl, c, hc, rfl⟩ := y
    exact ⟨hw _, cw_turn p (by omega) (ht c H1 (e.trans e1)) (fun _ => he i c H1 (e.trans e1) hc)⟩) (fun H' p => q Dl H' (fresh_back e1 p.1) (e1.trans p.2.1) p.2.2)⟩
/-- for c in text -/
theorem q_forS {D : Ends} {tz tu : TS} {j : Nat} {z : Str} (h : Ev tl σ H (.str z)) (Pv : Nat → L2.St → Hp → Prop) (h0 : ∀ H1, Ex H H1 → Pv 0 σ H1) (hs : ∀ (i c : Nat) σ' H', z.cps[i]? = some c → Pv i σ' H' → tu { D with nx := Pv (i + 1), ct := Pv (i + 1), bk := tz D } (σ'.set j (some (.str ⟨#[c]⟩))) H') (hd : ∀ σ' H', Pv z.cps.size σ' H' → tz D σ' H') :
    tSeq (tFor (iStr tl) (gName j) tu) tz D σ H := h H (Ex.refl H) _ fun H1 e => ⟨z, rfl, for_it walk_str Pv (h0 H1 e) (fun _ _ _ _ _ => trivial) (fun i x σ' H2 H' hi p y => by
    obtain ⟨rfl, c, hc, rfl⟩ := y
    exact hs i c σ' _ hc p) hd⟩
theorem ev_all {bs : List Bool} (h : EvL tl σ H (bs.map V.bl)) : Ev (tCB (rAll K) (tCons tl tNil)) σ H (.bl (bs.all id)) := fun H1 e Q q => h H1 e _ fun p H2 np e2 hp => ⟨p, bs, rfl, sq_of hp, q H2 e2⟩
theorem rc_lenS {z : Str} (h : z.length ≤ 100000) : RC (fun xs H Q => ∃ z, xs = [.str z] ∧ z.length ≤ sizeLine ∧ Q (.int z.length) H) [.str z] H (.int (z.length : Int)) := fun H1 _ Q q => ⟨z, rfl, sz_of h, q H1 (Ex.refl H1)⟩
theorem rc_ordS {x : Str} {n : Nat} (h : x.length = 1) (hn : x.cps.getD 0 0 = n) : RC (fun xs H Q => ∃ x : Str, xs = [.str x] ∧ x.length = 1 ∧ Q (.int (x.cps.getD 0 0 : Nat)) H) [.str x] H (.int (n : Int)) := fun H1 _ Q q => ⟨x, rfl, h, by rw [hn]; exact q H1 (Ex.refl H1)⟩
theorem rc_ord {c : Nat} : RC (fun xs H Q => ∃ x : Str, xs = [.str x] ∧ x.length = 1 ∧ Q (.int (x.cps.getD 0 0 : Nat)) H) [.str ⟨#[c]⟩] H (.int (c : Int)) := fun H1 _ Q q => ⟨⟨#[c]⟩, rfl, rfl, q H1 (Ex.refl H1)⟩
theorem all_given (z : Str) (f : Nat → Bool) : ∃ bs : List Bool, given z.cps.size (fun _ => true) (fun i => V.bl (f (z.cps.getD i 0))) = bs.map V.bl ∧ bs.all id = z.cps.toList.all f := by
  refine ⟨z.cps.toList.map f, ?_, by rw [List.all_map]; rfl⟩
  unfold given
  rw [List.filter_eq_self.mpr (fun _ _ => rfl)]
  refine List.ext_getElem (by simp) (fun i h1 h2 => ?_)
  have h1 : i < z.cps.size := by simpa using h1
  simp [Array.getD, h1]
end
section
variable {K : PySem.W.Frag} {σ : L2.St} {H : Hp} {te tl : TE} {t : TT}
/-- [e for x in a tuple] -/
theorem el_lcT {a : Addr} {xs : List V} {j : Nat} {vs : List Nat} (v : Nat → V) (h : Ev tl σ H (.ref a)) (hx : SqT K H a xs) (hz : xs.length ≤ 40000) (hw : ∀ x, wipe ((wipe σ vs).set j (some x)) vs = wipe σ vs) (ht : ∀ (x : V) H1, Ex H H1 → EvT t ((wipe σ vs).set j (some x)) H1 true)
    (he : ∀ (i : Nat) (x : V) H1, Ex H H1 → xs[i]? = some x → Ev te ((wipe σ vs).set j (some x)) H1 (v i)) : EvL (tLc (iTup K tl) (gName j) t te vs) σ H (given xs.length (fun _ => true) v) := fun H0 e Q q => h H0 e _ fun H1 e1 => ⟨a, rfl, ⟨xs, ex_t (e.trans e1) hx⟩, fun Dl hD =>
  lc_it (walk_tup (xs := xs)) (Cw H1 (fun _ => true) v Dl) ⟨hD, Ex.new hD, upd_same⟩ (fun _ _ _ p => ex_t ((e.trans e1).trans p.2.1) hx) (fun i x H2 H' hi p y => by
    obtain ⟨rfl, hxi⟩ := y
    exact ⟨hw _, cw_turn p (by omega) (ht x H1 (e.trans e1)) (fun _ => he i x H1 (e.trans e1) hxi)⟩) (fun H' p => q Dl H' (fresh_back e1 p.1) (e1.trans p.2.1) p.2.2)⟩
theorem q_forTn {D : Ends} {tz tu : TS} {a : Addr} {xs : List V} {j : Nat} (h : Ev tl σ H (.ref a)) (hx : SqT K H a xs) (Pv : Nat → L2.St → Hp → Prop) (h0 : ∀ H1, Ex H H1 → Pv 0 σ H1) (hl : ∀ i σ' H', i ≤ xs.length → Pv i σ' H' → SqT K H' a xs)
    (hs : ∀ i x σ' H', xs[i]? = some x → Pv i σ' H' → tu { D with nx := Pv (i + 1), ct := Pv (i + 1), bk := tz D } (σ'.set j (some x)) H') (hd : ∀ σ' H', Pv xs.length σ' H' → tz D σ' H') : tSeq (tFor (iTup K tl) (gName j) tu) tz D σ H := q_forT h hx Pv h0 hl hs hd
theorem given_map (ds : List PyData) (g : PyData → Bool) : given ds.length (fun _ => true) (fun i => V.bl (g (ds.getD i .none))) = (ds.map g).map V.bl := by
  unfold given
  rw [List.filter_eq_self.mpr (fun _ _ => rfl)]
  refine List.ext_getElem (by simp) (fun i h1 h2 => ?_)
  have h1 : i < ds.length := by simpa using h1
  simp [h1]
theorem fn_false {P : Program} {w : World} {K : PySem.W.Frag} {mg : Str → Option Value} {base : Heap} {CX : CXT} {k : Nat} {f : Addr} {fd : FuncData} {ps : List Str} : FnOk P w K mg base CX k f fd ps (fun _ _ _ _ => False) := ⟨fun _ _ _ _ h => h.elim, fun _ _ _ _ _ _ _ _ _ _ _ _ _ h => h.elim⟩
end
def neS : PyData → Bool
  | .str x => !decide (V.str x = V.str "")
  | _ => false
def isDeed : PyData → Bool
  | .tuple ds => ((decide (1 ≤ (ds.length : Int)) && decide ((ds.length : Int) ≤ 4)) && (isT (ds.getD 0 .none) && neS (ds.getD 0 .none))) && ds.all isP
  | _ => false
def geB (k : Int) : PyData → Bool
  | .int i => decide (i ≥ k)
  | _ => false
def isRec : PyData → Bool
  | .tuple ds => decide (ds.length = 3) && (isN (ds.getD 0 .none) && (isN (ds.getD 1 .none) && (geB 1 (ds.getD 1 .none) && isDeed (ds.getD 2 .none))))
  | _ => false
end Ap

set_option Elab.async false
set_option linter.all false
set_option maxRecDepth 100000
namespace Ap
open PySem PySem.Spec PyProof.Rows L2 Evl ClX
/-! ### C.m(..), m a static method of the class at C, that may raise -/
structure SMet (K : PySem.W.Frag) (C : Addr) (mc : Value) (m : Str) (p g : Addr) : Prop where
  at_ : PySem.W.findCls K (.ref C) mc m = some (.get (.builtin "staticmethod.__get__") (.ref p) .none (.ref C))
  rc : ∃ rest, PySem.W.recIn K p "staticmethod" = some (.ref g :: rest)
  kp : PySem.W.keepIn K (.ref g) = true
def tSX (C : Addr) (sp : Sp) (E : L2.St → XK) (ta : TE) (t : TA) : TE := fun σ H Q => ta σ H fun x G => x = .ref C ∧ t σ G fun vs G2 => sp vs G2 Q (E σ)
section
variable {X : Cx} {pins : List (Addr × Obj)} {σ : L2.St} {H : Hp} {s : Shared} {A : Around} {E : Value → Shared → Prop}
theorem getsmet_ok {C p g : Addr} {mc : Value} {m : Str} {pl : Sem Bool} {Q : Value × List Value → Shared → Prop} (I : L2.Inv X pins σ H s) (r : CRead X.K C mc) (k : SMet X.K C mc m p g) (h : ∀ s', L2.Inv X pins σ H s' → Q (.ref g, []) s') : wpAny (model X.prog X.w) A (getMethod (.ref C) m pl) Q E s := by
  obtain ⟨rest, hp⟩ := k.rc
  refine PySem.W.method_cls I.kIn r.ga (PySem.W.cls_bind I.kIn r.rd k.at_ ?_)
  refine wpAny_call (PySem.W.sm_get (s := { s with toks := s.toks + 1 }) I.kIn hp (PySem.W.handed_on rfl ?_))
  exact h _ (I.tok _)
theorem pe_smx {CX : CXT} {k : Nat} {C p g : Addr} {mc : Value} {fd : FuncData} {ps : List Str} {sp : Sp} {E : L2.St → XK} {m : Str} {pos apos : Pos} {e o : Expr} {es : List Expr} {ta : TE} {t : TA} {pl : Sem Bool}
    (he : PE X o ta) (r : CRead X.K C mc) (hm : SMet X.K C mc m p g) (F : FnOk X.prog X.w X.K X.mg X.base CX k g fd ps sp) (hr : Room k X.A) (hb : Binds X.K fd ps []) (hx : ∀ σ, PassesAt CX X σ (E σ)) (ha : PA X (e :: es) t)
    (z1 : starEach (e :: es) X.env = (false, eval e X.env) :: starEach es X.env := by rfl) (z2 : (backTo pos (starEach es X.env)).any (·.1) = false := by rfl)
    (z3 : eval (.Call (.Attribute o m apos) (e :: es) [] pos) X.env = (do { let ov ← eval o X.env; standAt apos.atName; let (f, first) ← holding [ov] (getMethod ov m pl); callWith pos f first (backTo pos (starEach (e :: es) X.env)) (backToKw pos (keywordEach [] X.env)) }) := by rfl) :
    PE X (.Call (.Attribute o m apos) (e :: es) [] pos) (tSX C sp E ta t) := ⟨fun pins s σ H Q I h => PySem.W.methodCall_KW (pl := pl) (thn (he.run pins s σ H _ I h) fun u s1 hh => by
  obtain ⟨x, G, J, rx, ex, q⟩ := hh
  subst ex
  cases (show u = Value.ref C from rx)
  exact getsmet_ok J r hm fun s' J' => (PySem.W.callWith_K (first := []) (h₀ := X.base) J'.ok.mod.kin hm.kp (thn (ha.run pos pins s' σ G _ J' q) fun us s2 ⟨vs, G2, J2, rv, q2⟩ => ⟨J2.kIn, run_fnS (us := us) (vs := vs) F hr hb (hx σ) J2 rv q2⟩) z1 z2)) z3⟩
end
structure Sm (K : PySem.W.Frag) (C : Addr) (mc : Value) (x qual : Str) (st : Stmt) (ps : List Str) (p f : Addr) (fd : FuncData) : Prop where
  F : Fun K x qual st f fd
  b : L2.Binds K fd ps []
  m : SMet K C mc x p f
theorem sm_mk {K : PySem.W.Frag} {h : Heap} (X : K.In h) {C p : Addr} {mc : Value} {x qual : Str} {st : Stmt} {ps : List Str} {f : Addr} {rest : List Value} {oc : Value} {od an : Option Addr} {sl : Array (Option Value)} {kV dc pm cd ct : Value}
    (a : PySem.W.findCls K (.ref C) mc x = some (.get (.builtin "staticmethod.__get__") (.ref p) .none (.ref C))) (r : PySem.W.recIn K p "staticmethod" = some (.ref f :: rest)) (l : K.lookup f = some ⟨oc, od, .func (PySem.W.fnOf x qual (defArgs st) (defBody st) (defScope st) .none kV dc pm an cd ct), sl⟩) (c : PySem.W.codeIn K cd qual = true) (k : PySem.W.keepIn K (.ref f) = true)
    (hb : ∀ (kV doc pm : Value) (an : Option Addr) (cdv ct : Value) (us : List Value), us.length = ps.length → bindArgs (PySem.W.fnOf x qual (defArgs st) (defBody st) (defScope st) .none kV doc pm an cdv ct) ⟨us, []⟩ = pure (ps.zip us)) :
    ∃ p f fd, Sm K C mc x qual st ps p f fd := ⟨_, _, _, fun_mk l c k, (fun_mk l c k).binds hb, ⟨a, ⟨rest, r⟩, k⟩⟩
theorem Okd.mono {n m : Nat} {d : PyData} (h : Okd n d) : n ≤ m → Okd m d := by
  induction h generalizing m with
  | non => exact fun _ => .non
  | bl b => exact fun _ => .bl b
  | int i => exact fun _ => .int i
  | str h => exact fun _ => .str h
  | dic => exact fun _ => .dic
  | lst h hs ih =>
    intro hl
    obtain ⟨k, rfl⟩ : ∃ k, m = k + 1 := ⟨m - 1, by omega⟩
    exact .lst h fun d hd => ih d hd (by omega)
  | tup h hs ih =>
    intro hl
    obtain ⟨k, rfl⟩ : ∃ k, m = k + 1 := ⟨m - 1, by omega⟩
    exact .tup h fun d hd => ih d hd (by omega)
theorem op_mulS {X : Cx} : OpR X (binaryOp .Mult) (fun x y H Q => ∃ (z : Str) (n : Int), x = .str z ∧ y = .int n ∧ PySem.MulOk z n ∧ Q (.str (Txt.mul z n)) H) := by
  intro pins s σ H x y v u Q I rx ry h
  obtain ⟨z, n, rfl, rfl, hok, q⟩ := h
  obtain ⟨t, rfl⟩ := rx
  obtain ⟨t2, rfl⟩ := ry
  exact PySem.SB.mul hok fun t' k => ⟨.str (Txt.mul z n), H, I.tok _, ⟨t', rfl⟩, q⟩
theorem isV_sd {n : Nat} {d : PyData} (h : Okd n d) : isV d = true → Sd n d := by
  induction h with
  | non => exact fun h => absurd h (by simp [isV, isP, isI, isT])
  | bl b => exact fun h => absurd h (by simp [isV, isP, isI, isT])
  | int i => exact fun _ => sd_int
  | @str n x hx =>
    intro h
    have h : isT (.str x) = true := by simpa [isV, isP, isI] using h
    have h2 := (Bool.and_eq_true_iff.mp (show (decide (x.length ≤ 200) && x.cps.toList.all chOk) = true from h)).2
    refine sd_str ?_
    show x.cps.all (· < 0x110000) = true
    rw [← Array.all_toList]
    refine List.all_eq_true.mpr fun c hc => ?_
    have h3 := List.all_eq_true.mp h2 c hc
    have h4 := of_decide_eq_true (Bool.and_eq_true_iff.mp (Bool.and_eq_true_iff.mp h3).1).2
    exact decide_eq_true (by omega)
  | dic => exact fun h => absurd h (by simp [isV, isP, isI, isT])
  | lst h hs ih => exact fun h => absurd h (by simp [isV, isP, isI, isT])
  | @tup n ds h hs ih =>
    intro hv
    have hv : isVs ds = true := hv
    rw [isVs_iff] at hv
    exact sd_tuple fun d hd => ih d hd (List.all_eq_true.mp hv d hd)
theorem isP_V {d : PyData} (h : isP d = true) : isV d = true := by
  cases d <;> simp_all [isV, isP, isI, isT]
theorem isN_V {d : PyData} (h : isN d = true) : isV d = true := by
  unfold isN at h
  exact isP_V (by unfold isP; rw [(Bool.and_eq_true_iff.mp h).1]; rfl)
theorem isDeed_V {d : PyData} (h : isDeed d = true) : isV d = true := by
  cases d with
  | tuple ds =>
    have h2 := (Bool.and_eq_true_iff.mp (show (_ && ds.all isP) = true from h)).2
    show isVs ds = true
    rw [isVs_iff]
    exact List.all_eq_true.mpr fun d hd => isP_V (List.all_eq_true.mp h2 d hd)
  | _ => cases h
theorem isRec_V {d : PyData} (h : isRec d = true) : isV d = true := by
  cases d with
  | tuple ds =>
    have h : (decide (ds.length = 3) && (isN (ds.getD 0 .none) && (isN (ds.getD 1 .none) && (geB 1 (ds.getD 1 .none) && isDeed (ds.getD 2 .none))))) = true := h
    obtain ⟨h1, h2⟩ := Bool.and_eq_true_iff.mp h
    obtain ⟨h2, h3⟩ := Bool.and_eq_true_iff.mp h2
    obtain ⟨h3, h4⟩ := Bool.and_eq_true_iff.mp h3
    obtain ⟨_, h5⟩ := Bool.and_eq_true_iff.mp h4
    have h1 := of_decide_eq_true h1
    match ds, h1 with
    | [a, b, c], _ =>
      show isVs [a, b, c] = true
      rw [isVs_iff]
      refine List.all_eq_true.mpr fun d hd => ?_
      rcases List.mem_cons.mp hd with rfl | hd
      · exact isN_V h2
      · rcases List.mem_cons.mp hd with rfl | hd
        · exact isN_V h3
        · rw [List.mem_singleton.mp hd]
          exact isDeed_V h5
  | _ => cases h
def isRecs : PyData → Bool
  | .tuple ds => ds.all isRec
  | _ => false
def isLogD : PyData → Bool
  | .tuple ds => decide (ds.length = 3) && (isN (ds.getD 0 .none) && (isV (ds.getD 1 .none) && isRecs (ds.getD 2 .none)))
  | _ => false
theorem isLog_of {d : PyData} (h : isLogD d = true) : ∃ (b : Int) (im : PyData) (rs : List PyData), d = .tuple [.int b, im, .tuple rs] ∧ isV d = true := by
  cases d with
  | tuple ds =>
    have h : (decide (ds.length = 3) && (isN (ds.getD 0 .none) && (isV (ds.getD 1 .none) && isRecs (ds.getD 2 .none)))) = true := h
    obtain ⟨h1, h2⟩ := Bool.and_eq_true_iff.mp h
    obtain ⟨h2, h3⟩ := Bool.and_eq_true_iff.mp h2
    obtain ⟨h3, h4⟩ := Bool.and_eq_true_iff.mp h3
    have h1 := of_decide_eq_true h1
    match ds, h1 with
    | [a, b, c], _ =>
      have h2 : isN a = true := h2
      have h3 : isV b = true := h3
      have h4 : isRecs c = true := h4
      obtain ⟨i, rfl⟩ : ∃ i, a = .int i := by
        cases a <;> simp_all [isN, isI]
      obtain ⟨rs, rfl⟩ : ∃ rs, c = .tuple rs := by
        cases c <;> simp_all [isRecs]
      refine ⟨i, b, rs, rfl, ?_⟩
      show isVs [.int i, b, .tuple rs] = true
      rw [isVs_iff]
      refine List.all_eq_true.mpr fun d hd => ?_
      rcases List.mem_cons.mp hd with rfl | hd
      · exact isN_V h2
      · rcases List.mem_cons.mp hd with rfl | hd
        · exact h3
        · rw [List.mem_singleton.mp hd]
          show isVs rs = true
          rw [isVs_iff]
          exact List.all_eq_true.mpr fun d hd => isRec_V (List.all_eq_true.mp h4 d hd)
  | _ => cases h
theorem cr_mk {K : PySem.W.Frag} {h : Heap} {C : Addr} {mc : Value} (X : K.In h) (rd : PySem.W.readsIn K C mc = true) (ga : PySem.W.specialIn K (.ref C) "__getattribute__" = some (some (.builtin "type.__getattribute__"))) : ClX.CRead K C mc := ⟨rd, ga⟩
theorem big_lit {mg : Str → Option Value} {t : Tok} (h : mg "NUMBER_MOST" = some (.int 1000000000000000000 t)) : mg "NUMBER_MOST" = some (.int (10 ^ 18) t) := by
  rw [h, show ((10 : Int) ^ 18) = 1000000000000000000 by decide]
end Ap

set_option Elab.async false
set_option linter.all false
set_option maxRecDepth 100000
namespace Ap
open PySem PySem.Spec PyProof.Rows L2 Evl
section
variable {K : PySem.W.Frag} {σ : L2.St} {H H' : Hp} {ta tb tc te : TE} {t u : TT} {x y z v w : V}
theorem et_orF (h1 : EvT t σ H false) (h2 : EvT u σ H false) : EvT (tOr t u) σ H false := et_or (a := false) (b := false) h1 (fun _ => h2)
theorem et_orL (h1 : EvT t σ H true) : EvT (tOr t u) σ H true := fun H1 e Q q => h1 H1 e _ fun H2 e2 => (q H2 e2 : Q true H2)
theorem et_orR (h1 : EvT t σ H false) (h2 : EvT u σ H true) : EvT (tOr t u) σ H true := et_or (a := false) (b := true) h1 (fun _ => h2)
theorem et_andT (h1 : EvT t σ H true) (h2 : EvT u σ H true) : EvT (tAnd t u) σ H true := et_and (a := true) (b := true) h1 (fun _ => h2)
theorem et_andL (h1 : EvT t σ H false) : EvT (tAnd t u) σ H false := fun H1 e Q q => h1 H1 e _ fun H2 e2 => (q H2 e2 : Q false H2)
theorem et_andR (h1 : EvT t σ H true) (h2 : EvT u σ H false) : EvT (tAnd t u) σ H false := et_and (a := true) (b := false) h1 (fun _ => h2)
theorem et_nt (h : EvT t σ H true) : EvT (tNot t) σ H false := et_not h
theorem et_nf (h : EvT t σ H false) : EvT (tNot t) σ H true := et_not h
theorem ev_andT (h1 : Ev ta σ H (.bl true)) (h2 : Ev tb σ H (.bl true)) : Ev (tAndV ta tb) σ H (.bl true) := ev_andV (a := true) (b := true) h1 (fun _ => h2)
theorem ev_andL (h1 : Ev ta σ H (.bl false)) : Ev (tAndV ta tb) σ H (.bl false) := fun H1 e Q q => h1 H1 e _ fun H2 e2 => ⟨false, rfl, (q H2 e2 : Q (.bl false) H2)⟩
theorem ev_andR {b : Bool} (h1 : Ev ta σ H (.bl true)) (h2 : Ev tb σ H (.bl b)) : Ev (tAndV ta tb) σ H (.bl b) := by
  have h := ev_andV (a := true) (b := b) h1 (fun _ => h2)
  rwa [Bool.true_and] at h
theorem ev_orF (h1 : Ev ta σ H (.bl false)) (h2 : Ev tb σ H (.bl false)) : Ev (tOrV ta tb) σ H (.bl false) := ev_orV (a := false) (b := false) h1 (fun _ => h2)
theorem ev_nt (h : Ev ta σ H (.bl true)) : Ev (tNotV ta) σ H (.bl false) := ev_notV h
theorem ev_nf (h : Ev ta σ H (.bl false)) : Ev (tNotV ta) σ H (.bl true) := ev_notV h
theorem rc_isiI : RC (rIsi K) [.int x', .ty "int"] H (.bl true) := rc_isi (X := "int") (fun _ => .base (.int _)) (by decide +kernel)
theorem rc_isiIB : RC (rIsi K) [.int x', .ty "bool"] H (.bl false) := rc_isi (X := "int") (fun _ => .base (.int _)) (by decide +kernel)
theorem rc_isiB : RC (rIsi K) [.bl x', .ty "bool"] H (.bl true) := rc_isi (X := "bool") (fun _ => .base (.bl _)) (by decide +kernel)
theorem rc_isiBI : RC (rIsi K) [.bl x', .ty "int"] H (.bl true) := rc_isi (X := "bool") (fun _ => .base (.bl _)) (by decide +kernel)
theorem rv_eqI {i j : Int} : RV rEq (.int i) (.int j) H (.bl (decide (i = j))) := by
  have h := rv_eq (x := .int i) (y := .int j) (H := H) rfl
  have e : decide (V.int i = V.int j) = decide (i = j) := by
    by_cases q : i = j
    · rw [decide_eq_true q, decide_eq_true (by rw [q])]
    · rw [decide_eq_false q, decide_eq_false (fun h => q (V.int.inj h))]
  rwa [e] at h
theorem rv_neI {i j : Int} : RV rNe (.int i) (.int j) H (.bl (!decide (i = j))) := by
  have h := rv_ne (x := .int i) (y := .int j) (H := H) rfl
  have e : decide (V.int i = V.int j) = decide (i = j) := by
    by_cases q : i = j
    · rw [decide_eq_true q, decide_eq_true (by rw [q])]
    · rw [decide_eq_false q, decide_eq_false (fun h => q (V.int.inj h))]
  rwa [e] at h
end
end Ap

set_option Elab.async false
set_option linter.all false
set_option maxRecDepth 100000
namespace Ap
open PySem PySem.Spec PyProof.Rows L2 Evl
/-! ### parts of a heap that stand apart -/
structure MP where
  p : Hp → Prop
  m : ∀ H H', Ex H H' → p H → p H'
def cutIn (S : Addr → Bool) (H : Hp) : Hp := fun a => if S a = true then H a else none
theorem cutIn_ex {S : Addr → Bool} {H H' : Hp} (e : Ex H H') : Ex (cutIn S H) (cutIn S H') := fun a o h => by
  unfold cutIn at h ⊢
  split at h
  · rename_i q
    rw [if_pos q]
    exact e a o h
  · cases h
theorem cutIn_sub {S : Addr → Bool} {H : Hp} : Ex (cutIn S H) H := fun a o h => by
  unfold cutIn at h
  split at h
  · exact h
  · cases h
theorem cutIn_at {S : Addr → Bool} {H : Hp} {a : Addr} {o : HO} (h : cutIn S H a = some o) : S a = true ∧ H a = some o := by
  unfold cutIn at h
  split at h
  · rename_i q
    exact ⟨q, h⟩
  · cases h
theorem cutIn_yes {S : Addr → Bool} {H : Hp} {a : Addr} (h : S a = true) : cutIn S H a = H a := by
  unfold cutIn
  rw [if_pos h]
theorem cutIn_no {S : Addr → Bool} {H : Hp} {a : Addr} (h : S a = false) : cutIn S H a = none := by
  unfold cutIn
  rw [if_neg (by rw [h]; decide)]
def Emp : MP := ⟨fun _ => True, fun _ _ _ _ => trivial⟩
def Pt (a : Addr) (o : HO) : MP := ⟨fun H => H a = some o, fun _ _ e h => e _ _ h⟩
def Bs (B : Hp) : MP := ⟨fun H => Ex B H, fun _ _ e h => h.trans e⟩
def Star (P Q : MP) : MP := ⟨fun H => ∃ S : Addr → Bool, P.p (cutIn S H) ∧ Q.p (cutIn (fun a => !S a) H), fun _ _ e ⟨S, h1, h2⟩ => ⟨S, P.m _ _ (cutIn_ex e) h1, Q.m _ _ (cutIn_ex e) h2⟩⟩
def Stars : List MP → MP
  | [] => Emp
  | P :: l => Star P (Stars l)
def Each {α : Type} (xs : List α) (f : α → MP) : MP := Stars (xs.map f)
def ExM {α : Type} (f : α → MP) : MP := ⟨fun H => ∃ x, (f x).p H, fun _ _ e ⟨x, h⟩ => ⟨x, (f x).m _ _ e h⟩⟩
def AndM (φ : Prop) (P : MP) : MP := ⟨fun H => φ ∧ P.p H, fun _ _ e ⟨a, h⟩ => ⟨a, P.m _ _ e h⟩⟩
theorem cut_cut {S T : Addr → Bool} {H : Hp} : cutIn S (cutIn T H) = cutIn (fun a => T a && S a) H := by
  funext a
  unfold cutIn
  cases hs : S a <;> cases ht : T a <;> simp [hs, ht]
theorem cut_all {H : Hp} : cutIn (fun _ => true) H = H := funext fun a => cutIn_yes rfl
theorem cut_all' {H : Hp} : cutIn (fun a => !((fun _ => false) a)) H = H := funext fun a => cutIn_yes rfl
theorem star_comm {P Q : MP} {H : Hp} (h : (Star P Q).p H) : (Star Q P).p H := by
  obtain ⟨S, h1, h2⟩ := h
  refine ⟨fun a => !S a, h2, ?_⟩
  have e : (fun a => !!S a) = S := by
    funext a
    exact Bool.not_not _
  show P.p (cutIn (fun a => !!S a) H)
  rw [e]
  exact h1
theorem star_l {P Q : MP} {H : Hp} (h : (Star P Q).p H) : P.p H := by
  obtain ⟨S, h1, h2⟩ := h
  exact P.m _ _ cutIn_sub h1
theorem star_r {P Q : MP} {H : Hp} (h : (Star P Q).p H) : Q.p H := by
  obtain ⟨S, h1, h2⟩ := h
  exact Q.m _ _ cutIn_sub h2
theorem star_mono {P P' Q Q' : MP} {H : Hp} (hp : ∀ H, P.p H → P'.p H) (hq : ∀ H, Q.p H → Q'.p H) (h : (Star P Q).p H) : (Star P' Q').p H := by
  obtain ⟨S, h1, h2⟩ := h
  exact ⟨S, hp _ h1, hq _ h2⟩
theorem star_swap {P Q R : MP} {H : Hp} (h : (Star P (Star Q R)).p H) : (Star Q (Star P R)).p H := by
  obtain ⟨S, h1, T, h2, h3⟩ := h
  rw [cut_cut] at h2 h3
  refine ⟨fun a => !S a && T a, h2, fun a => S a, ?_, ?_⟩
  · rw [cut_cut]
    refine P.m _ _ (fun a o h => ?_) h1
    obtain ⟨q, h⟩ := cutIn_at h
    rw [cutIn_yes (by show (!(!S a && T a) && S a) = true; rw [q]; rfl)]
    exact h
  · rw [cut_cut]
    refine R.m _ _ (fun a o h => ?_) h3
    obtain ⟨q, h⟩ := cutIn_at h
    have q : (!S a && !T a) = true := q
    rw [cutIn_yes (by
      show (!(!S a && T a) && !S a) = true
      cases hs : S a <;> cases ht : T a <;> rw [hs, ht] at q <;> first | rfl | cases q)]
    exact h
theorem star_assoc {P Q R : MP} {H : Hp} (h : (Star (Star P Q) R).p H) : (Star P (Star Q R)).p H := star_mono (fun _ h => h) (fun _ h => star_comm h) (star_swap (star_mono (P' := R) (fun _ h => h) (fun _ h => h) (star_comm h)) |> star_mono (fun _ h => h) (fun _ h => h))
theorem star_assoc' {P Q R : MP} {H : Hp} (h : (Star P (Star Q R)).p H) : (Star (Star P Q) R).p H := by
  have h1 : (Star R (Star P Q)).p H := by
    have h2 : (Star P (Star R Q)).p H := star_mono (fun _ h => h) (fun _ h => star_comm h) h
    exact star_swap h2
  exact star_comm h1
theorem stars_app : ∀ {l k : List MP} {H : Hp}, (Star (Stars l) (Stars k)).p H → (Stars (l ++ k)).p H
  | [], _, _, h => star_r h
  | P :: l, k, _, h => star_mono (fun _ h => h) (fun _ h => stars_app h) (star_assoc h)
theorem stars_app' : ∀ {l k : List MP} {H : Hp}, (Stars (l ++ k)).p H → (Star (Stars l) (Stars k)).p H
  | [], _, _, h => ⟨fun _ => false, trivial, by
    rw [cut_all']
    exact h⟩
  | P :: l, k, _, h => star_assoc' (star_mono (fun _ h => h) (fun _ h => stars_app' h) h)
theorem stars_pull : ∀ (l : List MP) (i : Nat) {H : Hp} {P : MP}, l[i]? = some P → (Stars l).p H → (Stars (P :: l.eraseIdx i)).p H
  | [], i, _, _, e, _ => by simp at e
  | Q :: l, 0, _, _, e, h => by
    cases (show some Q = some _ from e)
    exact h
  | Q :: l, i + 1, _, P, e, h => star_swap (star_mono (P := Q) (Q := Stars l) (Q' := Stars (P :: l.eraseIdx i)) (fun _ h => h) (fun _ h => stars_pull l i (by simpa using e) h) h)
theorem stars_put : ∀ (l : List MP) (i : Nat) {H : Hp} {P P' : MP}, l[i]? = some P → (Stars (P' :: l.eraseIdx i)).p H → (Stars (l.set i P')).p H
  | [], i, _, _, _, e, _ => by simp at e
  | Q :: l, 0, _, _, _, e, h => h
  | Q :: l, i + 1, _, P, P', e, h => star_mono (P := Q) (Q := Stars (P' :: l.eraseIdx i)) (Q' := Stars (l.set i P')) (fun _ h => h) (fun _ h => stars_put l i (P := P) (by simpa using e) h) (star_swap h)
theorem stars_at {l : List MP} {i : Nat} {H : Hp} {P : MP} (e : l[i]? = some P) (h : (Stars l).p H) : P.p H := star_l (stars_pull l i e h)
/-- the base (what never changes), and what stands apart from it -/
def At (B : Hp) (l : List MP) (H : Hp) : Prop := (Stars (Bs B :: l)).p H
section
variable {K : PySem.W.Frag} {B H H1 : Hp} {l : List MP} {P Q : MP} {i : Nat} {a p : Addr} {o u : HO}
theorem at_base (h : At B l H) : Ex B H := star_l h
theorem at_ex (h : At B l H) (e : Ex H H1) : At B l H1 := (Stars (Bs B :: l)).m _ _ e h
theorem at_p (i : Nat) (e : l[i]? = some P) (h : At B l H) : P.p H := stars_at (l := Bs B :: l) (i := i + 1) (by simpa using e) h
theorem at_get (i : Nat) (e : l[i]? = some (Pt a o)) (h : At B l H) : H a = some o := at_p i e h
theorem at_start : At H [] H := ⟨fun _ => true, by
  rw [cut_all]
  exact Ex.refl H, trivial⟩
/-- what stands apart may become something else -/
theorem at_to (i : Nat) (e : l[i]? = some P) (hq : ∀ H, P.p H → Q.p H) (h : At B l H) : At B (l.set i Q) H :=
  stars_put (Bs B :: l) (i + 1) (P := P) (by simpa using e) (star_mono (P := P) (P' := Q) hq (fun _ h => h) (stars_pull (Bs B :: l) (i + 1) (by simpa using e) h))
theorem at_drop (h : At B (P :: l) H) : At B l H := star_mono (P := Bs B) (fun _ h => h) (fun _ h => star_r h) h
theorem at_pull (i : Nat) (e : l[i]? = some P) (h : At B l H) : At B (P :: l.eraseIdx i) H := star_mono (P := Bs B) (fun _ h => h) (fun _ h => stars_pull l i e h) h
theorem at_put (i : Nat) (e : l[i]? = some P) (h : At B (Q :: l.eraseIdx i) H) : At B (l.set i Q) H := star_mono (P := Bs B) (fun _ h => h) (fun _ h => stars_put l i e h) h
theorem at_swap {R : MP} (h : At B (P :: R :: l) H) : At B (R :: P :: l) H := star_mono (P := Bs B) (fun _ h => h) (fun _ h => star_swap h) h
/-- two in one, one in two -/
theorem at_join {R : MP} (h : At B (P :: R :: l) H) : At B (Star P R :: l) H := star_mono (P := Bs B) (fun _ h => h) (fun _ h => star_assoc' h) h
theorem at_split {R : MP} (h : At B (Star P R :: l) H) : At B (P :: R :: l) H := star_mono (P := Bs B) (fun _ h => h) (fun _ h => star_assoc h) h
theorem at_stars {k : List MP} (h : At B (Stars k :: l) H) : At B (k ++ l) H := star_mono (P := Bs B) (fun _ h => h) (fun _ h => stars_app h) h
theorem at_stars' (k : List MP) (h : At B (k ++ l) H) : At B (Stars k :: l) H := star_mono (P := Bs B) (fun _ h => h) (fun _ h => stars_app' h) h
theorem at_exm {α : Type} {f : α → MP} (h : At B (ExM f :: l) H) : ∃ x, At B (f x :: l) H := by
  obtain ⟨S, h1, T, ⟨x, h2⟩, h3⟩ := h
  exact ⟨x, S, h1, T, h2, h3⟩
theorem at_exm' {α : Type} {f : α → MP} (x : α) (h : At B (f x :: l) H) : At B (ExM f :: l) H := by
  obtain ⟨S, h1, T, h2, h3⟩ := h
  exact ⟨S, h1, T, ⟨x, h2⟩, h3⟩
theorem at_and {φ : Prop} (h : At B (AndM φ P :: l) H) : φ ∧ At B (P :: l) H := by
  obtain ⟨S, h1, T, ⟨x, h2⟩, h3⟩ := h
  exact ⟨x, S, h1, T, h2, h3⟩
theorem at_and' {φ : Prop} (x : φ) (h : At B (P :: l) H) : At B (AndM φ P :: l) H := by
  obtain ⟨S, h1, T, h2, h3⟩ := h
  exact ⟨S, h1, T, ⟨x, h2⟩, h3⟩
theorem upd_cut {S : Addr → Bool} (hS : S a = false) : cutIn S (upd H a o) = cutIn S H := by
  funext b
  by_cases q : b = a
  · rw [q, cutIn_no hS, cutIn_no hS]
  · unfold cutIn
    rw [upd_ne q]
/-- what stands at one of the places is written -/
theorem star_upd (h : (Star (Pt a o) P).p H) : (Star (Pt a u) P).p (upd H a u) := by
  obtain ⟨S, h1, h2⟩ := h
  have hs := (cutIn_at (show cutIn S H a = some o from h1)).1
  refine ⟨S, ?_, ?_⟩
  · show cutIn S (upd H a u) a = some u
    rw [cutIn_yes hs, upd_same]
  · rw [upd_cut (S := fun b => !S b) (by rw [hs]; rfl)]
    exact h2
theorem at_upd (i : Nat) (e : l[i]? = some (Pt a o)) (h : At B l H) : At B (l.set i (Pt a u)) (upd H a u) :=
  stars_put (Bs B :: l) (i + 1) (P := Pt a o) (by simpa using e) (star_upd (stars_pull (Bs B :: l) (i + 1) (by simpa using e) h))
/-- something new -/
theorem star_new (h : P.p H) (np : H p = none) (e : Ex H H1) (hp : H1 p = some o) : (Star (Pt p o) P).p H1 := by
  refine ⟨fun a => decide (a = p), ?_, P.m _ _ (fun a u h => ?_) h⟩
  · show cutIn (fun a => decide (a = p)) H1 p = some o
    rw [cutIn_yes (decide_eq_true rfl)]
    exact hp
  · have ne : a ≠ p := ne_of_none h np
    rw [cutIn_yes (by show (!decide (a = p)) = true; rw [decide_eq_false ne]; rfl)]
    exact e a u h
theorem at_new (h : At B l H) (np : H p = none) (e : Ex H H1) (hp : H1 p = some o) : At B (Pt p o :: l) H1 := star_swap (star_new (P := Stars (Bs B :: l)) h np e hp)
/-- a new thing that belongs to the base from now on: all that is new does -/
theorem at_grow (h : At B l H) (e : Ex H H1) : At (ov B H H1) l H1 := by
  obtain ⟨S, h1, h2⟩ := h
  refine ⟨fun a => S a || (H a).isNone, ?_, (Stars l).m _ _ (fun a o ha => ?_) h2⟩
  · show Ex (ov B H H1) (cutIn (fun a => S a || (H a).isNone) H1)
    intro a o ha
    unfold ov at ha
    cases hb : B a with
    | some o' =>
      rw [hb] at ha
      have hc := (show Ex B (cutIn S H) from h1) a o' hb
      obtain ⟨q, hh⟩ := cutIn_at hc
      rw [cutIn_yes (by show (S a || (H a).isNone) = true; rw [q]; rfl), ← ha]
      exact e a o' hh
    | none =>
      rw [hb] at ha
      cases h0 : H a with
      | some o' => rw [h0] at ha; cases ha
      | none =>
        rw [h0] at ha
        rw [cutIn_yes (by show (S a || (H a).isNone) = true; rw [h0]; simp)]
        exact ha
  · obtain ⟨q, hh⟩ := cutIn_at ha
    rw [cutIn_yes (by
      show (!(S a || (H a).isNone)) = true
      rw [hh]
      cases hs : S a
      · rfl
      · rw [hs] at q; cases q)]
    exact e a o hh
/-- what stood apart belongs to the base from now on -/
theorem at_freeze (h : At B (Pt p o :: l) H) : B p = none ∧ At (upd B p o) l H := by
  obtain ⟨S, h1, T, h2, h3⟩ := h
  rw [cut_cut] at h2 h3
  have hq := cutIn_at (show cutIn (fun a => !S a && T a) H p = some o from h2)
  have hs : S p = false := by
    have := hq.1
    cases hs : S p
    · rfl
    · rw [hs] at this; cases this
  have hn : B p = none := by
    cases hb : B p with
    | none => rfl
    | some o' =>
      have hc := (cutIn_at ((show Ex B (cutIn S H) from h1) p o' hb)).1
      rw [hs] at hc
      cases hc
  refine ⟨hn, fun a => S a || decide (a = p), ?_, (Stars l).m _ _ (fun a u ha => ?_) h3⟩
  · show Ex (upd B p o) (cutIn (fun a => S a || decide (a = p)) H)
    intro a u ha
    by_cases q : a = p
    · rw [q, upd_same] at ha
      rw [q, cutIn_yes (by show (S p || decide (p = p)) = true; rw [decide_eq_true rfl]; simp)]
      rw [hq.2]
      exact ha
    · rw [upd_ne q] at ha
      obtain ⟨k, hh⟩ := cutIn_at ((show Ex B (cutIn S H) from h1) a u ha)
      rw [cutIn_yes (by show (S a || decide (a = p)) = true; rw [k]; rfl)]
      exact hh
  · obtain ⟨k, hh⟩ := cutIn_at ha
    have k : (!S a && !T a) = true := k
    have ne : a ≠ p := fun e => by
      have k2 := hq.1
      rw [e] at k
      cases hs2 : S p <;> cases ht : T p <;> simp [hs2, ht] at k k2
    rw [cutIn_yes (by
      show (!(S a || decide (a = p))) = true
      rw [decide_eq_false ne]
      cases hs : S a
      · rfl
      · rw [hs] at k; cases k)]
    exact hh
/-- a part of the base taken out is not needed: the base may be less -/
theorem at_less {B' : Hp} (e : Ex B' B) (h : At B l H) : At B' l H := star_mono (P := Bs B) (P' := Bs B') (fun _ h => e.trans h) (fun _ h => h) h
/-- two places stand apart -/
theorem at_ne (h : At B (Pt a o :: Pt p u :: l) H) : a ≠ p := by
  obtain ⟨S, h1, T, h2, U, h3, h4⟩ := h
  rw [cut_cut] at h2 h3
  rw [cut_cut] at h3
  have q1 := (cutIn_at (show cutIn _ H a = some o from h2)).1
  have q2 := (cutIn_at (show cutIn _ H p = some u from h3)).1
  intro e
  rw [e] at q1
  have q1 : (!S p && T p) = true := q1
  have q2 : (!S p && (!T p && U p)) = true := q2
  cases hs : S p <;> cases ht : T p <;> simp [hs, ht] at q1 q2
end
/-! ### rows of things that stand apart -/
theorem map_erase {α β : Type} (f : α → β) : ∀ (xs : List α) (i : Nat), (xs.map f).eraseIdx i = (xs.eraseIdx i).map f
  | [], _ => rfl
  | x :: xs, 0 => rfl
  | x :: xs, i + 1 => by
    show f x :: (xs.map f).eraseIdx i = _
    rw [map_erase f xs i]
    rfl
section
variable {α : Type} {B H : Hp} {l : List MP} {xs : List α} {f : α → MP} {i : Nat} {x x' : α}
theorem each_at (h : At B (Each xs f :: l) H) (e : xs[i]? = some x) : At B (f x :: Each (xs.eraseIdx i) f :: l) H := by
  have h1 : At B (Stars (f x :: (xs.map f).eraseIdx i) :: l) H := star_mono (P := Bs B) (fun _ h => h) (fun _ h => star_mono (fun _ h => stars_pull (xs.map f) i (by rw [List.getElem?_map, e]; rfl) h) (fun _ h => h) h) h
  have e2 : (xs.map f).eraseIdx i = (xs.eraseIdx i).map f := map_erase f xs i
  rw [e2] at h1
  exact at_split h1
theorem each_set (hi : i < xs.length) (h : At B (f x' :: Each (xs.eraseIdx i) f :: l) H) : At B (Each (xs.set i x') f :: l) H := by
  have h1 := at_join h
  have e2 : Each (xs.set i x') f = Stars ((xs.map f).set i (f x')) := by
    unfold Each
    rw [List.map_set]
  rw [e2]
  refine star_mono (P := Bs B) (fun _ h => h) (fun _ h => star_mono (fun _ h => stars_put (xs.map f) i (P := f xs[i]) (by rw [List.getElem?_map, List.getElem?_eq_getElem hi]; rfl) ?_) (fun _ h => h) h) h1
  rw [map_erase]
  exact h
theorem each_out (h : At B (f x :: Each (xs.eraseIdx i) f :: l) H) : At B (Each (xs.eraseIdx i) f :: f x :: l) H := at_swap h
theorem each_app (h : At B (f x :: Each xs f :: l) H) : At B (Each (xs ++ [x]) f :: l) H := by
  have h1 : At B (Stars (xs.map f ++ [f x]) :: l) H := star_mono (P := Bs B) (fun _ h => h) (fun _ h => star_mono (P := Star (Stars (xs.map f)) (Stars [f x])) (fun _ h => stars_app h) (fun _ h => h) h) (at_join (at_swap (l := l) (P := Stars [f x]) (star_mono (P := Bs B) (fun _ h => h) (fun _ h => star_mono (P := f x) (P' := Stars [f x]) (fun _ h => ⟨fun _ => true, by
    rw [cut_all]
    exact h, trivial⟩) (fun _ h => h) h) h)))
  unfold Each
  rw [List.map_append]
  exact h1
theorem each_nil (h : At B l H) : At B (Each ([] : List α) f :: l) H := by
  refine star_mono (P := Bs B) (fun _ h => h) (fun _ h => ?_) h
  exact ⟨fun _ => false, trivial, by
    rw [cut_all']
    exact h⟩
end
/-! ### another order -/
theorem stars_perm {l l' : List MP} (h : l.Perm l') : ∀ {H : Hp}, (Stars l).p H → (Stars l').p H := by
  induction h with
  | nil => exact fun h => h
  | cons x _ ih => exact fun h => star_mono (P := x) (fun _ h => h) (fun _ h => ih h) h
  | swap x y l => exact fun h => star_swap h
  | trans _ _ ih1 ih2 => exact fun h => ih2 (ih1 h)
theorem at_perm {B H : Hp} {l l' : List MP} (p : l.Perm l') (h : At B l H) : At B l' H := star_mono (P := Bs B) (fun _ h => h) (fun _ h => stars_perm p h) h
theorem range_get {α : Type} (d : α) : ∀ l : List α, (List.range l.length).map (fun i => l.getD i d) = l := fun l => by
  refine List.ext_getElem (by simp) fun i h1 h2 => ?_
  simp [List.getD_eq_getElem?_getD, List.getElem?_eq_getElem h2]
theorem at_ix {B H : Hp} {l : List MP} (n : Nat) (is : List Nat) (h : At B l H) (hp : is.isPerm (List.range n) = true := by decide) (hn : n ≤ l.length := by simp) : At B (is.map (fun i => l.getD i Emp) ++ l.drop n) H := by
  refine at_perm ?_ h
  have p := List.isPerm_iff.mp hp
  have e : (List.range n).map (fun i => l.getD i Emp) = l.take n := by
    have e1 := range_get Emp (l.take n)
    rw [List.length_take, Nat.min_eq_left hn] at e1
    refine Eq.trans (List.map_congr_left fun i hi => ?_) e1
    have hi := List.mem_range.mp hi
    rw [List.getD_eq_getElem?_getD, List.getD_eq_getElem?_getD, List.getElem?_take_of_lt hi]
  have q := (p.map (fun i => l.getD i Emp)).append_right (l.drop n)
  rw [e, List.take_append_drop] at q
  exact q.symm
/-- an empty row of things, at the n-th place -/
theorem each_nil_at {α : Type} {B H : Hp} {l : List MP} {f : α → MP} (n : Nat) (h : At B l H) : At B (l.take n ++ Each ([] : List α) f :: l.drop n) H := by
  refine at_perm ?_ (each_nil (f := f) h)
  have := (List.perm_middle (a := Each ([] : List α) f) (l₁ := l.take n) (l₂ := l.drop n)).symm
  rwa [List.take_append_drop] at this
end Ap

set_option Elab.async false
set_option linter.all false
set_option maxRecDepth 100000
namespace Ap
open PySem PySem.Spec PyProof.Rows L2 Evl
/-! ### what evaluates to what where some things stand apart from a base: the base may grow, the rest stays -/
structure Rr where
  r : V → Hp → Prop
  m : ∀ {v : V} {B B' : Hp}, Ex B B' → r v B → r v B'
def rV (x : V) : Rr := ⟨fun v _ => v = x, fun _ h => h⟩
def rD (K : PySem.W.Frag) (d : PyData) : Rr := ⟨fun v B => Dp K B v d, fun e h => dp_mono e _ _ h⟩
def rN (φ : Int → Prop) : Rr := ⟨fun v _ => ∃ i, v = .int i ∧ φ i, fun _ h => h⟩
def rBo : Rr := ⟨fun v _ => ∃ b, v = .bl b, fun _ h => h⟩
def Wv (te : TE) (σ : L2.St) (B : Hp) (l : List MP) (R : Rr) : Prop := ∀ B1 H, Ex B B1 → At B1 l H → ∀ Q : VK, (∀ v B2 H2, Ex B1 B2 → At B2 l H2 → R.r v B2 → Q v H2) → te σ H Q
def Wa (K : PySem.W.Frag) (ta : TA) (σ : L2.St) (B : Hp) (l : List MP) (ds : List PyData) : Prop := ∀ B1 H, Ex B B1 → At B1 l H → ∀ Q : List V → Hp → Prop, (∀ vs B2 H2, Ex B1 B2 → At B2 l H2 → DpAll K B2 vs ds → Q vs H2) → ta σ H Q
section
variable {K : PySem.W.Frag} {σ : L2.St} {B B' H H' : Hp} {l l' : List MP} {ta tb te : TE} {t : TT} {x y v : V} {d : PyData} {ds : List PyData} {R R' : Rr} {P : MP} {i j : Nat} {a p : Addr} {o u : HO}
theorem Wv.up (e : Ex B B') (h : Wv te σ B l R) : Wv te σ B' l R := fun B1 H1 e1 hA Q q => h B1 H1 (e.trans e1) hA Q q
theorem Wv.to (hr : ∀ v B, R.r v B → R'.r v B) (h : Wv te σ B l R) : Wv te σ B l R' := fun B1 H1 e1 hA Q q => h B1 H1 e1 hA Q fun v B2 H2 e2 hA2 hv => q v B2 H2 e2 hA2 (hr v B2 hv)
/-- what is known without the base growing -/
theorem wv_of (h : ∀ B1 H, Ex B B1 → At B1 l H → Ev te σ H x) : Wv te σ B l (rV x) := fun B1 H1 e1 hA Q q => h B1 H1 e1 hA H1 (Ex.refl H1) Q fun H2 e2 => q x B1 H2 (Ex.refl B1) (at_ex hA e2) rfl
theorem wv_dp (h : Wv te σ B l (rV x)) (hd : Dp K B x d) : Wv te σ B l (rD K d) := fun B1 H1 e1 hA Q q => h B1 H1 e1 hA Q fun v B2 H2 e2 hA2 hv => q v B2 H2 e2 hA2 (by
  have hv : v = x := hv
  rw [hv]
  exact dp_mono (e1.trans e2) _ _ hd)
theorem wv_var (h : σ[i]? = some (some v)) (hd : Dp K B v d) : Wv (tVar i) σ B l (rD K d) := wv_dp (wv_of fun _ _ _ _ => ev_var h) hd
theorem wv_int {n : Int} (h : Wv te σ B l (rV (.int n))) : Wv te σ B l (rD K (.int n)) := wv_dp h (.int n)
theorem wv_str {z : Str} : Wv (tC (.str z)) σ B l (rD K (.str z)) := wv_dp (wv_of fun _ _ _ _ => ev_c) (.str z)
/-- data over the whole heap of now, told over the base -/
theorem wv_ed (h : ∀ B1, Ex B B1 → EvD K te σ B1 d) : Wv te σ B l (rD K d) := fun B1 H1 e1 hA Q q => h B1 e1 H1 (at_base hA) Q fun v H2 e2 hv => q v (ov B1 H1 H2) H2 ov_base (at_grow hA e2) hv
theorem wa_nil : Wa K tNil σ B l [] := fun B1 H1 _ hA Q q => q [] B1 H1 (Ex.refl B1) hA .nil
theorem wa_cons {tr : TA} (h : Wv te σ B l (rD K d)) (hr : Wa K tr σ B l ds) : Wa K (tCons te tr) σ B l (d :: ds) := fun B1 H1 e1 hA Q q =>
  h B1 H1 e1 hA _ fun v B2 H2 e2 hA2 hv => hr B2 H2 (e1.trans e2) hA2 _ fun vs B3 H3 e3 hA3 hs => q (v :: vs) B3 H3 (e2.trans e3) hA3 (.cons (dp_mono e3 _ _ hv) hs)
theorem at_tup {vs : List V} (hA : At B l H) (hp : H p = none) : Ex B (ov B H (upd H p (.tup vs))) ∧ At (ov B H (upd H p (.tup vs))) l (upd H p (.tup vs)) ∧ ov B H (upd H p (.tup vs)) p = some (.tup vs) :=
  ⟨ov_base, at_grow hA (Ex.new hp), ov_new (at_base hA) (Ex.refl H) hp⟩
theorem wv_tup {ta : TA} (h : Wa K ta σ B l ds) (hl : ds.length ≤ 100000) : Wv (tTup ta) σ B l (rD K (.tuple ds)) := fun B1 H1 e1 hA Q q =>
  h B1 H1 e1 hA _ fun vs B2 H2 e2 hA2 hs => ⟨by rw [dpa_len hs]; exact sz_of hl, fun p hp => by
    obtain ⟨k1, k2, k3⟩ := at_tup (vs := vs) hA2 hp
    exact q _ _ _ (e2.trans k1) k2 (.tup (st_of k3) (dpa_mono k1 _ _ hs))⟩
/-- a new list -/
def Wl (K : PySem.W.Frag) (te : TE) (σ : L2.St) (B : Hp) (l : List MP) (ds : List PyData) : Prop := ∀ B1 H, Ex B B1 → At B1 l H → ∀ Q : VK, (∀ p xs B2 H2, Ex B1 B2 → At B2 (Pt p (.lst xs) :: l) H2 → DpAll K B2 xs ds → Q (.ref p) H2) → te σ H Q
theorem wl_lst {ta : TA} (h : Wa K ta σ B l ds) (hl : ds.length ≤ 100000) : Wl K (tLst ta) σ B l ds := fun B1 H1 e1 hA Q q =>
  h B1 H1 e1 hA _ fun vs B2 H2 e2 hA2 hs => ⟨by rw [dpa_len hs]; exact sz_of hl, fun p hp => q p vs B2 _ e2 (at_new hA2 hp (Ex.new hp) upd_same) hs⟩
/-! ### statements -/
variable {D : Ends} {tz tu tw : TS}
theorem qe_asg (hA : At B l H) (h : Ev te σ H x) (k : ∀ H1, At B l H1 → tz D (σ.set i (some x)) H1) : tSeq (tAsg te (gName i)) tz D σ H := q_asg h fun H1 e => k H1 (at_ex hA e)
theorem se_asg (hA : At B l H) (h : Ev te σ H x) (k : ∀ H1, At B l H1 → D.nx (σ.set i (some x)) H1) : tAsg te (gName i) D σ H := s_asg h fun H1 e => k H1 (at_ex hA e)
theorem qw_asg (hA : At B l H) (h : Wv te σ B l R) (k : ∀ v B1 H1, Ex B B1 → At B1 l H1 → R.r v B1 → tz D (σ.set i (some v)) H1) : tSeq (tAsg te (gName i)) tz D σ H := h B H (Ex.refl B) hA _ fun v B1 H1 e1 hA1 hv => k v B1 H1 e1 hA1 hv
theorem sw_asg (hA : At B l H) (h : Wv te σ B l R) (k : ∀ v B1 H1, Ex B B1 → At B1 l H1 → R.r v B1 → D.nx (σ.set i (some v)) H1) : tAsg te (gName i) D σ H := h B H (Ex.refl B) hA _ fun v B1 H1 e1 hA1 hv => k v B1 H1 e1 hA1 hv
theorem qw_lst (hA : At B l H) (h : Wl K te σ B l ds) (k : ∀ p xs B1 H1, Ex B B1 → At B1 (Pt p (.lst xs) :: l) H1 → DpAll K B1 xs ds → tz D (σ.set i (some (.ref p))) H1) : tSeq (tAsg te (gName i)) tz D σ H := h B H (Ex.refl B) hA _ fun p xs B1 H1 e1 hA1 hv => k p xs B1 H1 e1 hA1 hv
theorem qe_lst {xs : List V} (hA : At B l H) (h : EvL te σ H xs) (k : ∀ p H1, At B (Pt p (.lst xs) :: l) H1 → tz D (σ.set i (some (.ref p))) H1) : tSeq (tAsg te (gName i)) tz D σ H := q_asgL h fun p H1 np e hp => k p H1 (at_new hA np e hp)
theorem sw_ret (hA : At B l H) (h : Wv te σ B l R) (k : ∀ v B1 H1, Ex B B1 → At B1 l H1 → R.r v B1 → D.rt v H1) : tRet te D σ H := h B H (Ex.refl B) hA _ fun v B1 H1 e1 hA1 hv => k v B1 H1 e1 hA1 hv
theorem se_ret (hA : At B l H) (h : Ev te σ H x) (k : ∀ H1, At B l H1 → D.rt x H1) : tRet te D σ H := s_ret h fun H1 e => k H1 (at_ex hA e)
theorem qe_when {b : Bool} (hA : At B l H) (h : EvT t σ H b) (h1 : b = true → ∀ H1, At B l H1 → tu { D with nx := tz D } σ H1) (h2 : b = false → ∀ H1, At B l H1 → tz D σ H1) : tSeq (tIfS t tu tNext) tz D σ H := q_when h (fun hb H1 e => h1 hb H1 (at_ex hA e)) (fun hb H1 e => h2 hb H1 (at_ex hA e))
theorem se_when {b : Bool} (hA : At B l H) (h : EvT t σ H b) (h1 : b = true → ∀ H1, At B l H1 → tu D σ H1) (h2 : b = false → ∀ H1, At B l H1 → D.nx σ H1) : tIfS t tu tNext D σ H := s_when h (fun hb H1 e => h1 hb H1 (at_ex hA e)) (fun hb H1 e => h2 hb H1 (at_ex hA e))
theorem qe_if {b : Bool} (hA : At B l H) (h : EvT t σ H b) (h1 : b = true → ∀ H1, At B l H1 → tu { D with nx := tz D } σ H1) (h2 : b = false → ∀ H1, At B l H1 → tw { D with nx := tz D } σ H1) : tSeq (tIfS t tu tw) tz D σ H := q_if h (fun hb H1 e => h1 hb H1 (at_ex hA e)) (fun hb H1 e => h2 hb H1 (at_ex hA e))
theorem se_if {b : Bool} (hA : At B l H) (h : EvT t σ H b) (h1 : b = true → ∀ H1, At B l H1 → tu D σ H1) (h2 : b = false → ∀ H1, At B l H1 → tw D σ H1) : tIfS t tu tw D σ H := s_if h (fun hb H1 e => h1 hb H1 (at_ex hA e)) (fun hb H1 e => h2 hb H1 (at_ex hA e))
/-- l.append(e) -/
theorem qe_app {q : Addr} {xs : List V} (k : Nat) (hk : l[k]? = some (Pt q (.lst xs))) (hA : At B l H) (ha : Ev ta σ H (.ref q)) (h : Ev te σ H v) (hz : xs.length < 100000) (c : ∀ H1, At B (l.set k (Pt q (.lst (xs ++ [v])))) H1 → tz D σ H1) : tSeq (tDrop (tBM K "list" rAppend ta (tCons te tNil))) tz D σ H :=
  q_app (at_get k hk hA) ha h hz fun H1 e => c _ (at_upd k hk (at_ex hA e))
theorem se_app {q : Addr} {xs : List V} (k : Nat) (hk : l[k]? = some (Pt q (.lst xs))) (hA : At B l H) (ha : Ev ta σ H (.ref q)) (h : Ev te σ H v) (hz : xs.length < 100000) (c : ∀ H1, At B (l.set k (Pt q (.lst (xs ++ [v])))) H1 → D.nx σ H1) : tDrop (tBM K "list" rAppend ta (tCons te tNil)) D σ H :=
  s_app (at_get k hk hA) ha h hz fun H1 e => c _ (at_upd k hk (at_ex hA e))
theorem sw_app {q : Addr} {xs : List V} (k : Nat) (hk : l[k]? = some (Pt q (.lst xs))) (hA : At B l H) (ha : ∀ H1, Ev ta σ H1 (.ref q)) (h : Wv te σ B l R) (hz : xs.length < 100000) (c : ∀ v B1 H1, Ex B B1 → R.r v B1 → At B1 (l.set k (Pt q (.lst (xs ++ [v])))) H1 → D.nx σ H1) : tDrop (tBM K "list" rAppend ta (tCons te tNil)) D σ H :=
  ha H H (Ex.refl H) _ fun H1 e1 => ⟨.inl ⟨rfl, xs, sq_of (at_get k hk (at_ex hA e1))⟩, h B H1 (Ex.refl B) (at_ex hA e1) _ fun v B2 H2 e2 hA2 hv => ⟨q, xs, v, rfl, rfl, at_get k hk hA2, sz_lt hz, c v B2 _ e2 hv (at_upd k hk hA2)⟩⟩
theorem qw_app {q : Addr} {xs : List V} (k : Nat) (hk : l[k]? = some (Pt q (.lst xs))) (hA : At B l H) (ha : ∀ H1, Ev ta σ H1 (.ref q)) (h : Wv te σ B l R) (hz : xs.length < 100000) (c : ∀ v B1 H1, Ex B B1 → R.r v B1 → At B1 (l.set k (Pt q (.lst (xs ++ [v])))) H1 → tz D σ H1) : tSeq (tDrop (tBM K "list" rAppend ta (tCons te tNil))) tz D σ H :=
  sw_app (D := { D with nx := tz D }) k hk hA ha h hz c
/-! ### objects and dicts -/
theorem ev_fld {C dx : Addr} {fs : List (Str × V)} {f : Str} (h : Ev ta σ H (.ref a)) (ha : H a = some (.ins C dx fs)) (c : Cls K C) (n : NoAttr K C f) (hl : fs.lookup f = some v) : Ev (tFld K ta f) σ H v := fun H1 e Q q => h H1 e _ fun H2 e2 => ⟨a, C, dx, fs, v, rfl, (e.trans e2) _ _ ha, c, n, hl, q H2 e2⟩
theorem ev_din {ty td : TE} {kvs : List (Key × V)} {k : Key} (hk : Ev ty σ H (kV k)) (hd : Ev td σ H (.ref a)) (h : H a = some (.dK kvs)) : Ev (tDIn ty td) σ H (.bl (valV kvs k).isSome) := fun H1 e Q q => hk H1 e _ fun H2 e2 => hd H2 (e.trans e2) _ fun H3 e3 => ⟨a, valV kvs k, rfl, .inl ⟨kvs, k, .inl (((e.trans e2).trans e3) _ _ h), rfl, rfl⟩, q H3 (e2.trans e3)⟩
theorem ev_dni {ty td : TE} {kvs : List (Key × V)} {k : Key} (hk : Ev ty σ H (kV k)) (hd : Ev td σ H (.ref a)) (h : H a = some (.dK kvs)) : Ev (tDNotIn ty td) σ H (.bl (!(valV kvs k).isSome)) := fun H1 e Q q => hk H1 e _ fun H2 e2 => hd H2 (e.trans e2) _ fun H3 e3 => ⟨a, valV kvs k, rfl, .inl ⟨kvs, k, .inl (((e.trans e2).trans e3) _ _ h), rfl, rfl⟩, q H3 (e2.trans e3)⟩
theorem qe_fld {C dx : Addr} {fs : List (Str × V)} {f : Str} (k : Nat) (hk : l[k]? = some (Pt a (.ins C dx fs))) (hA : At B l H) (hv : Ev tb σ H y) (ho : ∀ H1, Ev ta σ H1 (.ref a)) (c : Cls K C) (n : NoAttr K C f) (hl : fs.length < 1000) (g : ∀ H1, At B (l.set k (Pt a (.ins C dx (putF f y fs)))) H1 → tz D σ H1) : tSeq (sFld K ta tb f) tz D σ H :=
  hv H (Ex.refl H) _ fun H1 e1 => ho H1 H1 (Ex.refl H1) _ fun H2 e2 => ⟨a, C, dx, fs, rfl, at_get k hk (at_ex hA (e1.trans e2)), c, n, hl, g _ (at_upd k hk (at_ex hA (e1.trans e2)))⟩
theorem se_fld {C dx : Addr} {fs : List (Str × V)} {f : Str} (k : Nat) (hk : l[k]? = some (Pt a (.ins C dx fs))) (hA : At B l H) (hv : Ev tb σ H y) (ho : ∀ H1, Ev ta σ H1 (.ref a)) (c : Cls K C) (n : NoAttr K C f) (hl : fs.length < 1000) (g : ∀ H1, At B (l.set k (Pt a (.ins C dx (putF f y fs)))) H1 → D.nx σ H1) : sFld K ta tb f D σ H :=
  hv H (Ex.refl H) _ fun H1 e1 => ho H1 H1 (Ex.refl H1) _ fun H2 e2 => ⟨a, C, dx, fs, rfl, at_get k hk (at_ex hA (e1.trans e2)), c, n, hl, g _ (at_upd k hk (at_ex hA (e1.trans e2)))⟩
/-- o.f = {} -/
theorem qe_fldD {C dx : Addr} {fs : List (Str × V)} {f : Str} (k : Nat) (hk : l[k]? = some (Pt a (.ins C dx fs))) (hA : At B l H) (ho : ∀ H1, Ev ta σ H1 (.ref a)) (c : Cls K C) (n : NoAttr K C f) (hl : fs.length < 1000) (g : ∀ p H1, At B (Pt p (.dK []) :: l.set k (Pt a (.ins C dx (putF f (.ref p) fs)))) H1 → tz D σ H1) : tSeq (sFld K ta tDNewK f) tz D σ H := fun p hp =>
  have hA1 := at_new hA hp (Ex.new hp) upd_same
  ho _ _ (Ex.refl _) _ fun H2 e2 => ⟨a, C, dx, fs, rfl, at_get (k + 1) (by simpa using hk) (at_ex hA1 e2), c, n, hl, g p _ (by
    have h := at_upd (u := .ins C dx (putF f (.ref p) fs)) (k + 1) (by simpa using hk) (at_ex hA1 e2)
    simpa using h)⟩
theorem se_fldD {C dx : Addr} {fs : List (Str × V)} {f : Str} (k : Nat) (hk : l[k]? = some (Pt a (.ins C dx fs))) (hA : At B l H) (ho : ∀ H1, Ev ta σ H1 (.ref a)) (c : Cls K C) (n : NoAttr K C f) (hl : fs.length < 1000) (g : ∀ p H1, At B (Pt p (.dK []) :: l.set k (Pt a (.ins C dx (putF f (.ref p) fs)))) H1 → D.nx σ H1) : sFld K ta tDNewK f D σ H :=
  qe_fldD (tz := fun D => D.nx) k hk hA ho c n hl g
/-- C(..) -/
theorem make_at {C : Addr} {sp : Sp} {E : XK} {ta : TA} {vs : List V} {Q : VK} (hA : At B l H) (h : EvA ta σ H vs) (k : ∀ x dx H1, At B (Pt x (.ins C dx []) :: l) H1 → sp (.ref x :: (vs ++ [])) H1 (fun v H2 => v = .non ∧ Q (.ref x) H2) E) : tMake C sp [] E ta σ H Q := h H (Ex.refl H) _ fun H1 e1 x dx nx ndx ne => by
  have h1 := at_new (at_ex hA e1) ndx (Ex.new ndx) (upd_same (o := .own x))
  have nx' : upd H1 dx (.own x) x = none := by rw [upd_ne (Ne.symm ne)]; exact nx
  have h2 := at_new h1 nx' (Ex.new nx') (upd_same (o := .ins C dx []))
  exact k x dx _ (at_drop (at_swap h2))
end
mutual
theorem dp_dx {K : PySem.W.Frag} {H : Hp} : ∀ (d : PyData) (v : V), Dp K H v d → Dx K H v d
  | .none, _, h => by cases h; exact .non
  | .bool b, _, h => by cases h; exact .bl b
  | .int i, _, h => by cases h; exact .int i
  | .str x, _, h => by cases h; exact .str x
  | .list ds, _, h => by
    cases h with
    | lst hs ha => exact .lst hs (dpa_dxa ds _ ha)
  | .tuple ds, _, h => by
    cases h with
    | tup hs ha => exact .tup hs (dpa_dxa ds _ ha)
  | .dict _, _, h => by cases h
theorem dpa_dxa {K : PySem.W.Frag} {H : Hp} : ∀ (ds : List PyData) (vs : List V), DpAll K H vs ds → DxAll K H vs ds
  | [], _, h => by cases h; exact .nil
  | d :: ds, _, h => by
    cases h with
    | cons h1 h2 => exact .cons (dp_dx d _ h1) (dpa_dxa ds _ h2)
end
def isLst : PyData → Bool
  | .list _ => true
  | _ => false
theorem kit_lst : ∀ d : PyData, kitB (tyN d) "list" = some (isLst d)
  | .none => (by decide +kernel : kitB "NoneType" "list" = some false)
  | .bool _ => (by decide +kernel : kitB "bool" "list" = some false)
  | .int _ => (by decide +kernel : kitB "int" "list" = some false)
  | .str _ => (by decide +kernel : kitB "str" "list" = some false)
  | .list _ => (by decide +kernel : kitB "list" "list" = some true)
  | .tuple _ => (by decide +kernel : kitB "tuple" "list" = some false)
  | .dict _ => (by decide +kernel : kitB "dict" "list" = some false)
theorem kitAny2 {K : PySem.W.Frag} {X T1 T2 : String} {b1 b2 : Bool} (h1 : kitB X T1 = some b1) (h2 : kitB X T2 = some b2) : PySem.W.kitAny K (.type X) [.type T1, .type T2] = some (b1 || b2) := by
  refine kitAny_cons (kit_ty h1) (fun e => ?_) (fun e => by rw [e]; rfl)
  rw [e, Bool.false_or]
  exact kitAny_cons (kit_ty h2) (fun e => by rw [e]; exact kitAny_nil) (fun e => e)
section
variable {K : PySem.W.Frag} {σ : L2.St} {H : Hp} {te ta tb : TE} {d : PyData} {ds : List PyData} {T T1 T2 : String} {b b1 b2 : Bool}
/-- isinstance(x, (T1, T2)) -/
theorem ev_isiT2 (h : EvX K te σ H d) (h1 : kitB (tyN d) T1 = some b1) (h2 : kitB (tyN d) T2 = some b2) : Ev (tCB (rIsiT K) (tCons te (tCons (tTup (tCons (tC (.ty T1)) (tCons (tC (.ty T2)) tNil))) tNil))) σ H (.bl (b1 || b2)) := fun H1 e Q q => h H1 e _ fun v H2 e2 hv => ⟨sz_of (by decide : 2 ≤ 100000), fun p hp =>
  ⟨v, p, [.ty T1, .ty T2], .type (tyN d), [.type T1, .type T2], b1 || b2, rfl, upd_same, .cons (.ty T1) (.cons (.ty T2) .nil), tyx_dx (dx_mono ((ov_ex e e2).trans (Ex.new hp)) d v hv), kitAny2 h1 h2, q _ (e2.trans (Ex.new hp))⟩⟩
theorem ev_lenX2 (h : d = .list ds ∨ d = .tuple ds) (ha : EvX K ta σ H d) : Ev (tCB (fun xs H Q => ∃ p ys, xs = [.ref p] ∧ (SqL K H p ys ∨ SqT K H p ys) ∧ Q (.int ys.length) H) (tCons ta tNil)) σ H (.int (ds.length : Int)) := by
  rcases h with rfl | rfl
  · exact ev_lenX ha
  · exact ev_lenXT ha
theorem ex_ix2 {i : Int} {e : PyData} (h : d = .list ds ∨ d = .tuple ds) (ha : EvX K ta σ H d) (hb : Ev tb σ H (.int i)) (hi : atI ds i = some e) : EvX K (tOp (rIx K) ta tb) σ H e := fun H1 e1 Q q =>
  ha H1 e1 _ fun v H2 e2 hv => hb H2 (e1.trans e2) _ fun H3 e3 => by
    rcases h with rfl | rfl
    · cases hv with
      | lst hs hd =>
        obtain ⟨j, hj, hx⟩ := atI_len (dxa_len hd) hi
        obtain ⟨x, ex, dx⟩ := dxa_at hd hj
        exact .inl ⟨_, _, i, x, rfl, rfl, Evl.ex_l ((ov_ex e1 e2).trans e3) hs, hx x ex, q x H3 (e2.trans e3) (dx_mono (ov_grow e3) _ x dx)⟩
    · cases hv with
      | tup hs hd =>
        obtain ⟨j, hj, hx⟩ := atI_len (dxa_len hd) hi
        obtain ⟨x, ex, dx⟩ := dxa_at hd hj
        exact .inr (.inl ⟨_, _, i, x, rfl, rfl, ex_t ((ov_ex e1 e2).trans e3) hs, hx x ex, q x H3 (e2.trans e3) (dx_mono (ov_grow e3) _ x dx)⟩)
/-- a call on data: its arguments known as data alone -/
theorem ev_callD {sp : Sp} {E : XK} {ta : TA} {x : V} (h : EvXs K ta σ H ds) (hs : ∀ vs H1, Ex H H1 → DxAll K H1 vs ds → ∀ Q : VK, (∀ H2, Ex H1 H2 → Q x H2) → sp (vs ++ []) H1 Q E) : Ev (tCall sp [] E ta) σ H x := fun H1 e Q q => h H1 e _ fun vs H2 e2 hv => hs vs H2 (e.trans e2) (dxa_mono (ov_ex e e2) _ _ hv) Q fun H3 e3 => q H3 (e2.trans e3)
end
/-- bounded, and no dict within -/
inductive Okn : Nat → PyData → Prop
  | non {n : Nat} : Okn n .none
  | bl {n : Nat} (b : Bool) : Okn n (.bool b)
  | int {n : Nat} (i : Int) : Okn n (.int i)
  | str {n : Nat} (x : Str) : Okn n (.str x)
  | lst {n : Nat} {ds : List PyData} (h : ds.length ≤ 50000) (hs : ∀ d, d ∈ ds → Okn n d) : Okn (n + 1) (.list ds)
  | tup {n : Nat} {ds : List PyData} (h : ds.length ≤ 50000) (hs : ∀ d, d ∈ ds → Okn n d) : Okn (n + 1) (.tuple ds)
theorem Okn.mono {n m : Nat} {d : PyData} (h : Okn n d) : n ≤ m → Okn m d := by
  induction h generalizing m with
  | non => exact fun _ => .non
  | bl b => exact fun _ => .bl b
  | int i => exact fun _ => .int i
  | str x => exact fun _ => .str x
  | lst h hs ih =>
    intro hl
    obtain ⟨k, rfl⟩ : ∃ k, m = k + 1 := ⟨m - 1, by omega⟩
    exact .lst h fun d hd => ih d hd (by omega)
  | tup h hs ih =>
    intro hl
    obtain ⟨k, rfl⟩ : ∃ k, m = k + 1 := ⟨m - 1, by omega⟩
    exact .tup h fun d hd => ih d hd (by omega)
theorem okn_nil {n : Nat} : ∀ d, d ∈ ([] : List PyData) → Okn n d := fun _ h => nomatch h
theorem okn_cons {n : Nat} {e : PyData} {ds : List PyData} (h : Okn n e) (hs : ∀ d, d ∈ ds → Okn n d) : ∀ d, d ∈ e :: ds → Okn n d := fun d hd => by
  rcases List.mem_cons.mp hd with rfl | hd
  · exact h
  · exact hs d hd
def spSame (K : PySem.W.Frag) (n : Nat) : Sp := fun vs H Q _ => ∃ (x y : V) (d : PyData), vs = [x, y] ∧ Dx K H x d ∧ Dx K H y d ∧ Okn n d ∧ RetV (.bl true) H Q
theorem spSame_v {K : PySem.W.Frag} {n : Nat} {H : Hp} {x y : V} {d : PyData} (hx : Dx K H x d) (hy : Dx K H y d) (ok : Okn n d) : SpV (spSame K n) [x, y] H (.bl true) := fun H1 e Q q _ => ⟨x, y, d, rfl, dx_mono e _ _ hx, dx_mono e _ _ hy, ok, fun H2 e2 => q H2 e2⟩
theorem et_isN {σ : L2.St} {H : Hp} {ta : TE} {x : V} (h : Ev ta σ H x) : EvT (tTest (tOp (fun x y H Q => y = .non ∧ Q (.bl (decide (x = .non))) H) ta (tC .non))) σ H (decide (x = .non)) := et_test (ev_op h ev_c (fun G _ _ q => ⟨rfl, q G (Ex.refl G)⟩))
theorem ev_isN {σ : L2.St} {H : Hp} {ta : TE} {x : V} (h : Ev ta σ H x) : Ev (tOp (fun x y H Q => y = .non ∧ Q (.bl (decide (x = .non))) H) ta (tC .non)) σ H (.bl (decide (x = .non))) := ev_op h ev_c (fun G _ _ q => ⟨rfl, q G (Ex.refl G)⟩)
theorem rv_eqT {H : Hp} {x : V} (h : scal x x = true) : RV rEq x x H (.bl true) := by
  have := rv_eq (H := H) h
  rwa [decide_eq_true rfl] at this
/-! ### dicts whose keys are integers -/
def dI {α : Type} (kf : α → Int) (vf : α → V) (os : List α) : List (Key × V) := os.map fun o => (Sum.inl (kf o), vf o)
section
variable {α : Type} {kf : α → Int} {vf : α → V} {os : List α} {i : Nat} {o o' : α} {t : Int}
theorem dI_len : (dI kf vf os).length = os.length := List.length_map _
theorem dI_app {a b : List α} : dI kf vf (a ++ b) = dI kf vf a ++ dI kf vf b := List.map_append
theorem dI_keys : (dI kf vf os).map (·.1) = (os.map kf).map Sum.inl := by
  unfold dI
  rw [List.map_map, List.map_map]
  rfl
theorem dI_none : ∀ {os : List α}, (∀ o ∈ os, kf o ≠ t) → valV (dI kf vf os) (Sum.inl t) = none
  | [], _ => rfl
  | o :: r, h => by
    show valV ((Sum.inl (kf o), vf o) :: dI kf vf r) (Sum.inl t : Key) = none
    rw [valV_neg (fun e => h o List.mem_cons_self (Sum.inl.inj e))]
    exact dI_none fun p hp => h p (List.mem_cons_of_mem _ hp)
theorem dI_put (h : ∀ o ∈ os, kf o ≠ kf o') : putK (dI kf vf os) (Sum.inl (kf o')) (vf o') = dI kf vf (os ++ [o']) := (putK_new _ (dI_none h)).trans (dI_app (kf := kf) (vf := vf) (a := os) (b := [o'])).symm
theorem nd_ne {p : α} {r : List α} (nd : ((p :: r).map kf).Nodup) (h : r[i]? = some o) : ¬ (Sum.inl (kf p) : Key) = Sum.inl (kf o) := fun e => (List.nodup_cons.mp nd).1 (by
  rw [Sum.inl.inj e]
  exact List.mem_map.mpr ⟨o, List.mem_of_getElem? h, rfl⟩)
theorem dI_some : ∀ {os : List α} {i : Nat}, (os.map kf).Nodup → os[i]? = some o → valV (dI kf vf os) (Sum.inl (kf o)) = some (vf o)
  | [], i, _, h => by simp at h
  | p :: r, 0, _, h => by
    have e : p = o := by simpa using h
    subst e
    exact valV_pos (p := ((Sum.inl (kf p) : Key), vf p)) rfl
  | p :: r, i + 1, nd, h => by
    have h' : r[i]? = some o := by simpa using h
    show valV ((Sum.inl (kf p), vf p) :: dI kf vf r) (Sum.inl (kf o) : Key) = _
    rw [valV_neg (nd_ne nd h')]
    exact dI_some (List.nodup_cons.mp nd).2 h'
theorem dI_drop : ∀ {os : List α} {i : Nat}, (os.map kf).Nodup → os[i]? = some o → dropK (dI kf vf os) (Sum.inl (kf o)) = dI kf vf (os.eraseIdx i)
  | [], i, _, h => by simp at h
  | p :: r, 0, nd, h => by
    have e : p = o := by simpa using h
    subst e
    show dropK ((Sum.inl (kf p), vf p) :: dI kf vf r) (Sum.inl (kf p) : Key) = dI kf vf r
    rw [dropK_pos (κ := Key) (p := ((Sum.inl (kf p) : Key), vf p)) rfl]
    refine dropK_no fun hm => (List.nodup_cons.mp nd).1 ?_
    rw [dI_keys] at hm
    obtain ⟨y, hy, e⟩ := List.mem_map.mp hm
    rwa [Sum.inl.inj e] at hy
  | p :: r, i + 1, nd, h => by
    have h' : r[i]? = some o := by simpa using h
    show dropK ((Sum.inl (kf p), vf p) :: dI kf vf r) (Sum.inl (kf o) : Key) = (Sum.inl (kf p), vf p) :: dI kf vf (r.eraseIdx i)
    rw [dropK_neg (κ := Key) (p := ((Sum.inl (kf p) : Key), vf p)) (nd_ne nd h'), dI_drop (List.nodup_cons.mp nd).2 h']
theorem dI_set (nd : (os.map kf).Nodup) (h : os[i]? = some o) (hk : kf o' = kf o) : putK (dI kf vf os) (Sum.inl (kf o)) (vf o') = dI kf vf (os.set i o') := by
  unfold putK
  rw [valV_any, dI_some nd h, if_pos (by rfl)]
  induction os generalizing i with
  | nil => simp at h
  | cons p r ih =>
    have hn := List.nodup_cons.mp nd
    cases i with
    | zero =>
      have e : p = o := by simpa using h
      subst e
      show (if (Sum.inl (kf p) : Key) = Sum.inl (kf p) then (Sum.inl (kf p), vf o') else (Sum.inl (kf p), vf p)) :: (dI kf vf r).map _ = (Sum.inl (kf o'), vf o') :: dI kf vf r
      rw [if_pos rfl, hk]
      congr 1
      have hid : ∀ x ∈ dI kf vf r, (fun kv : Key × V => if kv.1 = Sum.inl (kf p) then (kv.1, vf o') else kv) x = x := fun x hx => by
        obtain ⟨y, hy, rfl⟩ := List.mem_map.mp hx
        refine if_neg fun e => hn.1 ?_
        rw [← Sum.inl.inj e]
        exact List.mem_map.mpr ⟨y, hy, rfl⟩
      rw [List.map_congr_left hid, List.map_id']
    | succ i =>
      have h' : r[i]? = some o := by simpa using h
      show (if (Sum.inl (kf p) : Key) = Sum.inl (kf o) then (Sum.inl (kf p), vf o') else (Sum.inl (kf p), vf p)) :: (dI kf vf r).map _ = (Sum.inl (kf p), vf p) :: dI kf vf (r.set i o')
      rw [if_neg (nd_ne nd h')]
      congr 1
      exact ih hn.2 h'
end
section
variable {K : PySem.W.Frag} {σ : L2.St} {B H : Hp} {l : List MP} {ta td ty tv : TE} {x y v : V} {R : Rr} {a : Addr} {D : Ends} {tz : TS}
/-- o.f += e -/
theorem qe_faug {C dx : Addr} {fs : List (Str × V)} {f : Str} {i j : Int} (k : Nat) (hk : l[k]? = some (Pt a (.ins C dx fs))) (hA : At B l H) (ho : Ev ta σ H (.ref a)) (hv : ∀ H1, Ev tv σ H1 (.int j)) (c : Cls K C) (n : NoAttr K C f) (hf : fs.lookup f = some (.int i)) (hl : fs.length < 1000)
    (g : ∀ H1, At B (l.set k (Pt a (.ins C dx (putF f (.int (i + j)) fs)))) H1 → tz D σ H1) : tSeq (sFldAug K ta tv rAdd f) tz D σ H :=
  ho H (Ex.refl H) _ fun H1 e1 => ⟨a, C, dx, fs, .int i, rfl, at_get k hk (at_ex hA e1), c, n, hf, hv H1 H1 (Ex.refl H1) _ fun H2 e2 => ⟨i, j, rfl, rfl, dx, fs, at_get k hk (at_ex hA (e1.trans e2)), hl, g _ (at_upd k hk (at_ex hA (e1.trans e2)))⟩⟩
/-- d[k] = e -/
theorem qw_put {kvs : List (Key × V)} {key : Key} (k : Nat) (hk : l[k]? = some (Pt a (.dK kvs))) (hA : At B l H) (hv : Wv tv σ B l R) (hd : ∀ B1 H1, Ex B B1 → At B1 l H1 → Ev td σ H1 (.ref a)) (hy : ∀ B1 H1, Ex B B1 → At B1 l H1 → Ev ty σ H1 (kV key)) (hz : kvs.length < 100000)
    (g : ∀ v B1 H1, Ex B B1 → R.r v B1 → At B1 (l.set k (Pt a (.dK (putK kvs key v)))) H1 → tz D σ H1) : tSeq (sDPut td ty tv) tz D σ H :=
  hv B H (Ex.refl B) hA _ fun v B1 H1 b1 hA1 hr => hd B1 H1 b1 hA1 H1 (Ex.refl H1) _ fun H2 e2 => hy B1 H2 b1 (at_ex hA1 e2) H2 (Ex.refl H2) _ fun H3 e3 => ⟨a, _, rfl, DPut.k (at_get k hk (at_ex hA1 (e2.trans e3))) (sz_lt hz), g v B1 _ b1 hr (at_upd k hk (at_ex hA1 (e2.trans e3)))⟩
/-- d[k] = a new list -/
theorem qe_putL {kvs : List (Key × V)} {key : Key} {xs : List V} (k : Nat) (hk : l[k]? = some (Pt a (.dK kvs))) (hA : At B l H) (hv : EvL tv σ H xs) (hd : ∀ p H1, At B (Pt p (.lst xs) :: l) H1 → Ev td σ H1 (.ref a)) (hy : ∀ p H1, At B (Pt p (.lst xs) :: l) H1 → Ev ty σ H1 (kV key)) (hz : kvs.length < 100000)
    (g : ∀ p H1, At B (Pt p (.lst xs) :: l.set k (Pt a (.dK (putK kvs key (.ref p))))) H1 → tz D σ H1) : tSeq (sDPut td ty tv) tz D σ H :=
  hv H (Ex.refl H) _ fun p H1 np e1 hp => by
    have hA1 := at_new hA np e1 hp
    refine hd p H1 hA1 H1 (Ex.refl H1) _ fun H2 e2 => hy p H2 (at_ex hA1 e2) H2 (Ex.refl H2) _ fun H3 e3 => ?_
    have hA3 := at_ex hA1 (e2.trans e3)
    refine ⟨a, _, rfl, DPut.k (at_get (k + 1) (by simpa using hk) hA3) (sz_lt hz), g p _ ?_⟩
    have h := at_upd (u := .dK (putK kvs key (.ref p))) (k + 1) (by simpa using hk) hA3
    simpa using h
/-- del d[k] -/
theorem qe_ddel {kvs : List (Key × V)} {key : Key} (k : Nat) (hk : l[k]? = some (Pt a (.dK kvs))) (hA : At B l H) (hd : Ev td σ H (.ref a)) (hy : ∀ H1, Ev ty σ H1 (kV key)) (hs : valV kvs key = some v)
    (g : ∀ H1, At B (l.set k (Pt a (.dK (dropK kvs key)))) H1 → tz D σ H1) : tSeq (sDDel td ty) tz D σ H :=
  hd H (Ex.refl H) _ fun H1 e1 => hy H1 H1 (Ex.refl H1) _ fun H2 e2 => ⟨a, kvs, key, rfl, at_get k hk (at_ex hA (e1.trans e2)), rfl, by rw [hs]; rfl, g _ (at_upd k hk (at_ex hA (e1.trans e2)))⟩
/-- return d.pop(k) -/
theorem se_retpop {kvs : List (Key × V)} {key : Key} (k : Nat) (hk : l[k]? = some (Pt a (.dK kvs))) (hA : At B l H) (hd : Ev td σ H (.ref a)) (hy : ∀ H1, Ev ty σ H1 (kV key)) (hs : valV kvs key = some v)
    (g : ∀ H1, At B (l.set k (Pt a (.dK (dropK kvs key)))) H1 → D.rt v H1) : tRet (tDPop1 td ty) D σ H :=
  hd H (Ex.refl H) _ fun H1 e1 => ⟨a, rfl, .inl ⟨kvs, .inl (at_get k hk (at_ex hA e1))⟩, hy H1 H1 (Ex.refl H1) _ fun H2 e2 => ⟨kvs, key, v, at_get k hk (at_ex hA (e1.trans e2)), rfl, hs, g _ (at_upd k hk (at_ex hA (e1.trans e2)))⟩⟩
end
theorem List.set_getElem?_self' {α : Type} : ∀ {l : List α} {i : Nat} {x : α}, l[i]? = some x → l.set i x = l
  | [], _, _, _ => rfl
  | y :: r, 0, x, h => by
    have e : y = x := by simpa using h
    rw [e, List.set_cons_zero]
  | y :: r, i + 1, x, h => by rw [List.set_cons_succ, List.set_getElem?_self' (by simpa using h)]
theorem perm_sorted : ∀ {xs ys : List Int}, xs.Perm ys → xs.Pairwise (· ≤ ·) → ys.Pairwise (· ≤ ·) → xs = ys
  | [], ys, p, _, _ => (List.nil_perm.mp p).symm ▸ rfl
  | x :: r, ys, p, hx, hy => by
    cases ys with
    | nil => exact absurd p.length_eq (by simp)
    | cons y t =>
      have h1 := List.pairwise_cons.mp hx
      have h2 := List.pairwise_cons.mp hy
      have e : x = y := by
        have m1 : x ∈ y :: t := p.subset List.mem_cons_self
        have m2 : y ∈ x :: r := p.symm.subset List.mem_cons_self
        rcases List.mem_cons.mp m1 with q | q
        · exact q
        · rcases List.mem_cons.mp m2 with q2 | q2
          · exact q2.symm
          · have := h1.1 y q2
            have := h2.1 x q
            omega
      subst e
      rw [perm_sorted (List.Perm.cons_inv p) h1.2 h2.2]
section
variable {K : PySem.W.Frag} {σ : L2.St} {B H : Hp} {l : List MP} {ta td te tl : TE} {t : TT} {x y v : V} {R : Rr} {a : Addr} {D : Ends} {tz tu : TS} {ds : List PyData}
/-- sorted(d), the keys of d ascending already -/
theorem el_sortedD {kvs : List (Key × V)} {ks : List Int} (hd : Ev td σ H (.ref a)) (h : H a = some (.dK kvs)) (hk : kvs.map (·.1) = ks.map Sum.inl) (h64 : ks.length < 64) (hs : ks.Pairwise (· ≤ ·)) :
    EvL (tCB (fun xs H Q => ∃ (a : Addr) (kvs : List (Key × V)) (ks : List Int), xs = [.ref a] ∧ Rd H a (.dK kvs) ∧ kvs.map (·.1) = ks.map Sum.inl ∧ ks.length < 64 ∧ ∀ (ys : List Int) (p : Addr), ys.Perm ks → ys.Pairwise (· ≤ ·) → H p = none → Q (.ref p) (upd H p (.lst (ys.map V.int)))) (tCons td tNil)) σ H (ks.map V.int) := fun H1 e Q q =>
  hd H1 e _ fun H2 e2 => ⟨a, kvs, ks, rfl, .inl ((e.trans e2) _ _ h), hk, h64, fun ys p hp hso np => by
    rw [perm_sorted hp hso hs]
    exact q p _ (fresh_back e2 np) (e2.trans (Ex.new np)) upd_same⟩
/-- for x in a new list -/
theorem qe_forNL {xs : List V} {j : Nat} (hA : At B l H) (h : EvL tl σ H xs) (Pv : Addr → Nat → L2.St → Hp → Prop) (h0 : ∀ p H1, At B (Pt p (.lst xs) :: l) H1 → Pv p 0 σ H1) (hl : ∀ p i σ' H', i ≤ xs.length → Pv p i σ' H' → H' p = some (.lst xs))
    (hs : ∀ p i x σ' H', xs[i]? = some x → Pv p i σ' H' → tu { D with nx := Pv p (i + 1), ct := Pv p (i + 1), bk := tz D } (σ'.set j (some x)) H') (hd : ∀ p σ' H', Pv p xs.length σ' H' → tz D σ' H') : tSeq (tFor (iList K tl) (gName j) tu) tz D σ H :=
  q_forNLn h Pv (fun p H1 np e hp => h0 p H1 (at_new hA np e hp)) (fun p i σ' H' hi hp => sq_of (hl p i σ' H' hi hp)) hs hd
/-- [e for j in range(n) if t], its items data -/
theorem wl_lcR1 {tr : TA} {j : Nat} {vs : List Nat} {n : Int} (f : Nat → Bool) (g : Nat → PyData) (hn : 0 ≤ n ∧ n ≤ 40000) (h : ∀ B1 H, Ex B B1 → At B1 l H → EvA tr σ H [.int n]) (hw : ∀ x, wipe ((wipe σ vs).set j (some x)) vs = wipe σ vs)
    (ht : ∀ i : Nat, (i : Int) < n → ∀ B1 H p xs, Ex B B1 → At B1 (Pt p (.lst xs) :: l) H → EvT t ((wipe σ vs).set j (some (.int (i : Int)))) H (f i)) (he : ∀ i : Nat, (i : Int) < n → f i = true → ∀ p xs, Wv te ((wipe σ vs).set j (some (.int (i : Int)))) B (Pt p (.lst xs) :: l) (rD K (g i))) :
    Wl K (tLc (iRng1 tr) (gName j) t te vs) σ B l (givenD n.toNat f g) := fun B1 H0 e0 hA Q q => h B1 H0 e0 hA H0 (Ex.refl H0) _ fun H1 e1 => ⟨n, rfl, by omega, by omega, fun Dl hD =>
  lc_range (lo := 0) (n := n.toNat) (fun i H' => ∃ B' acc, Ex B1 B' ∧ At B' (Pt Dl (.lst acc) :: l) H' ∧ DpAll K B' acc (givenD i f g)) ⟨B1, [], Ex.refl B1, at_new (at_ex hA e1) hD (Ex.new hD) upd_same, .nil⟩ (fun i H' hi p => by
    have e0' : (0 : Int) + (i : Int) = (i : Int) := Int.zero_add _
    show wipe ((wipe σ vs).set j (some (.int ((0 : Int) + (i : Int))))) vs = wipe σ vs ∧ t ((wipe σ vs).set j (some (.int ((0 : Int) + (i : Int))))) H' fun b H3 => if b = true then te ((wipe σ vs).set j (some (.int ((0 : Int) + (i : Int))))) H3 fun y H4 => ∃ acc, H4 Dl = some (.lst acc) ∧ acc.length < sizeLine ∧ (∃ B' acc', Ex B1 B' ∧ At B' (Pt Dl (.lst acc') :: l) (upd H4 Dl (.lst (acc ++ [y]))) ∧ DpAll K B' acc' (givenD (i + 1) f g)) else ∃ B' acc, Ex B1 B' ∧ At B' (Pt Dl (.lst acc) :: l) H3 ∧ DpAll K B' acc (givenD (i + 1) f g)
    rw [e0']
    obtain ⟨B', acc, b1, hA', hd⟩ := p
    refine ⟨hw _, ht i (by omega) B' H' Dl acc (e0.trans b1) hA' H' (Ex.refl H') _ fun H3 e3 => ?_⟩
    have hA3 := at_ex hA' e3
    cases hf : f i with
    | true =>
      rw [if_pos rfl]
      refine he i (by omega) hf Dl acc B' H3 (e0.trans b1) hA3 _ fun y B4 H4 e4 hA4 hy => ⟨acc, at_get 0 rfl hA4, sz_lt (by rw [dpa_len hd]; have := givenD_len i f g; omega), B4, acc ++ [y], b1.trans e4, at_upd (u := .lst (acc ++ [y])) 0 rfl hA4, ?_⟩
      rw [givenD_yes hf]
      exact dpa_app (dpa_mono e4 _ _ hd) (dpa_one hy)
    | false =>
      rw [if_neg (by decide)]
      refine ⟨B', acc, b1, hA3, ?_⟩
      rw [givenD_no hf]
      exact hd) (fun H' p => by
    obtain ⟨B', acc, b1, hA', hd⟩ := p
    exact q Dl acc B' H' b1 hA' hd)⟩
/-- l.extend(a new list of data) -/
theorem sw_ext {q : Addr} {xs : List V} (k : Nat) (hk : l[k]? = some (Pt q (.lst xs))) (hA : At B l H) (ha : ∀ H1, Ev ta σ H1 (.ref q)) (h : Wl K te σ B l ds) (hz : xs.length + ds.length ≤ 100000) (c : ∀ p zs B1 H1, Ex B B1 → DpAll K B1 zs ds → At B1 (Pt p (.lst zs) :: l.set k (Pt q (.lst (xs ++ zs)))) H1 → D.nx σ H1) :
    tDrop (tBM K "list" rExtend ta (tCons te tNil)) D σ H :=
  ha H H (Ex.refl H) _ fun H1 e1 => ⟨.inl ⟨rfl, xs, sq_of (at_get k hk (at_ex hA e1))⟩, h B H1 (Ex.refl B) (at_ex hA e1) _ fun p zs B2 H2 e2 hA2 hv => ⟨q, p, xs, zs, rfl, rfl, at_get (k + 1) (by simpa using hk) hA2, at_get 0 rfl hA2, sz_of (by rw [dpa_len hv]; exact hz), c p zs B2 _ e2 hv (by
    have h := at_upd (u := .lst (xs ++ zs)) (k + 1) (by simpa using hk) hA2
    simpa using h)⟩⟩
end
section
variable {K : PySem.W.Frag} {σ : L2.St} {B H : Hp} {l : List MP} {ta tb te : TE} {D : Ends} {tz tu : TS} {d : PyData} {ds : List PyData} {n : Nat}
/-- if not same(a, b): .. -/
theorem q_same {tr : TA} {E : XK} {C : Hp → Prop} (hC : ∀ H H', Ex H H' → C H → C H') (h : ∀ Q : List V → Hp → Prop, (∀ x y d H1, Dx K H1 x d → Dx K H1 y d → Okn n d → C H1 → Q [x, y] H1) → tr σ H Q) (k : ∀ H1, C H1 → tz D σ H1) :
    tSeq (tIfS (tNot (tB (tCall (spSame K n) [] E tr))) tu tNext) tz D σ H := h _ fun x y d H1 hx hy ok hc => ⟨x, y, d, rfl, hx, hy, ok, fun H2 e2 => ⟨true, rfl, by
  show tz D σ H2
  exact k H2 (hC H1 H2 e2 hc)⟩⟩
theorem s_same {tr : TA} {E : XK} {C : Hp → Prop} (hC : ∀ H H', Ex H H' → C H → C H') (h : ∀ Q : List V → Hp → Prop, (∀ x y d H1, Dx K H1 x d → Dx K H1 y d → Okn n d → C H1 → Q [x, y] H1) → tr σ H Q) (k : ∀ H1, C H1 → D.nx σ H1) :
    tIfS (tNot (tB (tCall (spSame K n) [] E tr))) tu tNext D σ H := q_same (tz := fun D => D.nx) hC h k
theorem r_same {tr : TA} {E : XK} {C : Hp → Prop} (hC : ∀ H H', Ex H H' → C H → C H') (h : ∀ Q : List V → Hp → Prop, (∀ x y d H1, Dx K H1 x d → Dx K H1 y d → Okn n d → C H1 → Q [x, y] H1) → tr σ H Q) (k : ∀ H1, C H1 → D.rt (.bl true) H1) :
    tRet (tCall (spSame K n) [] E tr) D σ H := h _ fun x y d H1 hx hy ok hc => ⟨x, y, d, rfl, hx, hy, ok, fun H2 e2 => k H2 (hC H1 H2 e2 hc)⟩
/-- data of the base, seen in the heap of now -/
theorem at_dx (hA : At B l H) {v : V} (h : Dp K B v d) : Dx K H v d := dp_dx _ _ (dp_mono (at_base hA) _ _ h)
theorem at_dxL {p : Addr} {xs : List V} (i : Nat) (hi : l[i]? = some (Pt p (.lst xs))) (hA : At B l H) (h : DpAll K B xs ds) : Dx K H (.ref p) (.list ds) := .lst (sq_of (at_get i hi hA)) (dpa_dxa _ _ (dpa_mono (at_base hA) _ _ h))
theorem wv_ixT {i : Int} (hv : ∀ B1, Ex B B1 → EvD K ta σ B1 (.tuple ds)) (hb : ∀ H, Ev tb σ H (.int i)) (h : atI ds i = some d) : Wv (tOp (rIxT K) ta tb) σ B l (rD K d) := wv_ed fun B1 b1 => ed_ixT (hv B1 b1) (hb B1) h
end
theorem qe_make {σ : L2.St} {B H : Hp} {l : List MP} {D : Ends} {tz : TS} {C : Addr} {sp : Sp} {E : XK} {ta : TA} {vs : List V} {i : Nat} (hA : At B l H) (h : EvA ta σ H vs) (k : ∀ x dx H1, At B (Pt x (.ins C dx []) :: l) H1 → sp (.ref x :: (vs ++ [])) H1 (fun v H2 => v = .non ∧ tz D (σ.set i (some (.ref x))) H2) E) : tSeq (tAsg (tMake C sp [] E ta) (gName i)) tz D σ H :=
  make_at (Q := fun v H2 => tz D (σ.set i (some v)) H2) hA h k
/-- what an expression does, its value set to a name | dropped | tested -/
theorem q_do {σ : L2.St} {H : Hp} {D : Ends} {tz : TS} {te : TE} {i : Nat} (h : te σ H (fun v H' => tz D (σ.set i (some v)) H')) : tSeq (tAsg te (gName i)) tz D σ H := h
theorem s_do {σ : L2.St} {H : Hp} {D : Ends} {te : TE} {i : Nat} (h : te σ H (fun v H' => D.nx (σ.set i (some v)) H')) : tAsg te (gName i) D σ H := h
theorem q_doT {σ : L2.St} {H : Hp} {D : Ends} {tz tu tw : TS} {t : TT} (h : t σ H (fun b H' => if b = true then tu { D with nx := tz D } σ H' else tw { D with nx := tz D } σ H')) : tSeq (tIfS t tu tw) tz D σ H := h
section
variable {K : PySem.W.Frag} {σ : L2.St} {H : Hp} {te ta tb : TE} {tr : TA} {v : V} {D : Ends} {tz : TS} {E : XK} {sp : Sp} {r : R2}
theorem go_cons {Q : List V → Hp → Prop} (h : Ev te σ H v) (k : ∀ H1, Ex H H1 → tr σ H1 fun xs H2 => Q (v :: xs) H2) : tCons te tr σ H Q := h H (Ex.refl H) _ k
theorem go_cons' {Q : List V → Hp → Prop} (h : te σ H fun v H1 => tr σ H1 fun xs H2 => Q (v :: xs) H2) : tCons te tr σ H Q := h
theorem go_nil {Q : List V → Hp → Prop} (h : Q [] H) : tNil σ H Q := h
theorem go_lst {Q : VK} (h : tr σ H fun xs H1 => xs.length ≤ sizeLine ∧ ∀ p, H1 p = none → Q (.ref p) (upd H1 p (.lst xs))) : tLst tr σ H Q := h
theorem go_tup {Q : VK} (h : tr σ H fun xs H1 => xs.length ≤ sizeLine ∧ ∀ p, H1 p = none → Q (.ref p) (upd H1 p (.tup xs))) : tTup tr σ H Q := h
theorem go_call {Q : VK} (h : tr σ H fun vs H1 => sp (vs ++ []) H1 Q E) : tCall sp [] E tr σ H Q := h
theorem go_op {Q : VK} (h : ta σ H fun x H1 => tb σ H1 fun y H2 => r x y H2 Q) : tOp r ta tb σ H Q := h
theorem go_ev {Q : VK} (h : Ev te σ H v) (k : ∀ H1, Ex H H1 → Q v H1) : te σ H Q := h H (Ex.refl H) Q k
theorem q_drop0 (h : te σ H fun _ H1 => tz D σ H1) : tSeq (tDrop te) tz D σ H := h
theorem s_drop0 (h : te σ H fun _ H1 => D.nx σ H1) : tDrop te D σ H := h
theorem el_catR {b : Addr} {xs ys : List V} (ha : EvL ta σ H xs) (hb : Ev tb σ H (.ref b)) (h : H b = some (.lst ys)) (hl : xs.length + ys.length ≤ 100000) : EvL (tOp rCat ta tb) σ H (xs ++ ys) := fun H1 e Q q =>
  ha H1 e _ fun p H2 np e2 hp => hb H2 (e.trans e2) _ fun H3 e3 => ⟨p, b, xs, ys, rfl, rfl, e3 _ _ hp, ((e.trans e2).trans e3) _ _ h, sz_of hl, fun o ho => q o _ (fresh_back (e2.trans e3) ho) ((e2.trans e3).trans (Ex.new ho)) upd_same⟩
end
end Ap

set_option Elab.async false
set_option linter.all false
set_option maxRecDepth 100000
set_option maxHeartbeats 4000000
namespace Ap
open PySem PySem.Spec PyProof.Rows L2 Evl
def inB (c : Int) (x : Int) : Bool := decide (0 ≤ x) && decide (x < c)
def hmB (ns : List Int) (c : Int) : Bool := decide (((setSt (inB c) ns).2 : Int) ≥ c / 2 + 1)
theorem inV_int (x : Int) (ns : List Int) : inV (.int x) (ns.map V.int) = true ↔ x ∈ ns := by
  unfold inV
  rw [List.any_map, List.any_eq_true]
  constructor
  · rintro ⟨y, hy, e⟩
    have e : (y == x) = true := e
    exact (beq_iff_eq.mp e) ▸ hy
  · exact fun h => ⟨x, h, by show (x == x) = true; exact beq_self_eq_true x⟩
theorem flat_ints (ns : List Int) : (ns.map V.int).all flatV = true := by
  rw [List.all_map, List.all_eq_true]
  exact fun _ _ => rfl

local macro_rules | `(tactic| walk_at "sq") => `(tactic| first | assumption | (refine Evl.ex_l (by assumption) ?_; walk_at "sq"))
local macro_rules | `(tactic| walk_at "st") => `(tactic| first | assumption | (refine Evl.ex_t (by assumption) ?_; walk_at "st"))
local macro_rules | `(tactic| walk_at "ev") => `(tactic| (repeat' (first
  | (with_reducible first
    | exact ev_c
    | refine' ev_var ?_
    | exact ea_nil
    | refine' ea_cons ?_ ?_
    | refine' ev_op ?_ ?_ ?_
    | refine' ev_chain ?_ ?_ ?_ ?_ ?_
    | refine' ev_un ?_ ?_
    | exact rv_I0
    | refine' rv_I ?_
    | refine' ev_cb ?_ ?_
    | refine' ev_call ?_ ?_
    | exact rc_int
    | exact rc_max2
    | exact rc_min2
    | exact ru_neg
    | exact rc_isiI
    | exact rc_isiIB
    | exact rc_isiB
    | exact rc_isiBI
    | exact rv_eqI
    | exact rv_neI
    | refine' et_test ?_
    | refine' et_B ?_)
  | ((with_reducible show _ = _); rfl)
  | ((with_reducible show SqL _ _ _ _); walk_at "sq")
  | ((with_reducible show SqT _ _ _ _); walk_at "st")
  | ((with_reducible show CPow _ _); exact ⟨by decide, by decide, by decide⟩)
  | ((with_reducible show CDiv _ _); first | exact ⟨by decide, by decide⟩ | exact ⟨by omega, by omega⟩)
  | ((with_reducible show CMul _ _); first | exact .inr (by decide) | exact .inl (by decide) | exact .inr ⟨by omega, by omega⟩ | exact .inl ⟨by omega, by omega⟩)
  | ((with_reducible show SpV (spDraw _) _ _ _); refine' spDrawI ?_ ?_)
  | ((with_reducible show SpV _ _ _ _); walk_at "sp")
  | ((with_reducible show RC _ _ _ _); refine' rc_len ?_)
  | ((with_reducible show RV _ _ _ _ _); first | exact rv_eq rfl | exact rv_ne rfl)
  | ((with_reducible show _ ≤ _); first | decide | omega)
  | ((with_reducible show _ < _); first | decide | omega)
  | decide)))
local macro_rules | `(tactic| walk_at "bo") => `(tactic| first | rfl | exact decide_eq_true (by omega) | exact decide_eq_false (by omega) | (rw [decide_eq_true (by omega)]; done) | (rw [decide_eq_false (by omega)]; done) | (simp; omega) | (simp; done))
local macro_rules | `(tactic| walk_at "tf") => `(tactic| first
  | ((with_reducible refine' et_orF ?_ ?_) <;> walk_at "tf")
  | ((with_reducible refine' et_andT ?_ ?_) <;> walk_at "tf")
  | ((with_reducible refine' et_nt ?_) <;> walk_at "tf")
  | ((with_reducible refine' et_nf ?_) <;> walk_at "tf")
  | (refine' et_is ?c ?d; (case c => walk_at "ev"); (case d => walk_at "bo")))
local macro_rules | `(tactic| walk_at "vt") => `(tactic| first
  | ((with_reducible refine' ev_andT ?_ ?_) <;> walk_at "vt")
  | ((with_reducible refine' ev_orF ?_ ?_) <;> walk_at "vt")
  | ((with_reducible refine' ev_nt ?_) <;> walk_at "vt")
  | ((with_reducible refine' ev_nf ?_) <;> walk_at "vt")
  | (refine' ev_is ?c ?d; (case c => walk_at "ev"); (case d => first | rfl | (refine congrArg V.bl ?_; walk_at "bo"))))

def topS (i : Nat) : Stmt := PySem.Challenge.pw_appendhall_k51_reads_close_by_majority.main.body.getD i (.Pass ⟨0, 0, 0, 0⟩)
abbrev s_majority : Stmt := topS 1
abbrev N_majority : List Str := ["count"]
theorem sc_majority : FnScope N_majority ["count"] (defScope s_majority) := ⟨rfl, rfl, rfl, by decide +kernel, rfl, by decide +kernel, by decide +kernel⟩
abbrev s_has_majority : Stmt := topS 2
abbrev N_has_majority : List Str := ["members", "count", "member"]
theorem sc_has_majority : FnScope N_has_majority ["members", "count"] (defScope s_has_majority) := ⟨rfl, rfl, rfl, by decide +kernel, rfl, by decide +kernel, by decide +kernel⟩
abbrev s_Reads___init__ : Stmt := inClass (topS 4) 0
abbrev N_Reads___init__ : List Str := ["self", "journals"]
theorem sc_Reads___init__ : FnScope N_Reads___init__ ["self", "journals"] (defScope s_Reads___init__) := ⟨rfl, rfl, rfl, by decide +kernel, rfl, by decide +kernel, by decide +kernel⟩
abbrev s_Reads_ask : Stmt := inClass (topS 4) 1
abbrev N_Reads_ask : List Str := ["self", "client", "rid", "query"]
theorem sc_Reads_ask : FnScope N_Reads_ask ["self", "client", "rid", "query"] (defScope s_Reads_ask) := ⟨rfl, rfl, rfl, by decide +kernel, rfl, by decide +kernel, by decide +kernel⟩
abbrev s_Reads_note : Stmt := inClass (topS 4) 2
abbrev N_Reads_note : List Str := ["self", "token", "journal", "answered"]
theorem sc_Reads_note : FnScope N_Reads_note ["self", "token", "journal"] (defScope s_Reads_note) := ⟨rfl, rfl, rfl, by decide +kernel, rfl, by decide +kernel, by decide +kernel⟩
abbrev s_Reads_unanswered : Stmt := inClass (topS 4) 3
abbrev N_Reads_unanswered : List Str := ["self", "pairs", "token", "answered", "journal"]
theorem sc_Reads_unanswered : FnScope N_Reads_unanswered ["self"] (defScope s_Reads_unanswered) := ⟨rfl, rfl, rfl, by decide +kernel, rfl, by decide +kernel, by decide +kernel⟩
abbrev s__law_stream : Stmt := topS 6
abbrev N__law_stream : List Str := ["script", "many", "draws", "cell", "rest", "k", "mixed"]
theorem sc__law_stream : FnScope N__law_stream ["script", "many"] (defScope s__law_stream) := ⟨rfl, rfl, rfl, by decide +kernel, rfl, by decide +kernel, by decide +kernel⟩
abbrev s__law_draw : Stmt := topS 7
abbrev N__law_draw : List Str := ["draws", "k"]
theorem sc__law_draw : FnScope N__law_draw ["draws", "k"] (defScope s__law_draw) := ⟨rfl, rfl, rfl, by decide +kernel, rfl, by decide +kernel, by decide +kernel⟩
abbrev s__law_same : Stmt := topS 8
abbrev N__law_same : List Str := ["actual", "due", "k"]
theorem sc__law_same : FnScope N__law_same ["actual", "due"] (defScope s__law_same) := ⟨rfl, rfl, rfl, by decide +kernel, rfl, by decide +kernel, by decide +kernel⟩
abbrev s__law_query : Stmt := topS 9
abbrev N__law_query : List Str := ["draw", "queries"]
theorem sc__law_query : FnScope N__law_query ["draw"] (defScope s__law_query) := ⟨rfl, rfl, rfl, by decide +kernel, rfl, by decide +kernel, by decide +kernel⟩
abbrev s__law_unanswered : Stmt := topS 10
abbrev N__law_unanswered : List Str := ["opened", "count", "due", "entry", "k"]
theorem sc__law_unanswered : FnScope N__law_unanswered ["opened", "count"] (defScope s__law_unanswered) := ⟨rfl, rfl, rfl, by decide +kernel, rfl, by decide +kernel, by decide +kernel⟩
abbrev s__law_due : Stmt := topS 11
abbrev N__law_due : List Str := ["opened", "count", "token", "journal", "found", "k", "entry"]
theorem sc__law_due : FnScope N__law_due ["opened", "count", "token", "journal"] (defScope s__law_due) := ⟨rfl, rfl, rfl, by decide +kernel, rfl, by decide +kernel, by decide +kernel⟩
abbrev s_law : Stmt := topS 12
abbrev N_law : List Str := ["script", "draws", "count", "reads", "other", "opened", "beside", "last", "tokens", "step", "draw", "more", "entry", "token", "journal", "due", "told", "pairs"]
theorem sc_law : FnScope N_law ["script"] (defScope s_law) := ⟨rfl, rfl, rfl, by decide +kernel, rfl, by decide +kernel, by decide +kernel⟩
section
variable {P : Program} {w : World} {K : PySem.W.Frag} {mg : Str → Option Value} {base : Heap}
structure Glo (mg : Str → Option Value) : Prop where
  len : mg "len" = none
  int : mg "int" = none
  range : mg "range" = none
  min : mg "min" = none
  isinstance : mg "isinstance" = none
  bool : mg "bool" = none
  tuple : mg "tuple" = none
  list : mg "list" = none
  str : mg "str" = none
  sorted : mg "sorted" = none
theorem ok_draw {f : Addr} {fd : FuncData} {k : Nat} (F : Fun K "_law_draw" "_law_draw" s__law_draw f fd) (T : Glo mg) : FnOk P w K mg base CX0 (k + 1) f fd ["draws", "k"] (spDraw K) := by
  refine F.ok sc__law_draw (fun vs H Q E h => ?_) (fun cdv A outer s H vs Q E hr h => ?_)
  · obtain ⟨a, ds, k, rfl, _⟩ := h
    rfl
  · obtain ⟨a, ds, k, rfl, hS, q⟩ := h
    refine ⟨_, (pss_cons (ps_if (pt_cmpR op_lt (pv 1) (pe_callB call_len_seq (by rfl) T.len PySem.boot_len (pa_cons (pv 0) pa_nil)) (nomark _))
  (pss_one (ps_ret (pe_ix ix_list (pv 0) (pv 1) (fun _ _ => rfl))))
  pss_nil)
  (pss_one (ps_ret pe_int))), ?_⟩
    refine' q_when ?c (fun hb H1 e1 => ?_) (fun hb H1 e1 => ?_)
    case c => walk_at "ev"
    · have hb := of_decide_eq_true hb
      rw [List.length_map] at hb
      have hk : k < ds.length := by omega
      refine s_ret (v := .int (drw ds k)) (ev_op (ev_var rfl) (ev_var rfl) (rv_ixL (ex_l e1 hS) ?_)) fun H2 e2 => q _ (e1.trans e2)
      have e0 : (ds.map V.int)[k]? = some (.int (drw ds k)) := by
        rw [List.getElem?_map, List.getElem?_eq_getElem hk]
        unfold drw
        rw [List.getD_eq_getElem?_getD, List.getElem?_eq_getElem hk]
        rfl
      exact atI_nat e0
    · have hb := of_decide_eq_false hb
      rw [List.length_map] at hb
      refine s_ret ev_c fun H2 e2 => ?_
      have e0 : drw ds k = 0 := by
        unfold drw
        rw [List.getD_eq_getElem?_getD, List.getElem?_eq_none (by omega)]
        rfl
      rw [← e0]
      exact q _ (e1.trans e2)


/-! the draws' list: what stands between two turns -/
def DW (H0 : Hp) (l : Addr) (m : Nat) (H' : Hp) : Prop := H0 l = none ∧ Ex H0 H' ∧ ∃ ds : List Int, H' l = some (.lst (ds.map V.int)) ∧ Dr ds ∧ ds.length ≤ m
theorem pow18 : (10 : Int) ^ (18 : Int).toNat = 1000000000000000000 := by decide
theorem DW.app {H0 H1 H2 : Hp} {l : Addr} {m : Nat} {ds : List Int} {d : Int} (n : H0 l = none) (e : Ex H0 H1) (D : Dr ds) (hl : ds.length ≤ m) (h0 : 0 ≤ d) (h1 : d < 5040) (e2 : Ex H1 H2) : DW H0 l (m + 1) (upd H2 l (.lst (ds.map V.int ++ [V.int d]))) :=
  ⟨n, Ex.mut (e.trans e2) n, ds ++ [d], by rw [upd_same, List.map_append]; rfl, D.app h0 h1, by rw [List.length_append, List.length_singleton]; omega⟩
theorem ok_stream {f : Addr} {fd : FuncData} {k : Nat} (F : Fun K "_law_stream" "_law_stream" s__law_stream f fd) (T : Glo mg) : FnOk P w K mg base CX0 (k + 1) f fd ["script", "many"] (spStream K) := by
  refine F.ok sc__law_stream (fun vs H Q E h => ?_) (fun cdv A outer s H vs Q E hr h => ?_)
  · obtain ⟨a, ns, m, rfl, _⟩ := h
    rfl
  · obtain ⟨a, ns, m, rfl, hS, hn, hm, q⟩ := h
    refine ⟨_, (pss_cons (ps_set (i := 2) sc__law_stream.nd rfl (.inl rfl) (pe_lst pa_nil))
  (pss_cons (ps_for PassesOwn.never rfl (pi_list (pv 0)) (pg_name (i := 3) sc__law_stream.nd rfl (.inl rfl))
  (pss_cons (ps_if (pt_cmpR op_ge (pe_callB call_len_seq (by rfl) T.len PySem.boot_len (pa_cons (pv 2) pa_nil)) (pv 1) (nomark _))
  (pss_one ps_break)
  pss_nil)
  (pss_one (ps_if (pt_cmpR op_ge (pv 3) (pe_op op_pow pe_int pe_int) (nomark _))
  (pss_cons (ps_set (i := 4) sc__law_stream.nd rfl (.inl rfl) (pv 3))
  (pss_one (ps_for PassesOwn.never rfl (pi_range1 (by rfl) T.range (pa_cons pe_int pa_nil)) (pg_name (i := 5) sc__law_stream.nd rfl (.inl rfl))
  (pss_one (ps_if (pt_cmpR op_gt (pv 4) pe_int (nomark _))
  (pss_cons (ps_expr (pe_bm PySem.F.plainAttrs_list PySem.F.slot_list_append PySem.F.type_list_append mt_append (pv 2) (pa_cons (pe_op op_mod (pe_callTy call_int1 (by rfl) T.int (by decide +kernel) (pa_cons (pv 4) pa_nil)) pe_int) pa_nil)))
  (pss_one (ps_set (i := 4) sc__law_stream.nd rfl (.inl rfl) (pe_op op_fdiv (pv 4) pe_int))))
  pss_nil)))))
  (pss_cons (ps_set (i := 6) sc__law_stream.nd rfl (.inl rfl) (pe_op op_mod (pe_callTy call_int1 (by rfl) T.int (by decide +kernel) (pa_cons (pe_op op_add (pe_op op_add (pe_op op_mul (pv 3) pe_int) (pe_op op_mul (pe_callB call_len_seq (by rfl) T.len PySem.boot_len (pa_cons (pv 2) pa_nil)) pe_int)) pe_int) pa_nil)) pe_int))
  (pss_one (ps_for PassesOwn.never rfl (pi_range1 (by rfl) T.range (pa_cons pe_int pa_nil)) (pg_name (i := 5) sc__law_stream.nd rfl (.inl rfl))
  (pss_cons (ps_set (i := 6) sc__law_stream.nd rfl (.inl rfl) (pe_op op_mod (pe_callTy call_int1 (by rfl) T.int (by decide +kernel) (pa_cons (pe_op op_add (pe_op op_add (pe_op op_mul (pv 6) pe_int) (pe_op op_mul pe_int (pv 5))) pe_int) pa_nil)) pe_int))
  (pss_one (ps_expr (pe_bm PySem.F.plainAttrs_list PySem.F.slot_list_append PySem.F.type_list_append mt_append (pv 2) (pa_cons (pe_op op_mod (pe_callTy call_int1 (by rfl) T.int (by decide +kernel) (pa_cons (pe_op op_fdiv (pv 6) pe_int) pa_nil)) pe_int) pa_nil))))))))))))
  (pss_one (ps_ret (pv 2))))), ?_⟩
    refine' q_asgL (xs := []) (el_lst ea_nil (by decide)) (fun l H1 nl e1 h1 => ?_)
    have hS1 : SqL K H1 a (ns.map V.int) := ex_l e1 hS
    refine' q_forLn (a := a) (xs := ns.map V.int) (ev_var rfl) hS1 (fun i σ' H' => ∃ y3 y4 y5 y6, σ' = [some (.ref a), some (.int (m : Int)), some (.ref l), y3, y4, y5, y6] ∧ DW H l (m + 60) H') (fun H2 e2 => ?_) (fun i σ' H' _ p => ?_) (fun i x σ' H' hx p => ?_) (fun σ' H' p => ?_)
    · exact ⟨none, none, none, none, rfl, nl, e1.trans e2, [], e2 l _ h1, Dr.nil, Nat.zero_le _⟩
    · obtain ⟨_, _, _, _, _, _, e, _⟩ := p
      exact ex_l e hS
    · obtain ⟨y3, y4, y5, y6, rfl, n, e, ds, hd, D, hl⟩ := p
      obtain ⟨c, rfl⟩ : ∃ c, x = V.int c := by
        rw [List.getElem?_map] at hx
        cases h : ns[i]? with
        | none => rw [h] at hx; cases hx
        | some c => rw [h] at hx; exact ⟨c, (Option.some.inj hx).symm⟩
      have hL : SqL K H' l (ds.map V.int) := sq_of hd
      refine' q_when ?c (fun hb H2 e2 => ?_) (fun hb H2 e2 => ?_)
      case c => walk_at "ev"
      · -- break
        refine s_ret (ev_var rfl) fun H3 e3 => ?_
        exact q ds D hl l H3 n ((e.trans e2).trans e3) (e3 l _ (e2 l _ hd))
      · have hb := of_decide_eq_false hb
        rw [List.length_map] at hb
        have hlt : ds.length < m := by omega
        have hd2 := e2 l _ hd
        have E2 := e.trans e2
        refine' s_if ?c (fun hc H3 e3 => ?_) (fun hc H3 e3 => ?_)
        case c => walk_at "ev"
        · -- a great one
          refine' q_asg (ev_var rfl) (fun H4 e4 => ?_)
          refine' s_forR1 (n := 60) (ea_cons ev_c ea_nil) (by decide) (fun i σ' H' => ∃ (r : Int) (y5 : Option V), σ' = [some (.ref a), some (.int (m : Int)), some (.ref l), some (.int c), some (.int r), y5, y6] ∧ DW H l (m + i) H') (fun H5 e5 => ⟨c, _, rfl, n, ((E2.trans e3).trans e4).trans e5, ds, e5 l _ (e4 l _ (e3 l _ hd2)), D, by omega⟩) (fun i σ' H' hi p => ?_) (fun σ' H' p => ?_)
          · obtain ⟨r, z5, rfl, n', e', ds', hd', D', hl'⟩ := p
            have hL' : SqL K H' l (ds'.map V.int) := sq_of hd'
            refine' s_when ?c (fun hb H6 e6 => ?_) (fun hb H6 e6 => ?_)
            case c => walk_at "ev"
            · refine' q_app (l := l) (xs := ds'.map V.int) (v := .int (r % 5040)) (e6 l _ hd') (ev_var rfl) ?c (by rw [List.length_map]; omega) (fun H7 e7 => ?_)
              case c => walk_at "ev"
              refine' s_asg (v := .int (r / 5040)) ?c (fun H8 e8 => ?_)
              case c => exact ev_op (ev_var rfl) ev_c (rv_I ⟨by decide, by decide⟩)
              obtain ⟨_, k2, k3⟩ := DW.app n' (e'.trans e6) D' hl' (Int.emod_nonneg r (by decide)) (Int.emod_lt_of_pos r (by decide)) e7
              obtain ⟨ds8, k4, k5, k6⟩ := k3
              exact ⟨r / 5040, _, rfl, n', k2.trans e8, ds8, e8 l _ k4, k5, k6⟩
            · exact ⟨r, _, rfl, n', e'.trans e6, ds', e6 l _ hd', D', by omega⟩
          · obtain ⟨r, z5, rfl, w⟩ := p
            exact ⟨_, _, _, _, rfl, w⟩
        · -- a plain one
          refine' q_asg ?c (fun H4 e4 => ?_)
          case c =>
            have hL3 : SqL K H3 l (ds.map V.int) := sq_of (e3 l _ hd2)
            refine' ev_op (ev_cb (ea_cons (ev_op (ev_op (ev_op (ev_var rfl) ev_c (rv_I (.inr (by decide)))) (ev_op (ev_cb (ea_cons (ev_var rfl) ea_nil) (rc_len hL3)) ev_c (rv_I (.inr (by decide)))) rv_I0) ev_c rv_I0) ea_nil) rc_int) ev_c (rv_I (by decide))
          refine' s_forR1 (n := 4) (ea_cons ev_c ea_nil) (by decide) (fun i σ' H' => ∃ (r : Int) (y5 : Option V), σ' = [some (.ref a), some (.int (m : Int)), some (.ref l), some (.int c), y4, y5, some (.int r)] ∧ DW H l (m + i) H') (fun H5 e5 => ⟨_, _, rfl, n, ((E2.trans e3).trans e4).trans e5, ds, e5 l _ (e4 l _ (e3 l _ hd2)), D, by omega⟩) (fun i σ' H' hi p => ?_) (fun σ' H' p => ?_)
          · obtain ⟨r, z5, rfl, n', e', ds', hd', D', hl'⟩ := p
            refine' q_asg ?c (fun H6 e6 => ?_)
            case c =>
              refine' ev_op (ev_cb (ea_cons (ev_op (ev_op (ev_op (ev_var rfl) ev_c (rv_I (.inr (by decide)))) (ev_op ev_c (ev_var rfl) (rv_I (.inl (by decide)))) rv_I0) ev_c rv_I0) ea_nil) rc_int) ev_c (rv_I (by decide))
            refine' s_app (l := l) (xs := ds'.map V.int) (e6 l _ hd') (ev_var rfl) ?c (by rw [List.length_map]; omega) (fun H7 e7 => ?_)
            case c =>
              refine' ev_op (ev_cb (ea_cons (ev_op (ev_var rfl) ev_c (rv_I ⟨by decide, by decide⟩)) ea_nil) rc_int) ev_c (rv_I (by decide))
            exact ⟨_, _, rfl, DW.app n' (e'.trans e6) D' hl' (Int.emod_nonneg _ (by decide)) (Int.emod_lt_of_pos _ (by decide)) e7⟩
          · obtain ⟨r, z5, rfl, n', e', ds', hd', D', hl'⟩ := p
            exact ⟨_, _, _, _, rfl, n', e', ds', hd', D', by have : (4 : Int).toNat = 4 := rfl; omega⟩
    · obtain ⟨y3, y4, y5, y6, rfl, n, e, ds, hd, D, hl⟩ := p
      refine s_ret (ev_var rfl) fun H3 e3 => ?_
      exact q ds D hl l H3 n (e.trans e3) (e3 l _ hd)

theorem ok_same {f : Addr} {fd : FuncData} (D__law_same : Df K mg "_law_same" s__law_same ["actual", "due"] f fd) (T : Glo mg) : ∀ n : Nat, FnOk P w K mg base CX0 (n + 1) f fd ["actual", "due"] (spSame K n) := fun n => by
  have key : ∀ (n : Nat) (S : Sp), FnOk P w K mg base CX0 n f fd ["actual", "due"] S → (∀ m, n = m + 1 → S = spSame K m) → FnOk P w K mg base CX0 (n + 1) f fd ["actual", "due"] (spSame K n) := fun n S G__law_same hSm => by
    refine D__law_same.F.ok sc__law_same (fun vs H Q E h => ?_) (fun cdv A outer s H vs Q E hr h => ?_)
    · obtain ⟨x, y, d, rfl, _⟩ := h
      rfl
    · obtain ⟨x, y, d, rfl, hx, hy, ok, q⟩ := h
      refine ⟨_, (pss_cons (ps_if (pt_val (pe_callB call_isiT (by rfl) T.isinstance (by decide +kernel) (pa_cons (pv 1) (pa_cons (pe_tup (pa_cons (pe_bltn (v := .ty "tuple") (u := .type "tuple") (by rfl) T.tuple (by decide +kernel) rfl) (pa_cons (pe_bltn (v := .ty "list") (u := .type "list") (by rfl) T.list (by decide +kernel) rfl) pa_nil))) pa_nil))))
  (pss_cons (ps_if (PW.pt (pw_or (pt_not (pt_val (pe_callB call_isiT (by rfl) T.isinstance (by decide +kernel) (pa_cons (pv 0) (pa_cons (pe_tup (pa_cons (pe_bltn (v := .ty "tuple") (u := .type "tuple") (by rfl) T.tuple (by decide +kernel) rfl) (pa_cons (pe_bltn (v := .ty "list") (u := .type "list") (by rfl) T.list (by decide +kernel) rfl) pa_nil))) pa_nil))))) (pw_or1 (pt_cmpR op_ne (pe_callB call_isi (by rfl) T.isinstance (by decide +kernel) (pa_cons (pv 0) (pa_cons (pe_bltn (v := .ty "tuple") (u := .type "tuple") (by rfl) T.tuple (by decide +kernel) rfl) pa_nil))) (pe_callB call_isi (by rfl) T.isinstance (by decide +kernel) (pa_cons (pv 1) (pa_cons (pe_bltn (v := .ty "tuple") (u := .type "tuple") (by rfl) T.tuple (by decide +kernel) rfl) pa_nil))) (nomark _)))))
  (pss_one (ps_ret pe_bl))
  pss_nil)
  (pss_cons (ps_if (pt_cmpR op_ne (pe_callB call_len_seq (by rfl) T.len PySem.boot_len (pa_cons (pv 0) pa_nil)) (pe_callB call_len_seq (by rfl) T.len PySem.boot_len (pa_cons (pv 1) pa_nil)) (nomark _))
  (pss_one (ps_ret pe_bl))
  pss_nil)
  (pss_cons (ps_for PassesOwn.never rfl (pi_range1 (by rfl) T.range (pa_cons (pe_callB call_len_seq (by rfl) T.len PySem.boot_len (pa_cons (pv 1) pa_nil)) pa_nil)) (pg_name (i := 2) sc__law_same.nd rfl (.inl rfl))
  (pss_one (ps_if (pt_not (pt_val (pe_call G__law_same (hr.mono (by omega)) (by rfl) D__law_same.g D__law_same.F.kp D__law_same.b .nil pass0 (pa_cons (pe_ix ix_seq (pv 0) (pv 2) (fun _ _ => rfl)) (pa_cons (pe_ix ix_seq (pv 1) (pv 2) (fun _ _ => rfl)) pa_nil)))))
  (pss_one (ps_ret pe_bl))
  pss_nil)))
  (pss_one (ps_ret pe_bl)))))
  pss_nil)
  (pss_cons (ps_if (pt_cmpR op_isN (pv 1) pe_non (nomark _))
  (pss_one (ps_ret (pe_cmpR op_isN (pv 0) pe_non (nomark _))))
  pss_nil)
  (pss_cons (ps_if (PW.pt (pw_or (pt_val (pe_callB call_isi (by rfl) T.isinstance (by decide +kernel) (pa_cons (pv 1) (pa_cons (pe_bltn (v := .ty "bool") (u := .type "bool") (by rfl) T.bool (by decide +kernel) rfl) pa_nil)))) (pw_or1 (pt_val (pe_callB call_isi (by rfl) T.isinstance (by decide +kernel) (pa_cons (pv 0) (pa_cons (pe_bltn (v := .ty "bool") (u := .type "bool") (by rfl) T.bool (by decide +kernel) rfl) pa_nil)))))))
  (pss_one (ps_ret (pe_and (pe_callB call_isi (by rfl) T.isinstance (by decide +kernel) (pa_cons (pv 1) (pa_cons (pe_bltn (v := .ty "bool") (u := .type "bool") (by rfl) T.bool (by decide +kernel) rfl) pa_nil))) (pe_and (pe_callB call_isi (by rfl) T.isinstance (by decide +kernel) (pa_cons (pv 0) (pa_cons (pe_bltn (v := .ty "bool") (u := .type "bool") (by rfl) T.bool (by decide +kernel) rfl) pa_nil))) (pe_one (pe_cmpR op_eq (pv 0) (pv 1) (nomark _)))))))
  pss_nil)
  (pss_cons (ps_if (pt_val (pe_callB call_isi (by rfl) T.isinstance (by decide +kernel) (pa_cons (pv 1) (pa_cons (pe_bltn (v := .ty "int") (u := .type "int") (by rfl) T.int (by decide +kernel) rfl) pa_nil))))
  (pss_one (ps_ret (pe_and (pe_callB call_isi (by rfl) T.isinstance (by decide +kernel) (pa_cons (pv 0) (pa_cons (pe_bltn (v := .ty "int") (u := .type "int") (by rfl) T.int (by decide +kernel) rfl) pa_nil))) (pe_one (pe_cmpR op_eq (pv 0) (pv 1) (nomark _))))))
  pss_nil)
  (pss_one (ps_ret (pe_and (pe_callB call_isi (by rfl) T.isinstance (by decide +kernel) (pa_cons (pv 0) (pa_cons (pe_bltn (v := .ty "str") (u := .type "str") (by rfl) T.str (by decide +kernel) rfl) pa_nil))) (pe_one (pe_cmpR op_eq (pv 0) (pv 1) (nomark _)))))))))), ?_⟩
      refine' q_when (b := isTup d || isLst d) (et_B (ev_isiT2 (K := K) (ex_var rfl hy) (kit_tup d) (kit_lst d))) (fun hb H1 e1 => ?_) (fun hb H1 e1 => ?_)
      · obtain ⟨m, ds, hm, hd, hl, hok⟩ : ∃ (m : Nat) (ds : List PyData), n = m + 1 ∧ (d = .list ds ∨ d = .tuple ds) ∧ ds.length ≤ 50000 ∧ ∀ e, e ∈ ds → Okn m e := by
          cases ok with
          | lst h hs => exact ⟨_, _, rfl, .inl rfl, h, hs⟩
          | tup h hs => exact ⟨_, _, rfl, .inr rfl, h, hs⟩
          | _ => exact absurd hb (by simp [isTup, isLst])
        have hS := hSm m hm
        subst hS
        have hx1 := dx_mono e1 _ _ hx
        have hy1 := dx_mono e1 _ _ hy
        refine' q_when (b := false) (et_orF (et_nt (et_is (et_B (ev_isiT2 (K := K) (ex_var rfl hx1) (kit_tup d) (kit_lst d))) hb)) (et_is (et_test (ev_op (ev_isiX (K := K) (ex_var rfl hx1) (kit_tup d)) (ev_isiX (K := K) (ex_var rfl hy1) (kit_tup d)) (rv_ne rfl))) (by rw [decide_eq_true rfl]; rfl))) (fun hb => nomatch hb) (fun _ H2 e2 => ?_)
        have hx2 := dx_mono e2 _ _ hx1
        have hy2 := dx_mono e2 _ _ hy1
        refine' q_when (b := false) (et_is (et_test (ev_op (ev_lenX2 (K := K) hd (ex_var rfl hx2)) (ev_lenX2 (K := K) hd (ex_var rfl hy2)) rv_neI)) (by rw [decide_eq_true rfl]; rfl)) (fun hb => nomatch hb) (fun _ H3 e3 => ?_)
        have hx3 := dx_mono e3 _ _ hx2
        have hy3 := dx_mono e3 _ _ hy2
        refine' q_forR1 (n := (ds.length : Int)) (ea_cons (ev_lenX2 (K := K) hd (ex_var rfl hy3)) ea_nil) (by omega) (fun i σ' H' => ∃ y2 : Option V, σ' = [some x, some y, y2] ∧ Ex H3 H') (fun H4 e4 => ⟨none, rfl, e4⟩) (fun i σ' H' hi p => ?_) (fun σ' H' p => ?_)
        · obtain ⟨y2, rfl, e4⟩ := p
          have hx4 := dx_mono e4 _ _ hx3
          have hy4 := dx_mono e4 _ _ hy3
          have hil : i < ds.length := by omega
          have hat : atI ds (i : Int) = some ds[i] := atI_nat (List.getElem?_eq_getElem hil)
          refine' s_when (b := false) (et_nt (et_B (ev_callD (K := K) (exs_cons (ex_ix2 (K := K) hd (ex_var rfl hx4) (ev_var rfl) hat) (exs_cons (ex_ix2 (K := K) hd (ex_var rfl hy4) (ev_var rfl) hat) exs_nil)) (fun vs H5 e5 hv Q q => ?_)))) (fun hb => nomatch hb) (fun _ H5 e5 => ⟨_, rfl, e4.trans e5⟩)
          cases hv with
          | cons h1 h2 => cases h2 with
            | cons h2 h3 =>
              cases h3
              exact ⟨_, _, _, rfl, h1, h2, hok _ (List.getElem_mem hil), q⟩
        · obtain ⟨y2, rfl, e4⟩ := p
          exact s_ret ev_c (fun H5 e5 => q H5 ((((e1.trans e2).trans e3).trans e4).trans e5))
      · have hx1 := dx_mono e1 _ _ hx
        have hy1 := dx_mono e1 _ _ hy
        cases ok with
        | non =>
          cases hx
          cases hy
          refine' q_when (b := true) (et_is (et_isN (ev_var rfl)) (decide_eq_true rfl)) (fun _ H2 e2 => ?_) (fun hb => nomatch hb)
          exact s_ret (ev_is (ev_isN (ev_var rfl)) (by rw [decide_eq_true rfl])) (fun H3 e3 => q H3 ((e1.trans e2).trans e3))
        | bl b =>
          cases hx
          cases hy
          refine' q_when (b := false) (et_is (et_isN (ev_var rfl)) (decide_eq_false (fun h => nomatch h))) (fun hb => nomatch hb) (fun _ H2 e2 => ?_)
          refine' q_when (b := true) (et_orL (et_B (ev_isiX (K := K) (ex_var rfl (dx_mono e2 _ _ hy1)) (kit_bool _)))) (fun _ H3 e3 => ?_) (fun hb => nomatch hb)
          have hy3 := dx_mono (e2.trans e3) _ _ hy1
          exact s_ret (ev_andT (ev_isiX (K := K) (ex_var rfl hy3) (kit_bool _)) (ev_andT (ev_isiX (K := K) (ex_var rfl hy3) (kit_bool _)) (ev_op (ev_var rfl) (ev_var rfl) (rv_eqT rfl)))) (fun H4 e4 => q H4 (((e1.trans e2).trans e3).trans e4))
        | int i =>
          cases hx
          cases hy
          refine' q_when (b := false) (et_is (et_isN (ev_var rfl)) (decide_eq_false (fun h => nomatch h))) (fun hb => nomatch hb) (fun _ H2 e2 => ?_)
          have hy2 := dx_mono e2 _ _ hy1
          refine' q_when (b := false) (et_orF (et_B (ev_isiX (K := K) (ex_var rfl hy2) (kit_bool _))) (et_B (ev_isiX (K := K) (ex_var rfl hy2) (kit_bool _)))) (fun hb => nomatch hb) (fun _ H3 e3 => ?_)
          have hy3 := dx_mono e3 _ _ hy2
          refine' q_when (b := true) (et_B (ev_isiX (K := K) (ex_var rfl hy3) (kit_int _))) (fun _ H4 e4 => ?_) (fun hb => nomatch hb)
          have hy4 := dx_mono e4 _ _ hy3
          exact s_ret (ev_andT (ev_isiX (K := K) (ex_var rfl hy4) (kit_int _)) (ev_op (ev_var rfl) (ev_var rfl) (rv_eqT rfl))) (fun H5 e5 => q H5 ((((e1.trans e2).trans e3).trans e4).trans e5))
        | str z =>
          cases hx
          cases hy
          refine' q_when (b := false) (et_is (et_isN (ev_var rfl)) (decide_eq_false (fun h => nomatch h))) (fun hb => nomatch hb) (fun _ H2 e2 => ?_)
          have hy2 := dx_mono e2 _ _ hy1
          refine' q_when (b := false) (et_orF (et_B (ev_isiX (K := K) (ex_var rfl hy2) (kit_bool _))) (et_B (ev_isiX (K := K) (ex_var rfl hy2) (kit_bool _)))) (fun hb => nomatch hb) (fun _ H3 e3 => ?_)
          have hy3 := dx_mono e3 _ _ hy2
          refine' q_when (b := false) (et_B (ev_isiX (K := K) (ex_var rfl hy3) (kit_int _))) (fun hb => nomatch hb) (fun _ H4 e4 => ?_)
          have hy4 := dx_mono e4 _ _ hy3
          exact s_ret (ev_andT (ev_isiX (K := K) (ex_var rfl hy4) (kit_str _)) (ev_op (ev_var rfl) (ev_var rfl) (rv_eqT rfl))) (fun H5 e5 => q H5 ((((e1.trans e2).trans e3).trans e4).trans e5))
        | lst => exact absurd hb (by simp [isTup, isLst])
        | tup => exact absurd hb (by simp [isTup, isLst])
  induction n with
  | zero => exact key 0 (fun _ _ _ _ => False) fn_false (fun m h => nomatch h)
  | succ n ih => exact key (n + 1) _ ih (fun m h => by cases h; rfl)

def spMaj : Sp := fun vs H Q _ => ∃ n : Int, vs = [.int n] ∧ RetV (.int (n / 2 + 1)) H Q
theorem ok_majority {f : Addr} {fd : FuncData} (F : Fun K "majority" "majority" s_majority f fd) : FnOk P w K mg base CX0 1 f fd ["count"] spMaj := by
  refine F.ok sc_majority (fun vs H Q E h => ?_) (fun cdv A outer s H vs Q E hr h => ?_)
  · obtain ⟨n, rfl, _⟩ := h
    rfl
  · obtain ⟨n, rfl, q⟩ := h
    refine ⟨_, (pss_one (ps_ret (pe_op op_add (pe_op op_fdiv (pv 0) pe_int) pe_int))), ?_⟩
    refine' s_ret ?c (fun H1 e1 => q H1 e1)
    case c => walk_at "ev"
theorem spMaj_v {H : Hp} {n : Int} : SpV spMaj [.int n] H (.int (n / 2 + 1)) := fun H1 _ Q q _ => ⟨n, rfl, fun H2 e2 => q H2 e2⟩
def spHM (K : PySem.W.Frag) : Sp := fun vs H Q _ => ∃ (a : Addr) (ns : List Int) (c : Int), vs = [.ref a, .int c] ∧ SqL K H a (ns.map V.int) ∧ ns.length ≤ 1000 ∧ RetV (.bl (hmB ns c)) H Q
theorem ok_hm {f f_m : Addr} {fd fd_m : FuncData} (F : Fun K "has_majority" "has_majority" s_has_majority f fd) (D_majority : Df K mg "majority" s_majority ["count"] f_m fd_m) (T : Glo mg) : FnOk P w K mg base CX0 2 f fd ["members", "count"] (spHM K) := by
  have G_majority : FnOk P w K mg base CX0 1 f_m fd_m _ _ := ok_majority D_majority.F
  refine F.ok sc_has_majority (fun vs H Q E h => ?_) (fun cdv A outer s H vs Q E hr h => ?_)
  · obtain ⟨a, ns, c, rfl, _⟩ := h
    rfl
  · obtain ⟨a, ns, c, rfl, hS, hl, q⟩ := h
    refine ⟨_, (pss_one (ps_ret (pe_cmpR op_ge (pe_callB call_lenK (by rfl) T.len PySem.boot_len (pa_cons (pe_scK (own := [("member", 2)]) (g := gName 2) rfl sc_has_majority.nd (pi_list (pv 0)) (blkOk_by (N := N_has_majority) (sc := defScope s_has_majority) (by decide +kernel)) (fun _ _ _ _ _ => (pg_name (i := 2) sc_has_majority.nd rfl (.inl rfl))) (fun _ _ _ _ _ => (pts_one (pt_chain op_le op_lt pe_int (pv 2) (pv 1)))) (fun _ _ _ _ _ => (pv 2))) pa_nil)) (pe_call G_majority (hr.mono (by decide)) (by rfl) D_majority.g D_majority.F.kp D_majority.b .nil pass0 (pa_cons (pv 1) pa_nil)) (nomark _)))), ?_⟩
    exact s_ret (ev_op (ev_lenSc (K := K) (inB c) (ev_var rfl) hS hl (fun _ => rfl) (fun x => et_test (ev_chain (k := decide (0 ≤ x)) (m := decide (x < c)) ev_c (ev_var rfl) rv_I0 (ev_var rfl) rv_I0)) (fun x => ev_var rfl)) (ev_call (ea_cons (ev_var rfl) ea_nil) spMaj_v) rv_I0) q
theorem spHM_v {H : Hp} {a : Addr} {ns : List Int} {c : Int} (h : SqL K H a (ns.map V.int)) (hl : ns.length ≤ 1000) : SpV (spHM K) [.ref a, .int c] H (.bl (hmB ns c)) := fun H1 e Q q _ => ⟨a, ns, c, rfl, ex_l e h, hl, fun H2 e2 => q H2 e2⟩

/-! ### the reads: open ones, with those that have answered -/
structure OE where
  tok : Int
  qv : V
  q : PyData
  la : Addr
  js : List Int
def fR (J last : Int) (da dn : Addr) : List (Str × V) := [("journals", .int J), ("_last_token", .int last), ("_asked", .ref da), ("_answered", .ref dn)]
def dA (os : List OE) : List (Key × V) := dI OE.tok OE.qv os
def dN (os : List OE) : List (Key × V) := dI OE.tok (fun o => V.ref o.la) os
def oM (o : OE) : MP := Pt o.la (.lst (o.js.map V.int))
def RdS (C r dx da dn : Addr) (J last : Int) (os : List OE) : MP := Stars [Pt r (.ins C dx (fR J last da dn)), Pt da (.dK (dA os)), Pt dn (.dK (dN os)), Each os oM]
structure RdC (K : PySem.W.Frag) (C : Addr) : Prop where
  cl : Cls K C
  nJ : NoAttr K C "journals"
  nL : NoAttr K C "_last_token"
  nA : NoAttr K C "_asked"
  nN : NoAttr K C "_answered"
def Asc (os : List OE) : Prop := (os.map OE.tok).Pairwise (· < ·)
theorem Asc.nd {os : List OE} (h : Asc os) : (os.map OE.tok).Nodup := List.Pairwise.imp (fun {a b} h e => by omega) h
def spRInit (C : Addr) : Sp := fun vs H Q _ => ∃ (r dx : Addr) (J : Int) (B : Hp) (F : List MP), vs = [.ref r, .int J] ∧ At B (Pt r (.ins C dx []) :: F) H ∧ ∀ da dn H', At B (RdS C r dx da dn J 0 [] :: F) H' → Q .non H'
theorem ok_rinit {f C : Addr} {fd : FuncData} (F : Fun K "__init__" "Reads.__init__" s_Reads___init__ f fd) (L : RdC K C) : FnOk P w K mg base CX0 1 f fd ["self", "journals"] (spRInit C) := by
  refine F.ok sc_Reads___init__ (fun vs H Q E h => ?_) (fun cdv A outer s H vs Q E hr h => ?_)
  · obtain ⟨r, dx, J, B, F, rfl, _⟩ := h
    rfl
  · obtain ⟨r, dx, J, B, Fr, rfl, hA, q⟩ := h
    refine ⟨_, (pss_cons (ps_fld (pv 0) (pv 1) rfl)
  (pss_cons (ps_fld (pv 0) pe_int rfl)
  (pss_cons (ps_fld (pv 0) pe_dnewK rfl)
  (pss_one (ps_fld (pv 0) pe_dnewK rfl))))), ?_⟩
    refine qe_fld (K := K) 0 rfl hA (ev_var rfl) (fun _ => ev_var rfl) L.cl L.nJ (by show 0 < 1000; decide) fun H1 hA => ?_
    refine qe_fld (K := K) 0 rfl hA ev_c (fun _ => ev_var rfl) L.cl L.nL (by show 1 < 1000; decide) fun H2 hA => ?_
    refine qe_fldD (K := K) 0 rfl hA (fun _ => ev_var rfl) L.cl L.nA (by show 2 < 1000; decide) fun da H3 hA => ?_
    refine se_fldD (K := K) 1 rfl hA (fun _ => ev_var rfl) L.cl L.nN (by show 3 < 1000; decide) fun dn H4 hA => ?_
    exact q da dn H4 (at_stars' [_, _, _, _] (each_nil_at 3 (at_ix 3 [2, 1, 0] hA)))
def spAsk (K : PySem.W.Frag) (C : Addr) : Sp := fun vs H Q _ => ∃ (r dx da dn : Addr) (J last c rid : Int) (qv : V) (qd : PyData) (os : List OE) (B : Hp) (F : List MP), vs = [.ref r, .int c, .int rid, qv] ∧ At B (RdS C r dx da dn J last os :: F) H ∧ Dp K B qv qd ∧ (∀ o ∈ os, o.tok ≤ last) ∧ os.length ≤ 1000 ∧
  ∀ B1 H1 tv la, Ex B B1 → Dp K B1 tv (.tuple [.int c, .int rid, qd]) → At B1 (RdS C r dx da dn J (last + 1) (os ++ [⟨last + 1, tv, .tuple [.int c, .int rid, qd], la, []⟩]) :: F) H1 → Q (.int (last + 1)) H1
theorem ok_ask {f C : Addr} {fd : FuncData} (F : Fun K "ask" "Reads.ask" s_Reads_ask f fd) (L : RdC K C) : FnOk P w K mg base CX0 1 f fd ["self", "client", "rid", "query"] (spAsk K C) := by
  refine F.ok sc_Reads_ask (fun vs H Q E h => ?_) (fun cdv A outer s H vs Q E hr h => ?_)
  · obtain ⟨r, dx, da, dn, J, last, c, rid, qv, qd, os, B, Fr, rfl, _⟩ := h
    rfl
  · obtain ⟨r, dx, da, dn, J, last, c, rid, qv, qd, os, B, Fr, rfl, hA, hq, hlt, hlen, q⟩ := h
    refine ⟨_, (pss_cons (ps_fldaug (pv 0) pe_int in_add)
  (pss_cons (ps_dput (hu_of hr) (pe_fld (pv 0) rfl) (pe_fld (pv 0) rfl) (pe_tup (pa_cons (pv 1) (pa_cons (pv 2) (pa_cons (pv 3) pa_nil)))) rfl)
  (pss_cons (ps_dput (hu_of hr) (pe_fld (pv 0) rfl) (pe_fld (pv 0) rfl) (pe_lst pa_nil) rfl)
  (pss_one (ps_ret (pe_fld (pv 0) rfl)))))), ?_⟩
    have hA := at_stars hA
    have hz : (dA os).length = os.length := dI_len
    have hz2 : (dN os).length = os.length := dI_len
    have ne : ∀ o ∈ os, o.tok ≠ last + 1 := fun o ho => by have := hlt o ho; omega
    refine qe_faug (K := K) 0 rfl hA (ev_var rfl) (fun _ => ev_c) L.cl L.nL rfl (by show 4 < 1000; decide) fun H1 hA => ?_
    change At B (Pt r (.ins C dx (fR J (last + 1) da dn)) :: _ :: _ :: _ :: Fr) H1 at hA
    refine' qw_put (R := rD K (.tuple [.int c, .int rid, qd])) (key := Sum.inl (last + 1)) 1 rfl hA (wv_tup ?a (by show 3 ≤ 100000; decide)) (fun _ _ _ h => ev_fld (K := K) (ev_var rfl) (at_get 0 rfl h) L.cl L.nA rfl) (fun _ _ _ h => ev_fld (K := K) (ev_var rfl) (at_get 0 rfl h) L.cl L.nL rfl) (by omega) (fun tv B2 H2 e2 htv hA => ?_)
    case a => exact wa_cons (wv_int (wv_of fun _ _ _ _ => ev_var rfl)) (wa_cons (wv_int (wv_of fun _ _ _ _ => ev_var rfl)) (wa_cons (wv_var rfl hq) wa_nil))
    refine qe_putL (key := Sum.inl (last + 1)) 2 rfl hA (el_lst ea_nil (by decide)) (fun _ _ h => ev_fld (K := K) (ev_var rfl) (at_get 1 rfl h) L.cl L.nN rfl) (fun _ _ h => ev_fld (K := K) (ev_var rfl) (at_get 1 rfl h) L.cl L.nL rfl) (by omega) fun la H3 hA => ?_
    refine se_ret (x := .int (last + 1)) hA (ev_fld (K := K) (ev_var rfl) (at_get 1 rfl hA) L.cl L.nL rfl) fun H10 hA => ?_
    have k1 : putK (dA os) (Sum.inl (last + 1)) tv = dA (os ++ [⟨last + 1, tv, .tuple [.int c, .int rid, qd], la, []⟩]) := dI_put (o' := (⟨last + 1, tv, .tuple [.int c, .int rid, qd], la, []⟩ : OE)) ne
    have k2 : putK (dN os) (Sum.inl (last + 1)) (.ref la) = dN (os ++ [⟨last + 1, tv, .tuple [.int c, .int rid, qd], la, []⟩]) := dI_put (kf := OE.tok) (vf := fun o : OE => V.ref o.la) (o' := (⟨last + 1, tv, .tuple [.int c, .int rid, qd], la, []⟩ : OE)) ne
    rw [k1, k2] at hA
    refine q B2 H10 tv la e2 htv (at_stars' [_, _, _, _] ?_)
    have hA := each_app (f := oM) (x := (⟨last + 1, tv, .tuple [.int c, .int rid, qd], la, []⟩ : OE)) (show At B2 (oM _ :: Each os oM :: _ :: _ :: _ :: Fr) H10 from at_ix 5 [0, 4, 1, 2, 3] hA)
    exact at_ix 4 [1, 2, 3, 0] hA
def joinJ (js : List Int) (j : Int) : List Int := if j ∈ js then js else js ++ [j]
def spNote (K : PySem.W.Frag) (C : Addr) : Sp := fun vs H Q _ => ∃ (r dx da dn : Addr) (J last t j : Int) (os : List OE) (B : Hp) (F : List MP), vs = [.ref r, .int t, .int j] ∧ At B (RdS C r dx da dn J last os :: F) H ∧ Asc os ∧ os.length ≤ 1000 ∧ (∀ o ∈ os, o.js.length ≤ 500) ∧
  (((∀ o ∈ os, o.tok ≠ t) ∧ ∀ H1, At B (RdS C r dx da dn J last os :: F) H1 → Q .non H1) ∨
   ∃ i o, os[i]? = some o ∧ o.tok = t ∧ ∀ H1, (hmB (joinJ o.js j) J = false → At B (RdS C r dx da dn J last (os.set i { o with js := joinJ o.js j }) :: F) H1 → Q .non H1) ∧ (hmB (joinJ o.js j) J = true → At B (RdS C r dx da dn J last (os.eraseIdx i) :: F) H1 → Q o.qv H1))
theorem ok_note {f C f_h f_m : Addr} {fd fd_h fd_m : FuncData} (F : Fun K "note" "Reads.note" s_Reads_note f fd) (L : RdC K C) (D_has_majority : Df K mg "has_majority" s_has_majority ["members", "count"] f_h fd_h) (D_majority : Df K mg "majority" s_majority ["count"] f_m fd_m) (T : Glo mg) : FnOk P w K mg base CX0 3 f fd ["self", "token", "journal"] (spNote K C) := by
  have G_has_majority : FnOk P w K mg base CX0 2 f_h fd_h _ _ := ok_hm D_has_majority.F D_majority T
  refine F.ok sc_Reads_note (fun vs H Q E h => ?_) (fun cdv A outer s H vs Q E hr h => ?_)
  · obtain ⟨r, dx, da, dn, J, last, t, j, os, B, Fr, rfl, _⟩ := h
    rfl
  · obtain ⟨r, dx, da, dn, J, last, t, j, os, B, Fr, rfl, hA, hasc, hlen, hjl, q⟩ := h
    refine ⟨_, (pss_cons (ps_if (pt_cmp (pc_dnotin (hu_of hr) (pv 1) (pe_fld (pv 0) rfl)))
  (pss_one (ps_ret pe_non))
  pss_nil)
  (pss_cons (ps_set (i := 3) sc_Reads_note.nd rfl (.inl rfl) (pe_dget (hu_of hr) (pe_fld (pv 0) rfl) (pv 1) (fun _ _ => rfl)))
  (pss_cut (ps_if (pt_cmpR (show OpR _ _ (rIn K true) from op_notIn_seq) (pv 2) (pv 3) (by rfl))
  (pss_one (ps_expr (pe_bm PySem.F.plainAttrs_list PySem.F.slot_list_append PySem.F.type_list_append mt_append (pv 3) (pa_cons (pv 2) pa_nil))))
  pss_nil)
  (pss_cons (ps_if (pt_not (pt_val (pe_call G_has_majority (hr.mono (by decide)) (by rfl) D_has_majority.g D_has_majority.F.kp D_has_majority.b .nil pass0 (pa_cons (pv 3) (pa_cons (pe_fld (pv 0) rfl) pa_nil)))))
  (pss_one (ps_ret pe_non))
  pss_nil)
  (pss_cons (ps_ddel (pe_fld (pv 0) rfl) (pv 1))
  (pss_one (ps_ret (pe_dpop1 (pe_fld (pv 0) rfl) (pv 1) ⟨rfl, rfl, rfl, rfl⟩)))))))), ?_⟩
    have hA := at_stars hA
    rcases q with ⟨hno, q⟩ | ⟨i, o, hi, rfl, q⟩
    · refine' qe_when (b := true) hA (et_is (et_B (ev_dni (k := Sum.inl t) (ev_var rfl) (ev_fld (K := K) (ev_var rfl) (at_get 0 rfl hA) L.cl L.nA rfl) (at_get 1 rfl hA))) ?c) (fun _ H1 hA => ?_) (fun hb => nomatch hb)
      case c =>
        unfold dA
        rw [dI_none hno]
        rfl
      exact se_ret hA ev_c fun H2 hA => q H2 (at_stars' [_, _, _, _] hA)
    · obtain ⟨hv1, hv2, hd1, hd2⟩ : valV (dA os) (Sum.inl o.tok) = some o.qv ∧ valV (dN os) (Sum.inl o.tok) = some (.ref o.la) ∧ dropK (dA os) (Sum.inl o.tok) = dA (os.eraseIdx i) ∧ dropK (dN os) (Sum.inl o.tok) = dN (os.eraseIdx i) :=
        ⟨dI_some hasc.nd hi, dI_some (vf := fun o : OE => V.ref o.la) hasc.nd hi, dI_drop hasc.nd hi, dI_drop (vf := fun o : OE => V.ref o.la) hasc.nd hi⟩
      have hil : i < os.length := (List.getElem?_eq_some_iff.mp hi).1
      have hoj := hjl o (List.mem_of_getElem? hi)
      refine' qe_when (b := false) hA (et_is (et_B (ev_dni (k := Sum.inl o.tok) (ev_var rfl) (ev_fld (K := K) (ev_var rfl) (at_get 0 rfl hA) L.cl L.nA rfl) (at_get 1 rfl hA))) (by rw [hv1]; rfl)) (fun hb => nomatch hb) (fun _ H1 hA => ?_)
      refine' qe_asg (x := .ref o.la) hA (ev_dget (k := Sum.inl o.tok) (ev_fld (K := K) (ev_var rfl) (at_get 0 rfl hA) L.cl L.nN rfl) (ev_var rfl) (.inl (at_get 2 rfl hA)) hv2) (fun H2 hA => ?_)
      have hA := each_at (at_ix 4 [3, 0, 1, 2] hA) hi
      have hjo : (o.js.map V.int).length = o.js.length := List.length_map _
      -- answered.append(journal)
      refine' q_cut (M := fun σ' H' => σ' = [some (.ref r), some (.int o.tok), some (.int j), some (.ref o.la)] ∧ At B (Pt o.la (.lst ((joinJ o.js j).map V.int)) :: Each (os.eraseIdx i) oM :: Pt r (.ins C dx (fR J last da dn)) :: Pt da (.dK (dA os)) :: Pt dn (.dK (dN os)) :: Fr) H') ?cut (fun σ' H3 p => ?_)
      case cut =>
        refine' se_when hA (et_test (ev_op (ev_var rfl) (ev_var rfl) (rv_niL (K := K) (sq_of (at_get (a := o.la) 0 rfl hA)) rfl (flat_ints _)))) (fun hb H3 hA => ?_) (fun hb H3 hA => ?_)
        · have hn : ¬ j ∈ o.js := fun h => by rw [(inV_int j o.js).mpr h] at hb; cases hb
          refine se_app (K := K) (q := o.la) (xs := o.js.map V.int) 0 rfl hA (ev_var rfl) (ev_var rfl) (by omega) fun H4 hA => ⟨rfl, ?_⟩
          unfold joinJ
          rw [if_neg hn, List.map_append]
          exact hA
        · have hy : j ∈ o.js := (inV_int j o.js).mp (by simpa using hb)
          refine ⟨rfl, ?_⟩
          unfold joinJ
          rw [if_pos hy]
          exact hA
      obtain ⟨rfl, hA⟩ := p
      have hjn : (joinJ o.js j).length ≤ 501 := by
        unfold joinJ
        split
        · omega
        · rw [List.length_append, List.length_singleton]
          omega
      refine' qe_when hA (et_not (et_B (ev_call (ea_cons (ev_var rfl) (ea_cons (ev_fld (K := K) (ev_var rfl) (at_get 2 rfl hA) L.cl L.nJ rfl) ea_nil)) (spHM_v (sq_of (at_get (a := o.la) 0 rfl hA)) (by omega))))) (fun hb H4 hA => ?_) (fun hb H4 hA => ?_)
      · refine se_ret hA ev_c fun H5 hA => (q H5).1 (by simpa using hb) (at_stars' [_, _, _, _] ?_)
        have hA := each_set (x' := { o with js := joinJ o.js j }) (f := oM) hil (show At B (oM { o with js := joinJ o.js j } :: _ :: _ :: _ :: _ :: Fr) H5 from hA)
        have e1 : dA (os.set i { o with js := joinJ o.js j }) = dA os := by
          unfold dA dI
          rw [List.map_set]
          exact List.set_getElem?_self' (by rw [List.getElem?_map, hi]; rfl)
        have e2 : dN (os.set i { o with js := joinJ o.js j }) = dN os := by
          unfold dN dI
          rw [List.map_set]
          exact List.set_getElem?_self' (by rw [List.getElem?_map, hi]; rfl)
        rw [e1, e2]
        exact at_ix 4 [1, 2, 3, 0] hA
      · refine qe_ddel (key := Sum.inl o.tok) 4 rfl hA (ev_fld (K := K) (ev_var rfl) (at_get 2 rfl hA) L.cl L.nN rfl) (fun _ => ev_var rfl) hv2 fun H5 hA => ?_
        refine se_retpop (key := Sum.inl o.tok) 3 rfl hA (ev_fld (K := K) (ev_var rfl) (at_get 2 rfl hA) L.cl L.nA rfl) (fun _ => ev_var rfl) hv1 fun H6 hA => (q H6).2 (by simpa using hb) (at_stars' [_, _, _, _] ?_)
        rw [hd1, hd2] at hA
        exact at_ix 4 [1, 2, 3, 0] (at_drop hA)
def pairsOf (J : Int) (os : List OE) : List PyData := os.flatMap fun o => ((List.range J.toNat).filter fun k : Nat => !inV (.int (k : Int)) (o.js.map V.int)).map fun k : Nat => .tuple [.int o.tok, .int (k : Int)]
def spUn (K : PySem.W.Frag) (C : Addr) : Sp := fun vs H Q _ => ∃ (r dx da dn : Addr) (J last : Int) (os : List OE) (B : Hp) (F : List MP), vs = [.ref r] ∧ At B (RdS C r dx da dn J last os :: F) H ∧ Asc os ∧ os.length < 64 ∧ 0 ≤ J ∧ J ≤ 100 ∧
  ∀ B1 H1 p xs, Ex B B1 → At B1 (Pt p (.lst xs) :: RdS C r dx da dn J last os :: F) H1 → DpAll K B1 xs (pairsOf J os) → Q (.ref p) H1
def fU (o : OE) (k : Nat) : Bool := !inV (.int (k : Int)) (o.js.map V.int)
def gU (o : OE) (k : Nat) : PyData := .tuple [.int o.tok, .int (k : Int)]
theorem pairsOf_eq (J : Int) (os : List OE) : pairsOf J os = os.flatMap fun o => givenD J.toNat (fU o) (gU o) := rfl
theorem pairs_len (J : Int) : ∀ os : List OE, (pairsOf J os).length ≤ os.length * J.toNat
  | [] => Nat.zero_le _
  | o :: r => by
    rw [pairsOf_eq, List.flatMap_cons, List.length_append]
    have h1 := givenD_len J.toNat (fU o) (gU o)
    have h2 := pairs_len J r
    rw [pairsOf_eq] at h2
    rw [List.length_cons, Nat.add_mul]
    omega
theorem pairs_take {J : Int} {os : List OE} {i : Nat} {o : OE} (h : os[i]? = some o) : pairsOf J (os.take (i + 1)) = pairsOf J (os.take i) ++ givenD J.toNat (fU o) (gU o) := by
  rw [pairsOf_eq, pairsOf_eq, List.take_succ, h, List.flatMap_append]
  congr 1
  show List.flatMap _ [o] = _
  rw [List.flatMap_singleton]
theorem ok_unans {f C : Addr} {fd : FuncData} (F : Fun K "unanswered" "Reads.unanswered" s_Reads_unanswered f fd) (L : RdC K C) (T : Glo mg) : FnOk P w K mg base CX0 1 f fd ["self"] (spUn K C) := by
  refine F.ok sc_Reads_unanswered (fun vs H Q E h => ?_) (fun cdv A outer s H vs Q E hr h => ?_)
  · obtain ⟨r, dx, da, dn, J, last, os, B, Fr, rfl, _⟩ := h
    rfl
  · obtain ⟨r, dx, da, dn, J, last, os, B, Fr, rfl, hA, hasc, hlen, hJ0, hJ1, q⟩ := h
    refine ⟨_, (pss_cons (ps_set (i := 1) sc_Reads_unanswered.nd rfl (.inl rfl) (pe_lst pa_nil))
  (pss_cons (ps_for PassesOwn.never rfl (pi_list (pe_callB (call_sortedDI rfl) (by rfl) T.sorted (by decide +kernel) (pa_cons (pe_fld (pv 0) rfl) pa_nil))) (pg_name (i := 2) sc_Reads_unanswered.nd rfl (.inr rfl))
  (pss_cons (ps_set (i := 3) sc_Reads_unanswered.nd rfl (.inr rfl) (pe_dget (hu_of hr) (pe_fld (pv 0) rfl) (pv 2) (fun _ _ => rfl)))
  (pss_one (ps_expr (pe_bm PySem.F.plainAttrs_list PySem.F.slot_list_extend PySem.F.type_list_extend mt_extend (pv 1) (pa_cons (pe_lc (own := [("journal", 4)]) (g := gName 4) rfl sc_Reads_unanswered.nd (pi_range1 (by rfl) T.range (pa_cons (pe_fld (pv 0) rfl) pa_nil)) (blkOk_by (N := N_Reads_unanswered) (sc := defScope s_Reads_unanswered) (by decide +kernel)) (fun _ _ _ _ _ => (pg_name (i := 4) sc_Reads_unanswered.nd rfl (.inl rfl))) (fun _ _ _ _ _ => (pts_one (pt_cmpR (show OpR _ _ (rIn K true) from op_notIn_seq) (pv 4) (pv 3) (by rfl)))) (fun _ _ _ _ _ => (pe_tup (pa_cons (pv 2) (pa_cons (pv 4) pa_nil))))) pa_nil))))))
  (pss_one (ps_ret (pv 1))))), ?_⟩
    have hA := at_stars hA
    refine qe_lst (xs := []) hA (el_lst ea_nil (by decide)) fun pp H1 hA => ?_
    have hk : (dN os).map (·.1) = (os.map OE.tok).map Sum.inl := dI_keys
    have hle : (os.map OE.tok).Pairwise (· ≤ ·) := List.Pairwise.imp (fun {a b} h => by omega) hasc
    have hml : ((os.map OE.tok).map V.int).length = os.length := by rw [List.length_map, List.length_map]
    refine qe_forNL (K := K) (xs := (os.map OE.tok).map V.int) hA (el_sortedD (ev_fld (K := K) (ev_var rfl) (at_get 1 rfl hA) L.cl L.nN rfl) (at_get 3 rfl hA) hk (by rw [List.length_map]; exact hlen) hle)
      (fun p i σ' H' => ∃ (y2 y3 y4 : Option V) (B1 : Hp) (ps : List V), σ' = [some (.ref r), some (.ref pp), y2, y3, y4] ∧ Ex B B1 ∧ At B1 (Pt p (.lst ((os.map OE.tok).map V.int)) :: Pt pp (.lst ps) :: Pt r (.ins C dx (fR J last da dn)) :: Pt da (.dK (dA os)) :: Pt dn (.dK (dN os)) :: Each os oM :: Fr) H' ∧ DpAll K B1 ps (pairsOf J (os.take i)))
      (fun p H2 hA => ⟨none, none, none, B, [], rfl, Ex.refl B, hA, .nil⟩) (fun p i σ' H' _ h => ?_) (fun p i x σ' H' hx h => ?_) (fun p σ' H' h => ?_)
    · obtain ⟨_, _, _, _, _, _, _, hA, _⟩ := h
      exact at_get 0 rfl hA
    · obtain ⟨y2, y3, y4, B1, ps, rfl, b1, hA, hps⟩ := h
      obtain ⟨o, ho, rfl⟩ : ∃ o, os[i]? = some o ∧ x = V.int o.tok := by
        rw [List.getElem?_map, List.getElem?_map] at hx
        cases h : os[i]? with
        | none => rw [h] at hx; cases hx
        | some o => rw [h] at hx; exact ⟨o, rfl, (Option.some.inj hx).symm⟩
      have hv2 : valV (dN os) (Sum.inl o.tok) = some (.ref o.la) := dI_some (vf := fun o : OE => V.ref o.la) hasc.nd ho
      have hil : i < os.length := (List.getElem?_eq_some_iff.mp ho).1
      refine qe_asg (x := .ref o.la) hA (ev_dget (k := Sum.inl o.tok) (ev_fld (K := K) (ev_var rfl) (at_get 2 rfl hA) L.cl L.nN rfl) (ev_var rfl) (.inl (at_get 4 rfl hA)) hv2) fun H2 hA => ?_
      have hA := each_at (at_ix 6 [5, 0, 1, 2, 3, 4] hA) ho
      have hpl : ps.length ≤ os.length * J.toNat := by
        rw [dpa_len hps]
        refine Nat.le_trans (pairs_len J _) (Nat.mul_le_mul_right _ ?_)
        rw [List.length_take]
        omega
      have hm : os.length * J.toNat ≤ 64 * 100 := Nat.mul_le_mul (by omega) (by omega)
      have hgl := givenD_len J.toNat (fU o) (gU o)
      refine' sw_ext (K := K) (q := pp) (xs := ps) (ds := givenD J.toNat (fU o) (gU o)) 3 rfl hA (fun _ => ev_var rfl) (wl_lcR1 (n := J) (fU o) (gU o) ⟨hJ0, by omega⟩ (fun B2 H3 b2 hA => ea_cons (ev_fld (K := K) (ev_var rfl) (at_get 4 rfl hA) L.cl L.nJ rfl) ea_nil) (fun _ => rfl) (fun k hk B2 H3 p2 xs2 b2 hA => ?_) (fun k hk _ p2 xs2 => ?_)) (by omega) (fun p2 zs B2 H3 b2 hzs hA => ?_)
      · exact et_test (ev_op (ev_var rfl) (ev_var rfl) (rv_niL (K := K) (sq_of (at_get (a := o.la) 1 rfl hA)) rfl (flat_ints _)))
      · exact wv_tup (wa_cons (wv_int (wv_of fun _ _ _ _ => ev_var rfl)) (wa_cons (wv_int (wv_of fun _ _ _ _ => ev_var rfl)) wa_nil)) (by show 2 ≤ 100000; decide)
      · refine ⟨_, _, _, B2, ps ++ zs, rfl, b1.trans b2, ?_, ?_⟩
        · have hA := each_set (x' := o) (f := oM) hil (show At B2 (oM o :: Each (os.eraseIdx i) oM :: _ :: _ :: _ :: _ :: _ :: Fr) H3 from at_drop hA)
          rw [List.set_getElem?_self' ho] at hA
          exact at_ix 6 [1, 2, 3, 4, 5, 0] hA
        · rw [pairs_take ho]
          exact dpa_app (dpa_mono b2 _ _ hps) hzs
    · obtain ⟨y2, y3, y4, B1, ps, rfl, b1, hA, hps⟩ := h
      rw [hml, List.take_length] at hps
      exact se_ret hA (ev_var rfl) fun H2 hA => q B1 H2 pp ps b1 (at_swap (at_stars' [_, _, _, _] (at_ix 5 [1, 2, 3, 4, 0] (at_drop hA)))) hps

/-! ### the law's own list of open reads -/
structure ME where
  le : Addr
  tok : Int
  c : Int
  rid : Int
  mq : V
  q : PyData
  lj : Addr
  js : List Int
def rowM (m : ME) : List V := [.int m.tok, .int m.c, .int m.rid, m.mq, .ref m.lj]
def mM (m : ME) : MP := Star (Pt m.le (.lst (rowM m))) (Pt m.lj (.lst (m.js.map V.int)))
def lsM (ms : List ME) : List V := ms.map fun m => .ref m.le
def MoS (lo : Addr) (ms : List ME) : MP := Stars [Pt lo (.lst (lsM ms)), Each ms mM]
def fM (m : ME) (k : Nat) : Bool := !inV (.int (k : Int)) (m.js.map V.int)
def gM (m : ME) (k : Nat) : PyData := .tuple [.int m.tok, .int (k : Int)]
def pairsM (J : Int) (ms : List ME) : List PyData := ms.flatMap fun m => givenD J.toNat (fM m) (gM m)
theorem pairsM_take {J : Int} {os : List ME} {i : Nat} {o : ME} (h : os[i]? = some o) : pairsM J (os.take (i + 1)) = pairsM J (os.take i) ++ givenD J.toNat (fM o) (gM o) := by
  unfold pairsM
  rw [List.take_succ, h, List.flatMap_append]
  congr 1
  show List.flatMap _ [o] = _
  rw [List.flatMap_singleton]
theorem pairsM_len (J : Int) : ∀ os : List ME, (pairsM J os).length ≤ os.length * J.toNat
  | [] => Nat.zero_le _
  | o :: r => by
    have h1 := givenD_len J.toNat (fM o) (gM o)
    have h2 := pairsM_len J r
    unfold pairsM at h2 ⊢
    rw [List.flatMap_cons, List.length_append, List.length_cons, Nat.add_mul]
    omega
def spQuery (K : PySem.W.Frag) : Sp := fun vs H Q _ => ∃ (d : Int) (B : Hp) (l : List MP), vs = [.int d] ∧ 0 ≤ d ∧ At B l H ∧ ∀ v B1 H1 qd, Ex B B1 → At B1 l H1 → Dp K B1 v qd → Okn 4 qd → Q v H1
theorem ok_query {f : Addr} {fd : FuncData} (F : Fun K "_law_query" "_law_query" s__law_query f fd) (T : Glo mg) : FnOk P w K mg base CX0 1 f fd ["draw"] (spQuery K) := by
  refine F.ok sc__law_query (fun vs H Q E h => ?_) (fun cdv A outer s H vs Q E hr h => ?_)
  · obtain ⟨d, B, l, rfl, _⟩ := h
    rfl
  · obtain ⟨d, B, l, rfl, hd, hA, q⟩ := h
    refine ⟨_, (pss_cons (ps_set (i := 1) sc__law_query.nd rfl (.inl rfl) (pe_tup (pa_cons (pe_tup (pa_cons pe_str (pa_cons (pv 0) pa_nil))) (pa_cons (pe_tup (pa_cons pe_str (pa_cons pe_str pa_nil))) (pa_cons (pe_tup (pa_cons pe_str (pa_cons pe_str pa_nil))) (pa_cons (pe_tup (pa_cons pe_str (pa_cons (pe_tup (pa_cons pe_int (pa_cons (pe_tup (pa_cons (pv 0) (pa_cons (pe_tup pa_nil) pa_nil))) pa_nil))) (pa_cons pe_str pa_nil)))) (pa_cons pe_str (pa_cons (pe_op op_add pe_int (pv 0)) (pa_cons (pe_tup pa_nil) pa_nil)))))))))
  (pss_one (ps_ret (pe_ix ix_tup (pv 1) (pe_op op_mod (pe_callTy call_int1 (by rfl) T.int (by decide +kernel) (pa_cons (pv 0) pa_nil)) pe_int) (fun _ _ => rfl))))), ?_⟩
    refine' qw_asg (R := rD K (.tuple [.tuple [.str "content", .int d], .tuple [.str "find", .str "/a"], .tuple [.str "names", .str "/"], .tuple [.str "x", .tuple [.int 1, .tuple [.int d, .tuple []]], .str "y"], .str "word", .int (7 + d), .tuple []])) hA (wv_tup (wa_cons (wv_tup (wa_cons wv_str (wa_cons ?i1 wa_nil)) ?n1) (wa_cons (wv_tup (wa_cons wv_str (wa_cons wv_str wa_nil)) ?n2) (wa_cons (wv_tup (wa_cons wv_str (wa_cons wv_str wa_nil)) ?n3) (wa_cons (wv_tup (wa_cons wv_str (wa_cons (wv_tup (wa_cons ?i2 (wa_cons (wv_tup (wa_cons ?i3 (wa_cons (wv_tup wa_nil ?n4) wa_nil)) ?n5) wa_nil)) ?n6) (wa_cons wv_str wa_nil))) ?n7) (wa_cons wv_str (wa_cons ?i4 (wa_cons (wv_tup wa_nil ?n8) wa_nil))))))) ?n9) (fun v B1 H1 b1 hA hv => ?_)
    case i1 => exact wv_int (wv_of fun _ _ _ _ => ev_var rfl)
    case i2 => exact wv_int (wv_of fun _ _ _ _ => ev_c)
    case i3 => exact wv_int (wv_of fun _ _ _ _ => ev_var rfl)
    case i4 => exact wv_int (wv_of fun _ _ _ _ => ev_op ev_c (ev_var rfl) rv_I0)
    case n1 => show 2 ≤ 100000; decide
    case n2 => show 2 ≤ 100000; decide
    case n3 => show 2 ≤ 100000; decide
    case n4 => show 0 ≤ 100000; decide
    case n5 => show 2 ≤ 100000; decide
    case n6 => show 2 ≤ 100000; decide
    case n7 => show 3 ≤ 100000; decide
    case n8 => show 0 ≤ 100000; decide
    case n9 => show 7 ≤ 100000; decide
    have h0 := Int.emod_nonneg d (show (7 : Int) ≠ 0 by decide)
    have h1 := Int.emod_lt_of_pos d (show (0 : Int) < 7 by decide)
    have hok : ∀ e, e ∈ [PyData.tuple [.str "content", .int d], .tuple [.str "find", .str "/a"], .tuple [.str "names", .str "/"], .tuple [.str "x", .tuple [.int 1, .tuple [.int d, .tuple []]], .str "y"], .str "word", .int (7 + d), .tuple []] → Okn 4 e :=
      okn_cons (.tup (by show 2 ≤ 50000; decide) (okn_cons (.str _) (okn_cons (.int _) okn_nil))) (okn_cons (.tup (by show 2 ≤ 50000; decide) (okn_cons (.str _) (okn_cons (.str _) okn_nil))) (okn_cons (.tup (by show 2 ≤ 50000; decide) (okn_cons (.str _) (okn_cons (.str _) okn_nil))) (okn_cons (.tup (by show 3 ≤ 50000; decide) (okn_cons (.str _) (okn_cons (.tup (by show 2 ≤ 50000; decide) (okn_cons (.int _) (okn_cons (.tup (by show 2 ≤ 50000; decide) (okn_cons (.int _) (okn_cons (.tup (by show 0 ≤ 50000; decide) okn_nil) okn_nil))) okn_nil))) (okn_cons (.str _) okn_nil)))) (okn_cons (.str _) (okn_cons (.int _) (okn_cons (.tup (by show 0 ≤ 50000; decide) okn_nil) okn_nil))))))
    generalize hqs : [PyData.tuple [.str "content", .int d], .tuple [.str "find", .str "/a"], .tuple [.str "names", .str "/"], .tuple [.str "x", .tuple [.int 1, .tuple [.int d, .tuple []]], .str "y"], .str "word", .int (7 + d), .tuple []] = qs at hv hok
    have hlen : qs.length = 7 := by rw [← hqs]; rfl
    have hat := atI_getD (xs := qs) (d := PyData.none) h0 (by omega)
    refine' sw_ret (R := rD K (qs.getD (d % 7).toNat .none)) hA (wv_ixT (ds := qs) (fun B2 b2 => ed_var rfl (dp_mono b2 _ _ hv)) (fun H2 => ?w) hat) (fun v2 B2 H2 b2 hA hv2 => q v2 B2 H2 _ (b1.trans b2) hA hv2 (hok _ ?m))
    case w => walk_at "ev"
    case m =>
      rw [List.getD_eq_getElem?_getD, List.getElem?_eq_getElem (by omega)]
      exact List.getElem_mem _
def spLU (K : PySem.W.Frag) : Sp := fun vs H Q _ => ∃ (lo : Addr) (J : Int) (ms : List ME) (B : Hp) (F : List MP), vs = [.ref lo, .int J] ∧ At B (MoS lo ms :: F) H ∧ ms.length < 64 ∧ 0 ≤ J ∧ J ≤ 100 ∧ ∀ B1 H1 p xs, Ex B B1 → At B1 (Pt p (.lst xs) :: MoS lo ms :: F) H1 → DpAll K B1 xs (pairsM J ms) → Q (.ref p) H1
theorem ok_lu {f : Addr} {fd : FuncData} (F : Fun K "_law_unanswered" "_law_unanswered" s__law_unanswered f fd) (T : Glo mg) : FnOk P w K mg base CX0 1 f fd ["opened", "count"] (spLU K) := by
  refine F.ok sc__law_unanswered (fun vs H Q E h => ?_) (fun cdv A outer s H vs Q E hr h => ?_)
  · obtain ⟨lo, J, ms, B, Fr, rfl, _⟩ := h
    rfl
  · obtain ⟨lo, J, ms, B, Fr, rfl, hA, hlen, hJ0, hJ1, q⟩ := h
    refine ⟨_, (pss_cons (ps_set (i := 2) sc__law_unanswered.nd rfl (.inl rfl) (pe_lst pa_nil))
  (pss_cons (ps_for PassesOwn.never rfl (pi_list (pv 0)) (pg_name (i := 3) sc__law_unanswered.nd rfl (.inl rfl))
  (pss_one (ps_for PassesOwn.never rfl (pi_range1 (by rfl) T.range (pa_cons (pv 1) pa_nil)) (pg_name (i := 4) sc__law_unanswered.nd rfl (.inl rfl))
  (pss_one (ps_if (pt_cmpR (show OpR _ _ (rIn K true) from op_notIn_seq) (pv 4) (pe_ix ix_list (pv 3) pe_int (fun _ _ => rfl)) (by rfl))
  (pss_one (ps_expr (pe_bm PySem.F.plainAttrs_list PySem.F.slot_list_append PySem.F.type_list_append mt_append (pv 2) (pa_cons (pe_tup (pa_cons (pe_ix ix_list (pv 3) pe_int (fun _ _ => rfl)) (pa_cons (pv 4) pa_nil))) pa_nil))))
  pss_nil)))))
  (pss_one (ps_ret (pv 2))))), ?_⟩
    have hA := at_stars hA
    refine qe_lst (xs := []) hA (el_lst ea_nil (by decide)) fun pp H1 hA => ?_
    have hml : (lsM ms).length = ms.length := List.length_map _
    have hmul : ms.length * J.toNat ≤ 64 * 100 := Nat.mul_le_mul (by omega) (by omega)
    refine q_forLn (K := K) (a := lo) (xs := lsM ms) (ev_var rfl) (sq_of (at_get 1 rfl hA)) (fun i σ' H' => ∃ (y3 y4 : Option V) (B1 : Hp) (ps : List V), σ' = [some (.ref lo), some (.int J), some (.ref pp), y3, y4] ∧ Ex B B1 ∧ At B1 (Pt pp (.lst ps) :: Pt lo (.lst (lsM ms)) :: Each ms mM :: Fr) H' ∧ DpAll K B1 ps (pairsM J (ms.take i)))
      (fun H2 e2 => ⟨none, none, B, [], rfl, Ex.refl B, at_ex hA e2, .nil⟩) (fun i σ' H' _ h => ?_) (fun i x σ' H' hx h => ?_) (fun σ' H' h => ?_)
    · obtain ⟨_, _, _, _, _, _, hA, _⟩ := h
      exact sq_of (at_get 1 rfl hA)
    · obtain ⟨y3, y4, B1, ps, rfl, b1, hA, hps⟩ := h
      obtain ⟨o, ho, rfl⟩ : ∃ o, ms[i]? = some o ∧ x = V.ref o.le := by
        unfold lsM at hx
        rw [List.getElem?_map] at hx
        cases h : ms[i]? with
        | none => rw [h] at hx; cases hx
        | some o => rw [h] at hx; exact ⟨o, rfl, (Option.some.inj hx).symm⟩
      have hil : i < ms.length := (List.getElem?_eq_some_iff.mp ho).1
      have hpl := pairsM_len J (ms.take i)
      have hpl2 : (ms.take i).length * J.toNat ≤ 64 * 100 := Nat.mul_le_mul (by rw [List.length_take]; omega) (by omega)
      have hA := at_split (each_at (f := mM) (xs := ms) (at_ix 3 [2, 0, 1] hA) ho)
      refine' s_forR1 (n := J) (ea_cons (ev_var rfl) ea_nil) ⟨hJ0, by omega⟩ (fun k σ' H2 => ∃ (y4 : Option V) (B2 : Hp) (ps : List V), σ' = [some (.ref lo), some (.int J), some (.ref pp), some (.ref o.le), y4] ∧ Ex B B2 ∧ At B2 (Pt o.le (.lst (rowM o)) :: Pt o.lj (.lst (o.js.map V.int)) :: Each (ms.eraseIdx i) mM :: Pt pp (.lst ps) :: Pt lo (.lst (lsM ms)) :: Fr) H2 ∧ DpAll K B2 ps (pairsM J (ms.take i) ++ givenD k (fM o) (gM o))) (fun H2 e2 => ⟨y4, B1, ps, rfl, b1, at_ex hA e2, by
          show DpAll K B1 ps (pairsM J (ms.take i) ++ [])
          rw [List.append_nil]
          exact hps⟩) (fun k σ' H2 hk h => ?_) (fun σ' H2 h => ?_)
      · obtain ⟨y4, B2, ps, rfl, b2, hA, hps⟩ := h
        have hgl := givenD_len k (fM o) (gM o)
        have hpsl := dpa_len hps
        rw [List.length_append] at hpsl
        refine' se_when (b := fM o k) hA (et_test (ev_op (ev_var rfl) (ev_op (ev_var rfl) ev_c (rv_ixL (K := K) (v := .ref o.lj) (sq_of (at_get (a := o.le) 0 rfl hA)) rfl)) (rv_niL (K := K) (sq_of (at_get (a := o.lj) 1 rfl hA)) rfl (flat_ints _)))) (fun hb H3 hA => ?_) (fun hb H3 hA => ?_)
        · refine' sw_app (K := K) (q := pp) (xs := ps) (R := rD K (gM o k)) 3 rfl hA (fun _ => ev_var rfl) (wv_tup (wa_cons (wv_int (wv_of fun B3 H4 b3 hA => ev_op (ev_var rfl) ev_c (rv_ixL (K := K) (v := .int o.tok) (sq_of (at_get (a := o.le) 0 rfl hA)) rfl))) (wa_cons (wv_int (wv_of fun _ _ _ _ => ev_var rfl)) wa_nil)) (by show 2 ≤ 100000; decide)) (by omega) (fun v B3 H4 b3 hv hA => ?_)
          refine ⟨_, B3, ps ++ [v], rfl, b2.trans b3, hA, ?_⟩
          rw [givenD_yes hb, ← List.append_assoc]
          exact dpa_app (dpa_mono b3 _ _ hps) (dpa_one hv)
        · refine ⟨_, B2, ps, rfl, b2, hA, ?_⟩
          rw [givenD_no hb]
          exact hps
      · obtain ⟨y4, B2, ps, rfl, b2, hA, hps⟩ := h
        refine ⟨_, _, B2, ps, rfl, b2, ?_, by rw [pairsM_take ho]; exact hps⟩
        have hA := each_set (x' := o) (f := mM) hil (show At B2 (mM o :: Each (ms.eraseIdx i) mM :: _ :: _ :: Fr) H2 from at_join hA)
        rw [List.set_getElem?_self' ho] at hA
        exact at_ix 3 [1, 2, 0] hA
    · obtain ⟨y3, y4, B1, ps, rfl, b1, hA, hps⟩ := h
      rw [hml, List.take_length] at hps
      exact se_ret hA (ev_var rfl) fun H2 hA => q B1 H2 pp ps b1 (at_swap (at_stars' [_, _] (at_ix 3 [1, 2, 0] hA))) hps
def AscM (ms : List ME) : Prop := (ms.map ME.tok).Pairwise (· < ·)
def spDue (K : PySem.W.Frag) : Sp := fun vs H Q _ => ∃ (lo : Addr) (J t j : Int) (ms : List ME) (B : Hp) (F : List MP), vs = [.ref lo, .int J, .int t, .int j] ∧ At B (MoS lo ms :: F) H ∧ (ms.map ME.tok).Nodup ∧ ms.length < 64 ∧ (∀ m ∈ ms, m.js.length ≤ 500 ∧ Dp K B m.mq m.q) ∧
  (((∀ m ∈ ms, m.tok ≠ t) ∧ ∀ H1, At B (MoS lo ms :: F) H1 → Q .non H1) ∨
   ∃ i m, ms[i]? = some m ∧ m.tok = t ∧ (2 * ((joinJ m.js j).length : Int) ≤ J → ∀ H1, At B (MoS lo (ms.set i { m with js := joinJ m.js j }) :: F) H1 → Q .non H1) ∧
     (¬ 2 * ((joinJ m.js j).length : Int) ≤ J → ∀ B1 H1 v, Ex B B1 → At B1 (MoS lo (ms.eraseIdx i) :: F) H1 → Dp K B1 v (.tuple [.int m.c, .int m.rid, m.q]) → Q v H1))
theorem ok_due {f : Addr} {fd : FuncData} (F : Fun K "_law_due" "_law_due" s__law_due f fd) (T : Glo mg) : FnOk P w K mg base CX0 1 f fd ["opened", "count", "token", "journal"] (spDue K) := by
  refine F.ok sc__law_due (fun vs H Q E h => ?_) (fun cdv A outer s H vs Q E hr h => ?_)
  · obtain ⟨lo, J, t, j, ms, B, Fr, rfl, _⟩ := h
    rfl
  · obtain ⟨lo, J, t, j, ms, B, Fr, rfl, hA, hnd, hlen, hjs, q⟩ := h
    refine ⟨_, (pss_cons (ps_set (i := 4) sc__law_due.nd rfl (.inl rfl) (pe_un un_neg pe_int))
  (pss_cons (ps_for PassesOwn.never rfl (pi_range1 (by rfl) T.range (pa_cons (pe_callB call_len_seq (by rfl) T.len PySem.boot_len (pa_cons (pv 0) pa_nil)) pa_nil)) (pg_name (i := 5) sc__law_due.nd rfl (.inl rfl))
  (pss_one (ps_if (pt_cmpR op_eq (pe_ix ix_list (pe_ix ix_list (pv 0) (pv 5) (fun _ _ => rfl)) pe_int (fun _ _ => rfl)) (pv 2) (nomark _))
  (pss_one (ps_set (i := 4) sc__law_due.nd rfl (.inl rfl) (pv 5)))
  pss_nil)))
  (pss_cons (ps_if (pt_cmpR op_lt (pv 4) pe_int (nomark _))
  (pss_one (ps_ret pe_non))
  pss_nil)
  (pss_cons (ps_set (i := 6) sc__law_due.nd rfl (.inl rfl) (pe_ix ix_list (pv 0) (pv 4) (fun _ _ => rfl)))
  (pss_cut (ps_if (pt_cmpR (show OpR _ _ (rIn K true) from op_notIn_seq) (pv 3) (pe_ix ix_list (pv 6) pe_int (fun _ _ => rfl)) (by rfl))
  (pss_one (ps_expr (pe_bm PySem.F.plainAttrs_list PySem.F.slot_list_append PySem.F.type_list_append mt_append (pe_ix ix_list (pv 6) pe_int (fun _ _ => rfl)) (pa_cons (pv 3) pa_nil))))
  pss_nil)
  (pss_cons (ps_if (pt_cmpR op_le (pe_op op_mul pe_int (pe_callB call_len_seq (by rfl) T.len PySem.boot_len (pa_cons (pe_ix ix_list (pv 6) pe_int (fun _ _ => rfl)) pa_nil))) (pv 1) (nomark _))
  (pss_one (ps_ret pe_non))
  pss_nil)
  (pss_cons (ps_expr (pe_bm PySem.F.plainAttrs_list PySem.F.slot_list_pop PySem.F.type_list_pop mt_popAt (pv 0) (pa_cons (pv 4) pa_nil)))
  (pss_one (ps_ret (pe_tup (pa_cons (pe_ix ix_list (pv 6) pe_int (fun _ _ => rfl)) (pa_cons (pe_ix ix_list (pv 6) pe_int (fun _ _ => rfl)) (pa_cons (pe_ix ix_list (pv 6) pe_int (fun _ _ => rfl)) pa_nil))))))))))))), ?_⟩
    have hA := at_stars hA
    have hml : (lsM ms).length = ms.length := List.length_map _
    refine qe_asg (x := .int (-1)) hA (ev_un ev_c ru_neg) fun H1 hA => ?_
    -- the loop that seeks
    refine' q_forR1 (n := (ms.length : Int)) (ea_cons (ev_is (ev_len (K := K) (ev_var rfl) (sq_of (at_get (a := lo) 0 rfl hA))) (by rw [hml])) ea_nil) (by omega) (fun k σ' H2 => ∃ (y5 : Option V) (fo : Int), σ' = [some (.ref lo), some (.int J), some (.int t), some (.int j), some (.int fo), y5, none] ∧ At B (Pt lo (.lst (lsM ms)) :: Each ms mM :: Fr) H2 ∧ ((fo = -1 ∧ ∀ i m, i < k → ms[i]? = some m → m.tok ≠ t) ∨ ∃ (i : Nat) (m : ME), fo = (i : Int) ∧ i < k ∧ ms[i]? = some m ∧ m.tok = t))
      (fun H2 e2 => ⟨none, -1, rfl, at_ex hA e2, .inl ⟨rfl, fun i m h => absurd h (by omega)⟩⟩) (fun k σ' H2 hk h => ?_) (fun σ' H2 h => ?_)
    · obtain ⟨y5, fo, rfl, hA, hf⟩ := h
      have hkl : k < ms.length := by omega
      have hk' : ms[k]? = some ms[k] := List.getElem?_eq_getElem hkl
      have hat : atI (lsM ms) (k : Int) = some (.ref ms[k].le) := atI_nat (by unfold lsM; rw [List.getElem?_map, hk']; rfl)
      have hAe := each_at (f := mM) (l := Pt lo (.lst (lsM ms)) :: Fr) (at_swap hA) hk'
      have hle : H2 ms[k].le = some (.lst (rowM ms[k])) := at_get 0 rfl (at_split hAe)
      refine' s_when (b := decide (ms[k].tok = t)) (et_test (ev_op (ev_op (ev_op (ev_var rfl) (ev_var rfl) (rv_ixL (K := K) (sq_of (at_get (a := lo) 0 rfl hA)) hat)) ev_c (rv_ixL (K := K) (v := .int ms[k].tok) (sq_of hle) rfl)) (ev_var rfl) rv_eqI)) (fun hb H3 e3 => ?_) (fun hb H3 e3 => ?_)
      · refine s_asg (v := .int (k : Int)) (ev_var rfl) fun H4 e4 => ⟨_, _, rfl, at_ex hA (e3.trans e4), .inr ⟨k, ms[k], rfl, by omega, hk', of_decide_eq_true hb⟩⟩
      · refine ⟨_, fo, rfl, at_ex hA e3, ?_⟩
        rcases hf with ⟨rfl, hf⟩ | ⟨i, m, h1, h2, h3, h4⟩
        · refine .inl ⟨rfl, fun i m hi hm => ?_⟩
          by_cases e : i = k
          · rw [e, hk'] at hm
            rw [← Option.some.inj hm]
            exact of_decide_eq_false hb
          · exact hf i m (by omega) hm
        · exact .inr ⟨i, m, h1, by omega, h3, h4⟩
    · obtain ⟨y5, fo, rfl, hA, hf⟩ := h
      rcases hf with ⟨rfl, hf⟩ | ⟨i, m, rfl, _, hi, rfl⟩
      · refine' qe_when (b := true) hA (et_is (et_test (ev_op (ev_var rfl) ev_c rv_I0)) (by decide)) (fun _ H3 hA => ?_) (fun hb => nomatch hb)
        rcases q with ⟨hno, q⟩ | ⟨i, m, hi, ht, _⟩
        · exact se_ret hA ev_c fun H4 hA => q H4 (at_stars' [_, _] hA)
        · exact absurd ht (hf i m (by have := (List.getElem?_eq_some_iff.mp hi).1; omega) hi)
      · rcases q with ⟨hno, q⟩ | ⟨i', m', hi', ht', q1, q2⟩
        · exact absurd rfl (hno m (List.mem_of_getElem? hi))
        · have hil : i < ms.length := (List.getElem?_eq_some_iff.mp hi).1
          obtain ⟨rfl, rfl⟩ : i' = i ∧ m' = m := by
            have hil' : i' < ms.length := (List.getElem?_eq_some_iff.mp hi').1
            have e : i' = i := (List.getElem_inj (xs := ms.map ME.tok) (h₀ := by rw [List.length_map]; exact hil') (h₁ := by rw [List.length_map]; exact hil) hnd).mp (by
              rw [List.getElem_map, List.getElem_map, (List.getElem?_eq_some_iff.mp hi').2, (List.getElem?_eq_some_iff.mp hi).2]
              exact ht')
            subst e
            rw [hi] at hi'
            exact ⟨rfl, (Option.some.inj hi').symm⟩
          obtain ⟨hj5, hdq⟩ := hjs m' (List.mem_of_getElem? hi)
          have hat : atI (lsM ms) (i' : Int) = some (.ref m'.le) := atI_nat (by unfold lsM; rw [List.getElem?_map, hi]; rfl)
          refine' qe_when (b := false) hA (et_is (et_test (ev_op (ev_var rfl) ev_c rv_I0)) (decide_eq_false (by omega))) (fun hb => nomatch hb) (fun _ H3 hA => ?_)
          refine qe_asg (x := .ref m'.le) hA (ev_op (ev_var rfl) (ev_var rfl) (rv_ixL (K := K) (sq_of (at_get (a := lo) 0 rfl hA)) hat)) fun H4 hA => ?_
          have hA := at_split (each_at (f := mM) (at_swap hA) hi)
          have hjl : (m'.js.map V.int).length = m'.js.length := List.length_map _
          refine' q_cut (M := fun σ' H' => σ' = [some (.ref lo), some (.int J), some (.int m'.tok), some (.int j), some (.int (i' : Int)), y5, some (.ref m'.le)] ∧ At B (Pt m'.le (.lst (rowM m')) :: Pt m'.lj (.lst ((joinJ m'.js j).map V.int)) :: Each (ms.eraseIdx i') mM :: Pt lo (.lst (lsM ms)) :: Fr) H') ?cut (fun σ' H5 p => ?_)
          case cut =>
            refine' se_when hA (et_test (ev_op (ev_var rfl) (ev_op (ev_var rfl) ev_c (rv_ixL (K := K) (v := .ref m'.lj) (sq_of (at_get (a := m'.le) 0 rfl hA)) rfl)) (rv_niL (K := K) (sq_of (at_get (a := m'.lj) 1 rfl hA)) rfl (flat_ints _)))) (fun hb H5 hA => ?_) (fun hb H5 hA => ?_)
            · have hn : ¬ j ∈ m'.js := fun h => by rw [(inV_int j m'.js).mpr h] at hb; cases hb
              refine se_app (K := K) (q := m'.lj) (xs := m'.js.map V.int) 1 rfl hA (ev_op (ev_var rfl) ev_c (rv_ixL (K := K) (v := .ref m'.lj) (sq_of (at_get (a := m'.le) 0 rfl hA)) rfl)) (ev_var rfl) (by omega) fun H6 hA => ⟨rfl, ?_⟩
              unfold joinJ
              rw [if_neg hn, List.map_append]
              exact hA
            · have hy : j ∈ m'.js := (inV_int j m'.js).mp (by simpa using hb)
              refine ⟨rfl, ?_⟩
              unfold joinJ
              rw [if_pos hy]
              exact hA
          obtain ⟨rfl, hA⟩ := p
          have hjn : ((joinJ m'.js j).map V.int).length = (joinJ m'.js j).length := List.length_map _
          refine' qe_when (b := decide (2 * ((joinJ m'.js j).length : Int) ≤ J)) hA (et_is (et_test (ev_op (ev_op ev_c (ev_len (K := K) (ev_op (ev_var rfl) ev_c (rv_ixL (K := K) (v := .ref m'.lj) (sq_of (at_get (a := m'.le) 0 rfl hA)) rfl)) (sq_of (at_get (a := m'.lj) 1 rfl hA))) (rv_I (.inl (by decide)))) (ev_var rfl) rv_I0)) (by rw [hjn])) (fun hb H6 hA => ?_) (fun hb H6 hA => ?_)
          · refine se_ret hA ev_c fun H7 hA => q1 (of_decide_eq_true hb) H7 (at_stars' [_, _] ?_)
            have hA := each_set (x' := { m' with js := joinJ m'.js j }) (f := mM) hil (show At B (mM { m' with js := joinJ m'.js j } :: Each (ms.eraseIdx i') mM :: _ :: Fr) H7 from at_join hA)
            have e1 : lsM (ms.set i' { m' with js := joinJ m'.js j }) = lsM ms := by
              unfold lsM
              rw [List.map_set]
              exact List.set_getElem?_self' (by rw [List.getElem?_map, hi]; rfl)
            rw [e1]
            exact at_swap hA
          · -- opened.pop(found)
            have hb := of_decide_eq_false hb
            refine ⟨_, rfl, .inl ⟨rfl, _, sq_of (at_get (a := lo) 3 rfl hA)⟩, ⟨_, rfl, ?_⟩⟩
            refine ⟨lo, lsM ms, (i' : Int), i', .ref m'.le, rfl, rfl, at_get 3 rfl hA, by omega, by omega, ?_, by unfold lsM; rw [List.getElem?_map, hi]; rfl, ?_⟩
            · have := ixN_seq (n := (lsM ms).length) (i := (i' : Int)) (j := i') (by unfold ixN; rw [if_pos (by omega), if_pos (by omega)]; rfl)
              exact this.1
            · have hA := at_upd (u := .lst ((lsM ms).eraseIdx i')) 3 rfl hA
              refine' sw_ret (R := rD K (.tuple [.int m'.c, .int m'.rid, m'.q])) hA (wv_tup (wa_cons (wv_int (wv_of fun B3 H7 b3 hA => ev_op (ev_var rfl) ev_c (rv_ixL (K := K) (v := .int m'.c) (sq_of (at_get (a := m'.le) 0 rfl hA)) rfl))) (wa_cons (wv_int (wv_of fun B3 H7 b3 hA => ev_op (ev_var rfl) ev_c (rv_ixL (K := K) (v := .int m'.rid) (sq_of (at_get (a := m'.le) 0 rfl hA)) rfl))) (wa_cons (wv_dp (x := m'.mq) (wv_of fun B3 H7 b3 hA => ev_op (ev_var rfl) ev_c (rv_ixL (K := K) (v := m'.mq) (sq_of (at_get (a := m'.le) 0 rfl hA)) rfl)) hdq) wa_nil))) (by show 3 ≤ 100000; decide)) (fun v B3 H7 b3 hA hv => q2 hb B3 H7 v b3 (at_stars' [_, _] ?_) hv)
              have hA := at_drop (at_drop hA)
              have e1 : (lsM ms).eraseIdx i' = lsM (ms.eraseIdx i') := map_erase _ _ _
              have hA : At B3 (Each (ms.eraseIdx i') mM :: Pt lo (.lst ((lsM ms).eraseIdx i')) :: Fr) H7 := hA
              rw [e1] at hA
              exact at_swap hA

/-! ### the law -/
structure EE where
  o : OE
  m : ME
structure EOk (K : PySem.W.Frag) (B : Hp) (J last : Int) (n : Nat) (e : EE) : Prop where
  tk : e.m.tok = e.o.tok
  sj : e.m.js = e.o.js
  qq : e.o.q = .tuple [.int e.m.c, .int e.m.rid, e.m.q]
  le : e.o.tok ≤ last
  nd : e.o.js.Nodup
  rg : ∀ x ∈ e.o.js, 0 ≤ x ∧ x < J
  jl : e.o.js.length ≤ n
  dv : Dp K B e.o.qv e.o.q
  dm : Dp K B e.m.mq e.m.q
  ok : Okn 4 e.m.q
structure Inv51 (K : PySem.W.Frag) (B : Hp) (J last : Int) (n : Nat) (es : List EE) : Prop where
  len : es.length ≤ n
  asc : (es.map fun e => e.o.tok).Pairwise (· < ·)
  all : ∀ e ∈ es, EOk K B J last n e
theorem EOk.up {B B' : Hp} {J last last' : Int} {n n' : Nat} {e : EE} (b : Ex B B') (hl : last ≤ last') (hn : n ≤ n') (h : EOk K B J last n e) : EOk K B' J last' n' e := ⟨h.tk, h.sj, h.qq, by have := h.le; omega, h.nd, h.rg, Nat.le_trans h.jl hn, dp_mono b _ _ h.dv, dp_mono b _ _ h.dm, h.ok⟩
theorem Inv51.up {B B' : Hp} {J last last' : Int} {n n' : Nat} {es : List EE} (b : Ex B B') (hl : last ≤ last') (hn : n ≤ n') (h : Inv51 K B J last n es) : Inv51 K B' J last' n' es := ⟨Nat.le_trans h.len hn, h.asc, fun e he => (h.all e he).up b hl hn⟩
theorem Inv51.ascO {B : Hp} {J last : Int} {n : Nat} {es : List EE} (h : Inv51 K B J last n es) : Asc (es.map EE.o) := by
  unfold Asc
  rw [List.map_map]
  exact h.asc
theorem Inv51.ndM {B : Hp} {J last : Int} {n : Nat} {es : List EE} (h : Inv51 K B J last n es) : ((es.map EE.m).map ME.tok).Nodup := by
  rw [List.map_map]
  have e : es.map (ME.tok ∘ EE.m) = es.map fun e => e.o.tok := List.map_congr_left fun e he => (h.all e he).tk
  rw [e]
  exact List.Pairwise.imp (fun {a b} h e => by omega) h.asc
theorem Inv51.pairs {B : Hp} {J last : Int} {n : Nat} {es : List EE} (h : Inv51 K B J last n es) : pairsM J (es.map EE.m) = pairsOf J (es.map EE.o) := by
  rw [pairsOf_eq]
  unfold pairsM
  rw [List.flatMap_map, List.flatMap_map]
  have hall := h.all
  clear h
  induction es with
  | nil => rfl
  | cons e r ih =>
    rw [List.flatMap_cons, List.flatMap_cons, ih fun x hx => hall x (List.mem_cons_of_mem _ hx)]
    congr 1
    have k := hall e List.mem_cons_self
    unfold fM gM fU gU
    rw [k.tk, k.sj]
theorem Inv51.add {B : Hp} {J last : Int} {n : Nat} {es : List EE} {e : EE} (h : Inv51 K B J last n es) (he : EOk K B J (last + 1) (n + 1) e) (ht : e.o.tok = last + 1) : Inv51 K B J (last + 1) (n + 1) (es ++ [e]) := by
  refine ⟨by rw [List.length_append, List.length_singleton]; have := h.len; omega, ?_, fun x hx => ?_⟩
  · rw [List.map_append, List.pairwise_append]
    refine ⟨h.asc, by simp, fun a ha b hb => ?_⟩
    obtain ⟨x, hx, rfl⟩ := List.mem_map.mp ha
    have e2 : b = e.o.tok := by simpa using hb
    have := (h.all x hx).le
    omega
  · rcases List.mem_append.mp hx with q | q
    · exact (h.all x q).up (Ex.refl B) (by omega) (by omega)
    · rw [List.mem_singleton.mp q]
      exact he
theorem joinJ_ok {js : List Int} {j J : Int} {n : Nat} (nd : js.Nodup) (rg : ∀ x ∈ js, 0 ≤ x ∧ x < J) (hl : js.length ≤ n) (h0 : 0 ≤ j) (h1 : j < J) : (joinJ js j).Nodup ∧ (∀ x ∈ joinJ js j, 0 ≤ x ∧ x < J) ∧ (joinJ js j).length ≤ n + 1 := by
  unfold joinJ
  split
  · exact ⟨nd, rg, by omega⟩
  · rename_i q
    refine ⟨?_, fun x hx => ?_, by rw [List.length_append, List.length_singleton]; omega⟩
    · rw [List.nodup_append]
      refine ⟨nd, by simp, fun a ha b hb => ?_⟩
      have e : b = j := by simpa using hb
      intro e2
      exact q (e ▸ e2 ▸ ha)
    · rcases List.mem_append.mp hx with k | k
      · exact rg x k
      · rw [List.mem_singleton.mp k]
        exact ⟨h0, h1⟩
theorem hm_len {js : List Int} {J : Int} (nd : js.Nodup) (rg : ∀ x ∈ js, 0 ≤ x ∧ x < J) : hmB js J = decide ((js.length : Int) ≥ J / 2 + 1) := by
  obtain ⟨acc, h1, h2, _, h4⟩ := setSt_acc (inB J) js
  have hp : acc.Perm js := (List.perm_ext_iff_of_nodup h1 nd).mpr fun x => by
    rw [h4 x]
    refine ⟨fun h => h.1, fun h => ⟨h, ?_⟩⟩
    unfold inB
    rw [decide_eq_true (rg x h).1, decide_eq_true (rg x h).2]
    rfl
  unfold hmB
  rw [h2, hp.length_eq]
def withJ (e : EE) (j : Int) : EE := ⟨{ e.o with js := joinJ e.o.js j }, { e.m with js := joinJ e.m.js j }⟩
theorem Inv51.upd {B : Hp} {J last j : Int} {n i : Nat} {es : List EE} {e : EE} (h : Inv51 K B J last n es) (hi : es[i]? = some e) (h0 : 0 ≤ j) (h1 : j < J) : Inv51 K B J last (n + 1) (es.set i (withJ e j)) := by
  have he := h.all e (List.mem_of_getElem? hi)
  obtain ⟨k1, k2, k3⟩ := joinJ_ok he.nd he.rg he.jl h0 h1
  refine ⟨by rw [List.length_set]; have := h.len; omega, ?_, fun x hx => ?_⟩
  · rw [List.map_set, List.set_getElem?_self' (by rw [List.getElem?_map, hi]; rfl)]
    exact h.asc
  · rcases List.mem_or_eq_of_mem_set hx with q | rfl
    · exact (h.all x q).up (Ex.refl B) (by omega) (by omega)
    · exact ⟨he.tk, by show joinJ e.m.js j = joinJ e.o.js j; rw [he.sj], he.qq, he.le, k1, k2, k3, he.dv, he.dm, he.ok⟩
theorem Inv51.del {B : Hp} {J last : Int} {n i : Nat} {es : List EE} (h : Inv51 K B J last n es) : Inv51 K B J last n (es.eraseIdx i) :=
  ⟨Nat.le_trans (List.length_eraseIdx_le _ _) h.len, by rw [← map_erase]; exact List.Pairwise.sublist (List.eraseIdx_sublist _ _) h.asc, fun x hx => h.all x (List.mem_of_mem_eraseIdx hx)⟩
theorem pairs_okn {J : Int} (os : List OE) (h : (pairsOf J os).length ≤ 50000) : Okn 4 (.list (pairsOf J os)) := by
  refine .lst h fun d hd => ?_
  obtain ⟨o, _, hd⟩ := List.mem_flatMap.mp hd
  obtain ⟨k, _, rfl⟩ := List.mem_map.mp hd
  exact .tup (by show 2 ≤ 50000; decide) (okn_cons (.int _) (okn_cons (.int _) okn_nil))

theorem rds_get {B H : Hp} {C r dx da dn : Addr} {J last : Int} {os : List OE} {F : List MP} (hA : At B (RdS C r dx da dn J last os :: F) H) : H r = some (.ins C dx (fR J last da dn)) := at_get 0 rfl (at_stars hA)
theorem rds_at {B H : Hp} {l : List MP} {C r dx da dn : Addr} {J last : Int} {os : List OE} (i : Nat) (e : l[i]? = some (RdS C r dx da dn J last os)) (hA : At B l H) : H r = some (.ins C dx (fR J last da dn)) := stars_at (i := 0) (P := Pt r _) rfl (at_p i e hA)
theorem e_un {σ : L2.St} {B H : Hp} {F : List MP} {C r dx da dn : Addr} {J last : Int} {os : List OE} {j : Nat} {E : XK} {Q : VK} (h : σ[j]? = some (some (.ref r))) (hA : At B (RdS C r dx da dn J last os :: F) H) (asc : Asc os) (hl : os.length < 64) (h0 : 0 ≤ J) (h1 : J ≤ 100)
    (k : ∀ B1 H1 p xs, Ex B B1 → At B1 (Pt p (.lst xs) :: RdS C r dx da dn J last os :: F) H1 → DpAll K B1 xs (pairsOf J os) → Q (.ref p) H1) : tMeth C "unanswered" (spUn K C) [] E (tVar j) tNil σ H Q :=
  ⟨.ref r, h, r, dx, _, rfl, rds_at 0 rfl hA, rfl, r, dx, da, dn, J, last, os, B, F, rfl, hA, asc, hl, h0, h1, k⟩
theorem e_lu {σ : L2.St} {B H : Hp} {F : List MP} {lo : Addr} {J : Int} {ms : List ME} {j i : Nat} {E : XK} {Q : VK} (h : σ[j]? = some (some (.ref lo))) (h2 : σ[i]? = some (some (.int J))) (hA : At B (MoS lo ms :: F) H) (hl : ms.length < 64) (h0 : 0 ≤ J) (h1 : J ≤ 100)
    (k : ∀ B1 H1 p xs, Ex B B1 → At B1 (Pt p (.lst xs) :: MoS lo ms :: F) H1 → DpAll K B1 xs (pairsM J ms) → Q (.ref p) H1) : tCall (spLU K) [] E (tCons (tVar j) (tCons (tVar i) tNil)) σ H Q :=
  ⟨.ref lo, h, .int J, h2, lo, J, ms, B, F, rfl, hA, hl, h0, h1, k⟩
theorem pairs_ok {J : Int} {os : List OE} (hl : os.length < 64) (h0 : 0 ≤ J) (h1 : J ≤ 100) : Okn 4 (.list (pairsOf J os)) := pairs_okn os (by
  have h := pairs_len J os
  have h2 : os.length * J.toNat ≤ 64 * 100 := Nat.mul_le_mul (by omega) (by omega)
  omega)
theorem lsM_len (ms : List ME) : (lsM ms).length = ms.length := List.length_map _
theorem mos_at {B H : Hp} {l : List MP} {lo : Addr} {ms : List ME} (i : Nat) (e : l[i]? = some (MoS lo ms)) (hA : At B l H) : H lo = some (.lst (lsM ms)) := stars_at (i := 0) (P := Pt lo _) rfl (at_p i e hA)
theorem mos_row {B H : Hp} {l : List MP} {lo : Addr} {ms : List ME} {m : ME} {k : Nat} (hA : At B (MoS lo ms :: l) H) (h : ms[k]? = some m) : H m.le = some (.lst (rowM m)) := at_get 0 rfl (at_split (each_at (f := mM) (at_swap (at_stars hA)) h))
theorem mos_add {B H : Hp} {F : List MP} {lo : Addr} {ms : List ME} (m : ME) (hA : At B (Pt m.le (.lst (rowM m)) :: Pt m.lj (.lst (m.js.map V.int)) :: MoS lo ms :: F) H) : At B (MoS lo (ms ++ [m]) :: F) (upd H lo (.lst (lsM ms ++ [.ref m.le]))) := by
  have hA := at_stars (at_ix 3 [2, 0, 1] hA)
  have hA := at_upd (a := lo) (u := .lst (lsM ms ++ [.ref m.le])) 0 rfl hA
  have hA : At B (mM m :: Each ms mM :: Pt lo (.lst (lsM ms ++ [.ref m.le])) :: F) _ := at_join (at_ix 4 [2, 3, 1, 0] hA)
  have e : lsM ms ++ [.ref m.le] = lsM (ms ++ [m]) := by
    unfold lsM
    rw [List.map_append]
    rfl
  rw [e] at hA ⊢
  exact at_stars' [_, _] (at_swap (each_app hA))
theorem ok_law {C f f1 f2 f3 f4 f5 f6 f7 f8 g0 g1 g2 g3 : Addr} {fd fd1 fd2 fd3 fd4 fd5 fd6 fd7 fd8 gd0 gd1 gd2 gd3 : FuncData} (F : Fun K "law" "law" s_law f fd) (D__law_stream : Df K mg "_law_stream" s__law_stream ["script", "many"] f1 fd1) (D__law_draw : Df K mg "_law_draw" s__law_draw ["draws", "k"] f2 fd2)
    (D__law_same : Df K mg "_law_same" s__law_same ["actual", "due"] f3 fd3) (D__law_query : Df K mg "_law_query" s__law_query ["draw"] f4 fd4) (D__law_unanswered : Df K mg "_law_unanswered" s__law_unanswered ["opened", "count"] f5 fd5) (D__law_due : Df K mg "_law_due" s__law_due ["opened", "count", "token", "journal"] f6 fd6)
    (D_majority : Df K mg "majority" s_majority ["count"] f7 fd7) (D_has_majority : Df K mg "has_majority" s_has_majority ["members", "count"] f8 fd8) (D_Reads___init__ : Dm K C "__init__" "Reads.__init__" s_Reads___init__ ["self", "journals"] g0 gd0) (D_Reads_ask : Dm K C "ask" "Reads.ask" s_Reads_ask ["self", "client", "rid", "query"] g1 gd1)
    (D_Reads_note : Dm K C "note" "Reads.note" s_Reads_note ["self", "token", "journal"] g2 gd2) (D_Reads_unanswered : Dm K C "unanswered" "Reads.unanswered" s_Reads_unanswered ["self"] g3 gd3) (L_Reads : Kl K mg "Reads" C) (L : RdC K C) (T : Glo mg) : FnOk P w K mg base CX0 20 f fd ["script"] (spLaw K) := by
  have G__law_stream : FnOk P w K mg base CX0 1 f1 fd1 _ _ := ok_stream D__law_stream.F T
  have G__law_draw : FnOk P w K mg base CX0 1 f2 fd2 _ _ := ok_draw D__law_draw.F T
  have G__law_same : FnOk P w K mg base CX0 7 f3 fd3 _ _ := ok_same D__law_same T 6
  have G__law_query : FnOk P w K mg base CX0 1 f4 fd4 _ _ := ok_query D__law_query.F T
  have G__law_unanswered : FnOk P w K mg base CX0 1 f5 fd5 _ _ := ok_lu D__law_unanswered.F T
  have G__law_due : FnOk P w K mg base CX0 1 f6 fd6 _ _ := ok_due D__law_due.F T
  have G_Reads___init__ : FnOk P w K mg base CX0 1 g0 gd0 _ _ := ok_rinit D_Reads___init__.F L
  have G_Reads_ask : FnOk P w K mg base CX0 1 g1 gd1 _ _ := ok_ask D_Reads_ask.F L
  have G_Reads_note : FnOk P w K mg base CX0 3 g2 gd2 _ _ := ok_note D_Reads_note.F L D_has_majority D_majority T
  have G_Reads_unanswered : FnOk P w K mg base CX0 1 g3 gd3 _ _ := ok_unans D_Reads_unanswered.F L T
  refine F.ok sc_law (fun vs H Q E h => ?_) (fun cdv A outer s H vs Q E hr h => ?_)
  · obtain ⟨a, ns, rfl, _⟩ := h
    rfl
  · obtain ⟨a, ns, rfl, hS, hn, q⟩ := h
    refine ⟨_, (pss_cons (ps_set (i := 1) sc_law.nd rfl (.inl rfl) (pe_call G__law_stream (hr.mono (by decide)) (by rfl) D__law_stream.g D__law_stream.F.kp D__law_stream.b .nil pass0 (pa_cons (pv 0) (pa_cons pe_int pa_nil))))
  (pss_cons (ps_set (i := 2) sc_law.nd rfl (.inl rfl) (pe_op op_add pe_int (pe_op op_mod (pe_callTy call_int1 (by rfl) T.int (by decide +kernel) (pa_cons (pe_call G__law_draw (hr.mono (by decide)) (by rfl) D__law_draw.g D__law_draw.F.kp D__law_draw.b .nil pass0 (pa_cons (pv 1) (pa_cons pe_int pa_nil))) pa_nil)) pe_int)))
  (pss_cons (ps_set (i := 3) sc_law.nd rfl (.inl rfl) (pe_make (L_Reads.make D_Reads___init__) G_Reads___init__ (hr.mono (by decide)) (by rfl) L_Reads.g D_Reads___init__.b .nil pass0 (pa_cons (pv 2) pa_nil)))
  (pss_cons (ps_set (i := 4) sc_law.nd rfl (.inl rfl) (pe_make (L_Reads.make D_Reads___init__) G_Reads___init__ (hr.mono (by decide)) (by rfl) L_Reads.g D_Reads___init__.b .nil pass0 (pa_cons (pv 2) pa_nil)))
  (pss_cons (ps_set (i := 5) sc_law.nd rfl (.inl rfl) (pe_lst pa_nil))
  (pss_cons (ps_set (i := 6) sc_law.nd rfl (.inl rfl) (pe_lst pa_nil))
  (pss_cons (ps_set (i := 7) sc_law.nd rfl (.inl rfl) pe_int)
  (pss_cons (ps_set (i := 8) sc_law.nd rfl (.inl rfl) pe_int)
  (pss_cons (ps_for PassesOwn.never rfl (pi_range1 (by rfl) T.range (pa_cons (pe_callB (call_min2 rfl) (by rfl) T.min (by decide +kernel) (pa_cons pe_int (pa_cons (pe_op op_fdiv (pe_callB call_len_seq (by rfl) T.len PySem.boot_len (pa_cons (pv 1) pa_nil)) pe_int) pa_nil))) pa_nil)) (pg_name (i := 9) sc_law.nd rfl (.inl rfl))
  (pss_cons (ps_set (i := 10) sc_law.nd rfl (.inl rfl) (pe_call G__law_draw (hr.mono (by decide)) (by rfl) D__law_draw.g D__law_draw.F.kp D__law_draw.b .nil pass0 (pa_cons (pv 1) (pa_cons (pe_op op_add pe_int (pe_op op_mul pe_int (pv 9))) pa_nil))))
  (pss_cons (ps_set (i := 11) sc_law.nd rfl (.inl rfl) (pe_call G__law_draw (hr.mono (by decide)) (by rfl) D__law_draw.g D__law_draw.F.kp D__law_draw.b .nil pass0 (pa_cons (pv 1) (pa_cons (pe_op op_add pe_int (pe_op op_mul pe_int (pv 9))) pa_nil))))
  (pss_cut (ps_if (PW.pt (pw_or (pt_cmpR op_eq (pe_op op_mod (pe_callTy call_int1 (by rfl) T.int (by decide +kernel) (pa_cons (pv 10) pa_nil)) pe_int) pe_int (nomark _)) (pw_or1 (pt_cmpR op_eq (pv 7) pe_int (nomark _)))))
  (pss_cons (ps_set (i := 7) sc_law.nd rfl (.inl rfl) (pe_op op_add (pv 7) pe_int))
  (pss_cons (ps_set (i := 12) sc_law.nd rfl (.inl rfl) (pe_lst (pa_cons (pe_op op_mod (pe_callTy call_int1 (by rfl) T.int (by decide +kernel) (pa_cons (pe_op op_fdiv (pv 10) pe_int) pa_nil)) pe_int) (pa_cons (pe_op op_add pe_int (pe_op op_mod (pe_callTy call_int1 (by rfl) T.int (by decide +kernel) (pa_cons (pe_op op_fdiv (pv 10) pe_int) pa_nil)) pe_int)) (pa_cons (pe_call G__law_query (hr.mono (by decide)) (by rfl) D__law_query.g D__law_query.F.kp D__law_query.b .nil pass0 (pa_cons (pv 11) pa_nil)) pa_nil)))))
  (pss_cons (ps_if (pt_not (pt_val (pe_call G__law_same (hr.mono (by decide)) (by rfl) D__law_same.g D__law_same.F.kp D__law_same.b .nil pass0 (pa_cons (pe_meth (pv 3) L_Reads.cl D_Reads_ask.m G_Reads_ask (hr.mono (by decide)) D_Reads_ask.b .nil pass0 (pa_cons (pe_ix ix_list (pv 12) pe_int (fun _ _ => rfl)) (pa_cons (pe_ix ix_list (pv 12) pe_int (fun _ _ => rfl)) (pa_cons (pe_ix ix_list (pv 12) pe_int (fun _ _ => rfl)) pa_nil)))) (pa_cons (pv 7) pa_nil)))))
  (pss_one (ps_ret pe_bl))
  pss_nil)
  (pss_cons (ps_expr (pe_bm PySem.F.plainAttrs_list PySem.F.slot_list_append PySem.F.type_list_append mt_append (pv 5) (pa_cons (pe_op op_cat (pe_op op_cat (pe_lst (pa_cons (pv 7) pa_nil)) (pv 12)) (pe_lst (pa_cons (pe_lst pa_nil) pa_nil))) pa_nil)))
  (pss_one (ps_if (pt_cmpR op_eq (pe_op op_mod (pe_callTy call_int1 (by rfl) T.int (by decide +kernel) (pa_cons (pv 7) pa_nil)) pe_int) pe_int (nomark _))
  (pss_cons (ps_set (i := 8) sc_law.nd rfl (.inl rfl) (pe_op op_add (pv 8) pe_int))
  (pss_cons (ps_if (pt_not (pt_val (pe_call G__law_same (hr.mono (by decide)) (by rfl) D__law_same.g D__law_same.F.kp D__law_same.b .nil pass0 (pa_cons (pe_meth (pv 4) L_Reads.cl D_Reads_ask.m G_Reads_ask (hr.mono (by decide)) D_Reads_ask.b .nil pass0 (pa_cons (pe_ix ix_list (pv 12) pe_int (fun _ _ => rfl)) (pa_cons (pe_op op_add pe_int (pe_ix ix_list (pv 12) pe_int (fun _ _ => rfl))) (pa_cons (pe_ix ix_list (pv 12) pe_int (fun _ _ => rfl)) pa_nil)))) (pa_cons (pv 8) pa_nil)))))
  (pss_one (ps_ret pe_bl))
  pss_nil)
  (pss_one (ps_expr (pe_bm PySem.F.plainAttrs_list PySem.F.slot_list_append PySem.F.type_list_append mt_append (pv 6) (pa_cons (pe_lst (pa_cons (pv 8) (pa_cons (pe_ix ix_list (pv 12) pe_int (fun _ _ => rfl)) (pa_cons (pe_op op_add pe_int (pe_ix ix_list (pv 12) pe_int (fun _ _ => rfl))) (pa_cons (pe_ix ix_list (pv 12) pe_int (fun _ _ => rfl)) (pa_cons (pe_lst pa_nil) pa_nil)))))) pa_nil))))))
  pss_nil))))))
  (pss_cons (ps_set (i := 13) sc_law.nd rfl (.inl rfl) (pe_op op_mod (pe_callTy call_int1 (by rfl) T.int (by decide +kernel) (pa_cons (pe_op op_fdiv (pv 10) pe_int) pa_nil)) (pe_op op_add (pv 7) pe_int)))
  (pss_cut (ps_if (PW.pt (pw_and (pt_cmpR op_eq (pe_op op_mod (pe_callTy call_int1 (by rfl) T.int (by decide +kernel) (pa_cons (pe_op op_fdiv (pv 11) pe_int) pa_nil)) pe_int) pe_int (nomark _)) (pw_and1 (pt_cmpR op_gt (pe_callB call_len_seq (by rfl) T.len PySem.boot_len (pa_cons (pv 5) pa_nil)) pe_int (nomark _)))))
  (pss_one (ps_set (i := 13) sc_law.nd rfl (.inl rfl) (pe_ix ix_list (pe_ix ix_list (pv 5) (pe_op op_mod (pe_callTy call_int1 (by rfl) T.int (by decide +kernel) (pa_cons (pe_op op_fdiv (pv 10) pe_int) pa_nil)) (pe_callB call_len_seq (by rfl) T.len PySem.boot_len (pa_cons (pv 5) pa_nil))) (fun _ _ => rfl)) pe_int (fun _ _ => rfl))))
  pss_nil)
  (pss_cons (ps_set (i := 14) sc_law.nd rfl (.inl rfl) (pe_op op_mod (pe_callTy call_int1 (by rfl) T.int (by decide +kernel) (pa_cons (pv 11) pa_nil)) (pv 2)))
  (pss_cons (ps_set (i := 15) sc_law.nd rfl (.inl rfl) (pe_call G__law_due (hr.mono (by decide)) (by rfl) D__law_due.g D__law_due.F.kp D__law_due.b .nil pass0 (pa_cons (pv 5) (pa_cons (pv 2) (pa_cons (pv 13) (pa_cons (pv 14) pa_nil))))))
  (pss_one (ps_if (pt_not (pt_val (pe_call G__law_same (hr.mono (by decide)) (by rfl) D__law_same.g D__law_same.F.kp D__law_same.b .nil pass0 (pa_cons (pe_meth (pv 3) L_Reads.cl D_Reads_note.m G_Reads_note (hr.mono (by decide)) D_Reads_note.b .nil pass0 (pa_cons (pv 13) (pa_cons (pv 14) pa_nil))) (pa_cons (pv 15) pa_nil)))))
  (pss_one (ps_ret pe_bl))
  pss_nil)))))))
  (pss_cons (ps_set (i := 16) sc_law.nd rfl (.inl rfl) (pe_meth0 (pv 3) L_Reads.cl D_Reads_unanswered.m G_Reads_unanswered (hr.mono (by decide)) D_Reads_unanswered.b .nil pass0))
  (pss_cons (ps_if (pt_not (pt_val (pe_call G__law_same (hr.mono (by decide)) (by rfl) D__law_same.g D__law_same.F.kp D__law_same.b .nil pass0 (pa_cons (pv 16) (pa_cons (pe_call G__law_unanswered (hr.mono (by decide)) (by rfl) D__law_unanswered.g D__law_unanswered.F.kp D__law_unanswered.b .nil pass0 (pa_cons (pv 5) (pa_cons (pv 2) pa_nil))) pa_nil)))))
  (pss_one (ps_ret pe_bl))
  pss_nil)
  (pss_cons (ps_expr (pe_bm PySem.F.plainAttrs_list PySem.F.slot_list_append PySem.F.type_list_append mt_append (pv 16) (pa_cons (pe_tup (pa_cons pe_int (pa_cons pe_int pa_nil))) pa_nil)))
  (pss_cons (ps_set (i := 17) sc_law.nd rfl (.inl rfl) (pe_meth0 (pv 3) L_Reads.cl D_Reads_unanswered.m G_Reads_unanswered (hr.mono (by decide)) D_Reads_unanswered.b .nil pass0))
  (pss_cons (ps_if (pt_not (pt_val (pe_call G__law_same (hr.mono (by decide)) (by rfl) D__law_same.g D__law_same.F.kp D__law_same.b .nil pass0 (pa_cons (pv 17) (pa_cons (pe_call G__law_unanswered (hr.mono (by decide)) (by rfl) D__law_unanswered.g D__law_unanswered.F.kp D__law_unanswered.b .nil pass0 (pa_cons (pv 5) (pa_cons (pv 2) pa_nil))) pa_nil)))))
  (pss_one (ps_ret pe_bl))
  pss_nil)
  (pss_cons (ps_expr (pe_bm PySem.F.plainAttrs_list PySem.F.slot_list_append PySem.F.type_list_append mt_append (pv 17) (pa_cons (pe_tup (pa_cons pe_int (pa_cons pe_int pa_nil))) pa_nil)))
  (pss_cons (ps_if (pt_not (pt_val (pe_call G__law_same (hr.mono (by decide)) (by rfl) D__law_same.g D__law_same.F.kp D__law_same.b .nil pass0 (pa_cons (pe_meth0 (pv 3) L_Reads.cl D_Reads_unanswered.m G_Reads_unanswered (hr.mono (by decide)) D_Reads_unanswered.b .nil pass0) (pa_cons (pe_call G__law_unanswered (hr.mono (by decide)) (by rfl) D__law_unanswered.g D__law_unanswered.F.kp D__law_unanswered.b .nil pass0 (pa_cons (pv 5) (pa_cons (pv 2) pa_nil))) pa_nil)))))
  (pss_one (ps_ret pe_bl))
  pss_nil)
  (pss_one (ps_if (pt_not (pt_val (pe_call G__law_same (hr.mono (by decide)) (by rfl) D__law_same.g D__law_same.F.kp D__law_same.b .nil pass0 (pa_cons (pe_meth0 (pv 4) L_Reads.cl D_Reads_unanswered.m G_Reads_unanswered (hr.mono (by decide)) D_Reads_unanswered.b .nil pass0) (pa_cons (pe_call G__law_unanswered (hr.mono (by decide)) (by rfl) D__law_unanswered.g D__law_unanswered.F.kp D__law_unanswered.b .nil pass0 (pa_cons (pv 6) (pa_cons (pv 2) pa_nil))) pa_nil)))))
  (pss_one (ps_ret pe_bl))
  pss_nil)))))))))))))
  (pss_one (ps_ret (pe_call G__law_same (hr.mono (by decide)) (by rfl) D__law_same.g D__law_same.F.kp D__law_same.b .nil pass0 (pa_cons (pe_lst (pa_cons (pe_fld (pv 3) rfl) (pa_cons (pe_fld (pv 4) rfl) pa_nil))) (pa_cons (pe_lst (pa_cons (pv 2) (pa_cons (pv 2) pa_nil))) pa_nil)))))))))))))), ?_⟩
    refine q_stream rfl hS hn (by decide) fun ds l H1 hD hdl nl e1 hl => ?_
    have hL1 : SqL K H1 l (ds.map V.int) := sq_of hl
    have hA := at_start (H := H1)
    refine' qe_asg hA ?c (fun H2 hA => ?_)
    case c => walk_at "ev"
    have d0 := drI_ok hD 0
    have hJ0 := Int.emod_nonneg (drI ds 0) (show (7 : Int) ≠ 0 by decide)
    have hJ1 := Int.emod_lt_of_pos (drI ds 0) (show (0 : Int) < 7 by decide)
    generalize hJ : 1 + drI ds 0 % 7 = J at *
    refine qe_make hA (ea_cons (ev_var rfl) ea_nil) fun r1 dx1 H3 hA => ⟨r1, dx1, J, _, _, rfl, hA, fun da1 dn1 H4 hA => ⟨rfl, ?_⟩⟩
    refine qe_make hA (ea_cons (ev_var rfl) ea_nil) fun r2 dx2 H5 hA => ⟨r2, dx2, J, _, _, rfl, hA, fun da2 dn2 H6 hA => ⟨rfl, ?_⟩⟩
    refine qe_lst (xs := []) hA (el_lst ea_nil (by decide)) fun lo H7 hA => ?_
    refine qe_lst (xs := []) hA (el_lst ea_nil (by decide)) fun lb H8 hA => ?_
    refine qe_asg (x := .int 0) hA ev_c fun H9 hA => ?_
    refine qe_asg (x := .int 0) hA ev_c fun H10 hA => ?_
    have hA := at_stars' [_, _] (each_nil_at (f := mM) 1 hA)
    have hA := at_stars' [_, _] (each_nil_at (f := mM) 1 (at_swap hA))
    have hA : At H1 (RdS C r1 dx1 da1 dn1 J 0 [] :: RdS C r2 dx2 da2 dn2 J 0 [] :: MoS lo [] :: MoS lb [] :: []) H10 := at_ix 4 [3, 2, 0, 1] hA
    have hdlen : (ds.map V.int).length = ds.length := List.length_map _
    have hL := ex_l (at_base hA) hL1
    refine' q_forR1 (n := if (((ds.map V.int).length : Nat) : Int) / 2 < 40 then (((ds.map V.int).length : Nat) : Int) / 2 else 40) ?c (by split <;> omega) (fun i σ' H' => ∃ (y9 y10 y11 y12 y13 y14 y15 y16 y17 : Option V) (B1 : Hp) (last tk : Int) (es es2 : List EE), σ' = [some (.ref a), some (.ref l), some (.int J), some (.ref r1), some (.ref r2), some (.ref lo), some (.ref lb), some (.int last), some (.int tk), y9, y10, y11, y12, y13, y14, y15, y16, y17] ∧ Ex H1 B1 ∧ 0 ≤ last ∧ Inv51 K B1 J last i es ∧ Inv51 K B1 J tk i es2 ∧
      At B1 (RdS C r1 dx1 da1 dn1 J last (es.map EE.o) :: RdS C r2 dx2 da2 dn2 J tk (es2.map EE.o) :: MoS lo (es.map EE.m) :: MoS lb (es2.map EE.m) :: []) H') (fun H11 e11 => ⟨none, none, none, none, none, none, none, none, none, H1, 0, 0, [], [], rfl, Ex.refl H1, Int.le_refl 0, ⟨Nat.le_refl _, List.Pairwise.nil, fun e he => nomatch he⟩, ⟨Nat.le_refl _, List.Pairwise.nil, fun e he => nomatch he⟩, at_ex hA e11⟩) (fun i σ' H' hi h => ?_) (fun σ' H' h => ?_)
    case c => walk_at "ev"
    · obtain ⟨y9, y10, y11, y12, y13, y14, y15, y16, y17, B1, last, tk, es, es2, rfl, b1, hl0, I, I2, hA⟩ := h
      have hi40 : i < 40 := by
        have : (if (((ds.map V.int).length : Nat) : Int) / 2 < 40 then (((ds.map V.int).length : Nat) : Int) / 2 else 40) ≤ 40 := by split <;> omega
        omega
      have hLB : SqL K B1 l (ds.map V.int) := ex_l b1 hL1
      have hL := ex_l (at_base hA) hLB
      refine' qe_asg hA ?c (fun H12 hA => ?_)
      case c => walk_at "ev"
      have hL := ex_l (at_base hA) hLB
      refine' qe_asg hA ?c (fun H13 hA => ?_)
      case c => walk_at "ev"
      have k10 := drI_ok hD (1 + 2 * (i : Int))
      have k11 := drI_ok hD (2 + 2 * (i : Int))
      generalize drI ds (1 + 2 * (i : Int)) = dr at *
      generalize drI ds (2 + 2 * (i : Int)) = mo at *
      refine' q_cut (M := fun σ' H' => ∃ (y12 y13 y14 y15 : Option V) (B1 : Hp) (last tk : Int) (es es2 : List EE), σ' = [some (.ref a), some (.ref l), some (.int J), some (.ref r1), some (.ref r2), some (.ref lo), some (.ref lb), some (.int last), some (.int tk), some (.int (i : Int)), some (.int dr), some (.int mo), y12, y13, y14, y15, y16, y17] ∧ Ex H1 B1 ∧ 0 ≤ last ∧ Inv51 K B1 J last (i + 1) es ∧ Inv51 K B1 J tk (i + 1) es2 ∧
        At B1 (RdS C r1 dx1 da1 dn1 J last (es.map EE.o) :: RdS C r2 dx2 da2 dn2 J tk (es2.map EE.o) :: MoS lo (es.map EE.m) :: MoS lb (es2.map EE.m) :: []) H') ?cut (fun σ' H14 p => ?_)
      case cut =>
        have hlo : (es.map EE.o).length = es.length := List.length_map _
        have hlm : (es.map EE.m).length = es.length := List.length_map _
        have hlo2 : (es2.map EE.o).length = es2.length := List.length_map _
        have hlm2 : (es2.map EE.m).length = es2.length := List.length_map _
        have hel := I.len
        have hel2 := I2.len
        refine' se_if (b := decide (dr % 4 = 3) || decide (last = 0)) hA (et_or (a := decide (dr % 4 = 3)) (b := decide (last = 0)) ?t1 (fun _ => ?t2)) (fun hb H14 hA => ?_) (fun hb H14 hA => ?_)
        case t1 => walk_at "ev"
        case t2 => walk_at "ev"
        · refine' qe_asg hA ?c (fun H15 hA => ?_)
          case c => walk_at "ev"
          -- entry
          refine' q_do (go_lst (go_cons (v := .int (dr / 4 % 4)) ?c1 fun H16 e16 => go_cons (v := .int (1 + dr / 16 % 5)) ?c2 fun H17 e17 => go_cons' (go_call (go_cons (ev_var rfl) fun H18 e18 => go_nil ⟨mo, B1, _, rfl, k11.1, at_ex hA ((e16.trans e17).trans e18), fun qv B2 H19 qd b2 hA hq hok => go_nil ⟨sz_of (by show 3 ≤ 100000; decide), fun en hen => ?_⟩⟩))))
          case c1 => walk_at "ev"
          case c2 => walk_at "ev"
          have hA := at_new hA hen (Ex.new hen) (upd_same (o := .lst [.int (dr / 4 % 4), .int (1 + dr / 16 % 5), qv]))
          generalize upd H19 en (.lst [.int (dr / 4 % 4), .int (1 + dr / 16 % 5), qv]) = H20 at hA ⊢
          generalize dr / 4 % 4 = c at *
          generalize 1 + dr / 16 % 5 = rid at *
          have I := I.up (b2) (Int.le_refl _) (Nat.le_refl _)
          have I2 := I2.up (b2) (Int.le_refl _) (Nat.le_refl _)
          have hle : ∀ o ∈ es.map EE.o, o.tok ≤ last := fun o ho => by
            obtain ⟨e, he, rfl⟩ := List.mem_map.mp ho
            exact (I.all e he).le
          have hle2 : ∀ o ∈ es2.map EE.o, o.tok ≤ tk := fun o ho => by
            obtain ⟨e, he, rfl⟩ := List.mem_map.mp ho
            exact (I2.all e he).le
          refine' q_same (K := K) (n := 6) (C := fun H' => ∃ B3 tv la, Ex B2 B3 ∧ Dp K B3 tv (.tuple [.int c, .int rid, qd]) ∧ At B3 (RdS C r1 dx1 da1 dn1 J (last + 1) (es.map EE.o ++ [⟨last + 1, tv, .tuple [.int c, .int rid, qd], la, []⟩]) :: Pt en (.lst [.int c, .int rid, qv]) :: RdS C r2 dx2 da2 dn2 J tk (es2.map EE.o) :: MoS lo (es.map EE.m) :: MoS lb (es2.map EE.m) :: []) H') (fun H' H'' e ⟨B3, tv, la, b, h1, h⟩ => ⟨B3, tv, la, b, h1, at_ex h e⟩)
            (fun Q k => go_cons' ⟨.ref r1, rfl, r1, dx1, _, rfl, rds_at 1 rfl hA, rfl, go_cons (v := .int c) ?a1 fun Ha ea => go_cons (v := .int rid) ?a2 fun Hb eb => go_cons (v := qv) ?a3 fun Hc ec => go_nil ⟨r1, dx1, da1, dn1, J, last, c, rid, qv, qd, es.map EE.o, B2, _, rfl, at_ix 5 [1, 0, 2, 3, 4] (at_ex hA ((ea.trans eb).trans ec)), hq, hle, by omega, fun B3 Hd tv la b3 htv hA => go_cons (ev_var rfl) fun He ee => go_nil (k _ _ (.int (last + 1)) _ (.int _) (.int _) (.int _) ⟨B3, tv, la, b3, htv, at_ex hA ee⟩)⟩⟩) (fun H21 hc => ?_)
          case a1 => exact ev_op (ev_var rfl) ev_c (rv_ixL (K := K) (v := .int c) (sq_of (at_get (a := en) 0 rfl hA)) rfl)
          case a2 => exact ev_op (ev_var rfl) ev_c (rv_ixL (K := K) (v := .int rid) (sq_of (at_get (a := en) 0 rfl (at_ex hA ea))) rfl)
          case a3 => exact ev_op (ev_var rfl) ev_c (rv_ixL (K := K) (v := qv) (sq_of (at_get (a := en) 0 rfl (at_ex hA (ea.trans eb)))) rfl)
          obtain ⟨B3, tv, la, b3, htv, hA⟩ := hc
          have hq := dp_mono b3 _ _ hq
          -- opened.append([last] + entry + [[]])
          refine q_drop0 ⟨.ref lo, rfl, .inl ⟨rfl, _, sq_of (mos_at 3 rfl hA)⟩, go_cons' (go_op ?_)⟩
          refine el_catR (el_lst (ea_cons (ev_var rfl) ea_nil) (by show 1 ≤ 100000; decide)) (ev_var rfl) (at_get (a := en) 1 rfl hA) (by show 1 + 3 ≤ 100000; decide) H21 (Ex.refl H21) _ fun p1 H22 np1 e22 h22 => ?_
          have hA := at_ex hA e22
          refine go_lst (go_cons' (go_lst (go_nil ⟨sz_of (by show 0 ≤ 100000; decide), fun lj hlj => go_nil ⟨sz_of (by show 1 ≤ 100000; decide), fun p2 hp2 => ?_⟩⟩)))
          have hA := at_new hA hlj (Ex.new hlj) (upd_same (o := .lst []))
          have h22 := Ex.new (o := .lst [.ref lj]) hp2 _ _ (Ex.new (o := .lst []) hlj _ _ h22)
          have hA := at_ex hA (Ex.new (o := .lst [.ref lj]) hp2)
          refine ⟨p1, p2, _, _, rfl, rfl, h22, upd_same, sz_of (by show 5 ≤ 100000; decide), fun p3 hp3 => go_nil ?_⟩
          have hA := at_new hA hp3 (Ex.new hp3) (upd_same (o := .lst [.int (last + 1), .int c, .int rid, qv, .ref lj]))
          refine ⟨lo, lsM (es.map EE.m), .ref p3, rfl, rfl, mos_at 5 rfl hA, sz_lt (by rw [lsM_len, hlm]; omega), ?_⟩
          have hA := mos_add ⟨p3, last + 1, c, rid, qv, qd, lj, []⟩ (at_ix 7 [0, 1, 5, 2, 3, 4, 6] hA)
          have eo : es.map EE.o ++ ([⟨last + 1, tv, .tuple [.int c, .int rid, qd], la, []⟩] : List OE) = (es ++ ([⟨⟨last + 1, tv, .tuple [.int c, .int rid, qd], la, []⟩, ⟨p3, last + 1, c, rid, qv, qd, lj, []⟩⟩] : List EE)).map EE.o := by rw [List.map_append]; rfl
          have em : es.map EE.m ++ ([⟨p3, last + 1, c, rid, qv, qd, lj, []⟩] : List ME) = (es ++ ([⟨⟨last + 1, tv, .tuple [.int c, .int rid, qd], la, []⟩, ⟨p3, last + 1, c, rid, qv, qd, lj, []⟩⟩] : List EE)).map EE.m := by rw [List.map_append]; rfl
          have hnew : EOk K B3 J (last + 1) (i + 1) ⟨⟨last + 1, tv, .tuple [.int c, .int rid, qd], la, []⟩, ⟨p3, last + 1, c, rid, qv, qd, lj, []⟩⟩ := ⟨rfl, rfl, rfl, Int.le_refl _, List.nodup_nil, fun x hx => (nomatch hx), Nat.zero_le _, htv, hq, hok⟩
          have I' := (I.up b3 (Int.le_refl _) (Nat.le_refl _)).add hnew rfl
          rw [eo, em] at hA
          generalize hes' : es ++ [(⟨⟨last + 1, tv, .tuple [.int c, .int rid, qd], la, []⟩, ⟨p3, last + 1, c, rid, qv, qd, lj, []⟩⟩ : EE)] = es' at hA I'
          have hA := at_ix 5 [1, 2, 3, 0, 4] hA
          have I2' := I2.up b3 (Int.le_refl _) (Nat.le_refl _)
          -- the other one
          refine' se_when (b := decide ((last + 1) % 3 = 1)) hA ?t3 (fun _ H24 hA => ?_) (fun _ H24 hA => ?_)
          case t3 => walk_at "ev"
          · refine' qe_asg hA ?c (fun H25 hA => ?_)
            case c => walk_at "ev"
            refine' q_same (K := K) (n := 6) (C := fun H' => ∃ B4 tv la, Ex B3 B4 ∧ Dp K B4 tv (.tuple [.int rid, .int (1 + c), qd]) ∧ At B4 (RdS C r2 dx2 da2 dn2 J (tk + 1) (es2.map EE.o ++ [⟨tk + 1, tv, .tuple [.int rid, .int (1 + c), qd], la, []⟩]) :: RdS C r1 dx1 da1 dn1 J (last + 1) (es'.map EE.o) :: Pt en (.lst [.int c, .int rid, qv]) :: MoS lo (es'.map EE.m) :: MoS lb (es2.map EE.m) :: []) H') (fun H' H'' e ⟨B3, tv, la, b, h1, h⟩ => ⟨B3, tv, la, b, h1, at_ex h e⟩)
              (fun Q k => go_cons' ⟨.ref r2, rfl, r2, dx2, _, rfl, rds_at 2 rfl hA, rfl, go_cons (v := .int rid) ?a1 fun Ha ea => go_cons (v := .int (1 + c)) ?a2 fun Hb eb => go_cons (v := qv) ?a3 fun Hc ec => go_nil ⟨r2, dx2, da2, dn2, J, tk, rid, 1 + c, qv, qd, es2.map EE.o, B3, _, rfl, at_ix 5 [2, 0, 1, 3, 4] (at_ex hA ((ea.trans eb).trans ec)), hq, hle2, by omega, fun B4 Hd tv la b4 htv hA => go_cons (ev_var rfl) fun He ee => go_nil (k _ _ (.int (tk + 1)) _ (.int _) (.int _) (.int _) ⟨B4, tv, la, b4, htv, at_ex hA ee⟩)⟩⟩) (fun H26 hc => ?_)
            case a1 => exact ev_op (ev_var rfl) ev_c (rv_ixL (K := K) (v := .int rid) (sq_of (at_get (a := en) 1 rfl hA)) rfl)
            case a2 => exact ev_op ev_c (ev_op (ev_var rfl) ev_c (rv_ixL (K := K) (v := .int c) (sq_of (at_get (a := en) 1 rfl (at_ex hA ea))) rfl)) rv_I0
            case a3 => exact ev_op (ev_var rfl) ev_c (rv_ixL (K := K) (v := qv) (sq_of (at_get (a := en) 1 rfl (at_ex hA (ea.trans eb)))) rfl)
            obtain ⟨B4, tv2, la2, b4, htv2, hA⟩ := hc
            have hq := dp_mono b4 _ _ hq
            refine s_drop0 ⟨.ref lb, rfl, .inl ⟨rfl, _, sq_of (mos_at 4 rfl hA)⟩, go_cons' (go_lst ?_)⟩
            refine' go_cons (ev_var rfl) fun Ha ea => go_cons (v := .int rid) ?a1 fun Hb eb => go_cons (v := .int (1 + c)) ?a2 fun Hc ec => go_cons (v := qv) ?a3 fun Hd ed => go_cons' (go_lst (go_nil ⟨sz_of (by show 0 ≤ 100000; decide), fun lj2 hlj2 => go_nil ⟨sz_of (by show 5 ≤ 100000; decide), fun p4 hp4 => go_nil ?_⟩⟩))
            case a1 => exact ev_op (ev_var rfl) ev_c (rv_ixL (K := K) (v := .int rid) (sq_of (at_get (a := en) 2 rfl (at_ex hA ea))) rfl)
            case a2 => exact ev_op ev_c (ev_op (ev_var rfl) ev_c (rv_ixL (K := K) (v := .int c) (sq_of (at_get (a := en) 2 rfl (at_ex hA (ea.trans eb)))) rfl)) rv_I0
            case a3 => exact ev_op (ev_var rfl) ev_c (rv_ixL (K := K) (v := qv) (sq_of (at_get (a := en) 2 rfl (at_ex hA ((ea.trans eb).trans ec)))) rfl)
            have hA := at_new (at_ex hA (((ea.trans eb).trans ec).trans ed)) hlj2 (Ex.new hlj2) (upd_same (o := .lst []))
            have hA := at_new hA hp4 (Ex.new hp4) (upd_same (o := .lst [.int (tk + 1), .int rid, .int (1 + c), qv, .ref lj2]))
            refine ⟨lb, lsM (es2.map EE.m), .ref p4, rfl, rfl, mos_at 6 rfl hA, sz_lt (by rw [lsM_len, hlm2]; omega), ?_⟩
            have hA := mos_add ⟨p4, tk + 1, rid, 1 + c, qv, qd, lj2, []⟩ (at_ix 7 [0, 1, 6, 2, 3, 4, 5] hA)
            have eo2 : es2.map EE.o ++ ([⟨tk + 1, tv2, .tuple [.int rid, .int (1 + c), qd], la2, []⟩] : List OE) = (es2 ++ ([⟨⟨tk + 1, tv2, .tuple [.int rid, .int (1 + c), qd], la2, []⟩, ⟨p4, tk + 1, rid, 1 + c, qv, qd, lj2, []⟩⟩] : List EE)).map EE.o := by rw [List.map_append]; rfl
            have em2 : es2.map EE.m ++ ([⟨p4, tk + 1, rid, 1 + c, qv, qd, lj2, []⟩] : List ME) = (es2 ++ ([⟨⟨tk + 1, tv2, .tuple [.int rid, .int (1 + c), qd], la2, []⟩, ⟨p4, tk + 1, rid, 1 + c, qv, qd, lj2, []⟩⟩] : List EE)).map EE.m := by rw [List.map_append]; rfl
            have hnew2 : EOk K B4 J (tk + 1) (i + 1) ⟨⟨tk + 1, tv2, .tuple [.int rid, .int (1 + c), qd], la2, []⟩, ⟨p4, tk + 1, rid, 1 + c, qv, qd, lj2, []⟩⟩ := ⟨rfl, rfl, rfl, Int.le_refl _, List.nodup_nil, fun x hx => (nomatch hx), Nat.zero_le _, htv2, hq, hok⟩
            rw [eo2, em2] at hA
            exact ⟨_, _, _, _, B4, last + 1, tk + 1, es', _, rfl, ((b1.trans b2).trans b3).trans b4, by omega, I'.up b4 (Int.le_refl _) (Nat.le_refl _), (I2'.up b4 (Int.le_refl _) (Nat.le_refl _)).add hnew2 rfl, at_drop (at_ix 5 [3, 2, 1, 4, 0] hA)⟩
          · exact ⟨_, _, _, _, B3, last + 1, tk, es', es2, rfl, (b1.trans b2).trans b3, by omega, I', I2'.up (Ex.refl _) (Int.le_refl _) (Nat.le_succ _), at_drop (at_ix 5 [1, 0, 2, 3, 4] hA)⟩
        · refine' qe_asg hA ?c (fun H15 hA => ?_)
          case c => walk_at "ev"
          refine' q_cut (M := fun σ' H' => ∃ t : Int, σ' = [some (.ref a), some (.ref l), some (.int J), some (.ref r1), some (.ref r2), some (.ref lo), some (.ref lb), some (.int last), some (.int tk), some (.int (i : Int)), some (.int dr), some (.int mo), y12, some (.int t), y14, y15, y16, y17] ∧ At B1 (RdS C r1 dx1 da1 dn1 J last (es.map EE.o) :: RdS C r2 dx2 da2 dn2 J tk (es2.map EE.o) :: MoS lo (es.map EE.m) :: MoS lb (es2.map EE.m) :: []) H') ?cut2 (fun σ' H16 p => ?_)
          case cut2 =>
            have hlsl : (lsM (es.map EE.m)).length = es.length := (lsM_len _).trans hlm
            have hlo1 : SqL K H15 lo (lsM (es.map EE.m)) := sq_of (mos_at 2 rfl hA)
            refine' se_when (b := decide (mo / 7 % 2 = 1) && decide ((((lsM (es.map EE.m)).length : Nat) : Int) > 0)) hA (et_and (a := decide (mo / 7 % 2 = 1)) (b := decide ((((lsM (es.map EE.m)).length : Nat) : Int) > 0)) ?t1 (fun _ => ?t2)) (fun hb H16 hA => ?_) (fun hb H16 hA => ?_)
            case t1 => walk_at "ev"
            case t2 => exact et_test (ev_op (ev_len (K := K) (ev_var rfl) hlo1) ev_c rv_I0)
            · have hpos := of_decide_eq_true (Bool.and_eq_true_iff.mp hb).2
              have hlo2 : SqL K H16 lo (lsM (es.map EE.m)) := sq_of (mos_at 2 rfl hA)
              have k0 := Int.emod_nonneg (dr / 4) (show (((lsM (es.map EE.m)).length : Nat) : Int) ≠ 0 by omega)
              have k1 := Int.emod_lt_of_pos (dr / 4) hpos
              have hk : (dr / 4 % (((lsM (es.map EE.m)).length : Nat) : Int)).toNat < es.length := by omega
              obtain ⟨e, he⟩ : ∃ e, es[(dr / 4 % (((lsM (es.map EE.m)).length : Nat) : Int)).toNat]? = some e := ⟨_, List.getElem?_eq_getElem hk⟩
              have hm : (es.map EE.m)[(dr / 4 % (((lsM (es.map EE.m)).length : Nat) : Int)).toNat]? = some e.m := by rw [List.getElem?_map, he]; rfl
              have hat : atI (lsM (es.map EE.m)) (dr / 4 % (((lsM (es.map EE.m)).length : Nat) : Int)) = some (.ref e.m.le) := by
                have h := atI_nat (xs := lsM (es.map EE.m)) (j := (dr / 4 % (((lsM (es.map EE.m)).length : Nat) : Int)).toNat) (v := .ref e.m.le) (by unfold lsM at hm ⊢; rw [List.getElem?_map, hm]; rfl)
                rwa [Int.toNat_of_nonneg k0] at h
              have hrow := mos_row (at_ix 4 [2, 0, 1, 3] hA) hm
              refine' s_asg (v := .int e.m.tok) (ev_op (ev_op (ev_var rfl) (ev_op ?c3 (ev_len (K := K) (ev_var rfl) hlo2) (rv_I hpos)) (rv_ixL (K := K) hlo2 hat)) ev_c (rv_ixL (K := K) (v := .int e.m.tok) (sq_of hrow) rfl)) (fun H17 e17 => ⟨_, rfl, at_ex hA e17⟩)
              case c3 => walk_at "ev"
            · exact ⟨_, rfl, hA⟩
          obtain ⟨t, rfl, hA⟩ := p
          refine' qe_asg hA ?c (fun H17 hA => ?_)
          case c => walk_at "ev"
          have j0 := Int.emod_nonneg mo (show J ≠ 0 by omega)
          have j1 := Int.emod_lt_of_pos mo (show 0 < J by omega)
          generalize mo % J = j at *
          have hjm : ∀ m ∈ es.map EE.m, m.js.length ≤ 500 ∧ Dp K B1 m.mq m.q := fun m hm => by
            obtain ⟨e, he, rfl⟩ := List.mem_map.mp hm
            have k := I.all e he
            exact ⟨by rw [k.sj]; have := k.jl; omega, k.dm⟩
          have hjo : ∀ o ∈ es.map EE.o, o.js.length ≤ 500 := fun o ho => by
            obtain ⟨e, he, rfl⟩ := List.mem_map.mp ho
            have k := I.all e he
            have := k.jl
            omega
          by_cases hx : ∃ (k : Nat) (e : EE), es[k]? = some e ∧ e.o.tok = t
          · obtain ⟨k, e, hk, rfl⟩ := hx
            have he := I.all e (List.mem_of_getElem? hk)
            have hkm : (es.map EE.m)[k]? = some e.m := by rw [List.getElem?_map, hk]; rfl
            have hko : (es.map EE.o)[k]? = some e.o := by rw [List.getElem?_map, hk]; rfl
            obtain ⟨q1, q2, q3⟩ := joinJ_ok he.nd he.rg he.jl j0 j1
            have hmaj := hm_len q1 q2
            have esm : (es.map EE.m).set k { e.m with js := joinJ e.m.js j } = (es.set k (withJ e j)).map EE.m := (List.map_set (f := EE.m) (a := withJ e j)).symm
            have eso : (es.map EE.o).set k { e.o with js := joinJ e.o.js j } = (es.set k (withJ e j)).map EE.o := (List.map_set (f := EE.o) (a := withJ e j)).symm
            have erm : (es.map EE.m).eraseIdx k = (es.eraseIdx k).map EE.m := map_erase _ _ _
            have ero : (es.map EE.o).eraseIdx k = (es.eraseIdx k).map EE.o := map_erase _ _ _
            by_cases h2 : 2 * ((joinJ e.o.js j).length : Int) ≤ J
            · refine q_do (go_call (go_cons (ev_var rfl) fun Ha ea => go_cons (ev_var rfl) fun Hb eb => go_cons (ev_var rfl) fun Hc ec => go_cons (ev_var rfl) fun Hd ed => go_nil ⟨lo, J, e.o.tok, j, es.map EE.m, B1, _, rfl, at_ix 4 [2, 0, 1, 3] (at_ex hA (((ea.trans eb).trans ec).trans ed)), I.ndM, by omega, hjm, .inr ⟨k, e.m, hkm, he.tk, fun _ H18 hA => ?_, fun hn => absurd (by rw [he.sj]; exact h2) hn⟩⟩))
              rw [esm] at hA
              refine s_same (K := K) (n := 6) (C := fun H' => At B1 (RdS C r1 dx1 da1 dn1 J last ((es.set k (withJ e j)).map EE.o) :: RdS C r2 dx2 da2 dn2 J tk (es2.map EE.o) :: MoS lo ((es.set k (withJ e j)).map EE.m) :: MoS lb (es2.map EE.m) :: []) H') (fun H' H'' ex h => at_ex h ex)
                (fun Q kk => go_cons' ⟨.ref r1, rfl, r1, dx1, _, rfl, rds_at 1 rfl hA, rfl, go_cons (ev_var rfl) fun Ha ea => go_cons (ev_var rfl) fun Hb eb => go_nil ⟨r1, dx1, da1, dn1, J, last, e.o.tok, j, es.map EE.o, B1, _, rfl, at_ix 4 [1, 0, 2, 3] (at_ex hA (ea.trans eb)), I.ascO, by omega, hjo, .inr ⟨k, e.o, hko, rfl, fun H19 => ⟨fun _ hA => go_cons (ev_var rfl) fun He ee => go_nil (kk _ _ .none _ .non .non .non ?_), fun hm => ?_⟩⟩⟩⟩) (fun H21 hA => ?_)
              · rw [eso] at hA
                exact at_ix 4 [0, 2, 1, 3] (at_ex hA ee)
              · rw [hmaj] at hm
                have := of_decide_eq_true hm
                omega
              · exact ⟨_, _, _, _, B1, last, tk, _, es2, rfl, b1, hl0, I.upd hk j0 j1, I2.up (Ex.refl _) (Int.le_refl _) (Nat.le_succ _), hA⟩
            · refine q_do (go_call (go_cons (ev_var rfl) fun Ha ea => go_cons (ev_var rfl) fun Hb eb => go_cons (ev_var rfl) fun Hc ec => go_cons (ev_var rfl) fun Hd ed => go_nil ⟨lo, J, e.o.tok, j, es.map EE.m, B1, _, rfl, at_ix 4 [2, 0, 1, 3] (at_ex hA (((ea.trans eb).trans ec).trans ed)), I.ndM, by omega, hjm, .inr ⟨k, e.m, hkm, he.tk, fun hy => absurd (by rw [← he.sj]; exact hy) h2, fun _ B2 H18 v b2 hA hv => ?_⟩⟩))
              rw [erm] at hA
              have hok6 : Okn 6 e.o.q := by
                rw [he.qq]
                exact (Okn.tup (n := 4) (by show 3 ≤ 50000; decide) (okn_cons (.int _) (okn_cons (.int _) (okn_cons he.ok okn_nil)))).mono (by decide)
              have hv : Dp K B2 v e.o.q := by rw [he.qq]; exact hv
              refine s_same (K := K) (n := 6) (C := fun H' => At B2 (RdS C r1 dx1 da1 dn1 J last ((es.eraseIdx k).map EE.o) :: RdS C r2 dx2 da2 dn2 J tk (es2.map EE.o) :: MoS lo ((es.eraseIdx k).map EE.m) :: MoS lb (es2.map EE.m) :: []) H') (fun H' H'' ex h => at_ex h ex)
                (fun Q kk => go_cons' ⟨.ref r1, rfl, r1, dx1, _, rfl, rds_at 1 rfl hA, rfl, go_cons (ev_var rfl) fun Ha ea => go_cons (ev_var rfl) fun Hb eb => go_nil ⟨r1, dx1, da1, dn1, J, last, e.o.tok, j, es.map EE.o, B2, _, rfl, at_ix 4 [1, 0, 2, 3] (at_ex hA (ea.trans eb)), I.ascO, by omega, hjo, .inr ⟨k, e.o, hko, rfl, fun H19 => ⟨fun hm _ => ?_, fun _ hA => go_cons (ev_var rfl) fun He ee => go_nil (kk _ _ e.o.q _ (at_dx (at_ex hA ee) (dp_mono b2 _ _ he.dv)) (at_dx (at_ex hA ee) hv) hok6 ?_)⟩⟩⟩⟩) (fun H21 hA => ?_)
              · rw [hmaj] at hm
                have := of_decide_eq_false hm
                omega
              · rw [ero] at hA
                exact at_ix 4 [0, 2, 1, 3] (at_ex hA ee)
              · exact ⟨_, _, _, _, B2, last, tk, _, es2, rfl, b1.trans b2, hl0, I.del.up b2 (Int.le_refl _) (Nat.le_succ _), I2.up b2 (Int.le_refl _) (Nat.le_succ _), hA⟩
          · have hnm : ∀ m ∈ es.map EE.m, m.tok ≠ t := fun m hm ht => by
              obtain ⟨e, he, rfl⟩ := List.mem_map.mp hm
              obtain ⟨k, hk⟩ := List.getElem?_of_mem he
              exact hx ⟨k, e, hk, by rw [← (I.all e he).tk]; exact ht⟩
            have hno : ∀ o ∈ es.map EE.o, o.tok ≠ t := fun o ho ht => by
              obtain ⟨e, he, rfl⟩ := List.mem_map.mp ho
              obtain ⟨k, hk⟩ := List.getElem?_of_mem he
              exact hx ⟨k, e, hk, ht⟩
            refine q_do (go_call (go_cons (ev_var rfl) fun Ha ea => go_cons (ev_var rfl) fun Hb eb => go_cons (ev_var rfl) fun Hc ec => go_cons (ev_var rfl) fun Hd ed => go_nil ⟨lo, J, t, j, es.map EE.m, B1, _, rfl, at_ix 4 [2, 0, 1, 3] (at_ex hA (((ea.trans eb).trans ec).trans ed)), I.ndM, by omega, hjm, .inl ⟨hnm, fun H18 hA => ?_⟩⟩))
            refine s_same (K := K) (n := 6) (C := fun H' => At B1 (RdS C r1 dx1 da1 dn1 J last (es.map EE.o) :: RdS C r2 dx2 da2 dn2 J tk (es2.map EE.o) :: MoS lo (es.map EE.m) :: MoS lb (es2.map EE.m) :: []) H') (fun H' H'' ex h => at_ex h ex)
              (fun Q kk => go_cons' ⟨.ref r1, rfl, r1, dx1, _, rfl, rds_at 1 rfl hA, rfl, go_cons (ev_var rfl) fun Ha ea => go_cons (ev_var rfl) fun Hb eb => go_nil ⟨r1, dx1, da1, dn1, J, last, t, j, es.map EE.o, B1, _, rfl, at_ix 4 [1, 0, 2, 3] (at_ex hA (ea.trans eb)), I.ascO, by omega, hjo, .inl ⟨hno, fun H19 hA => go_cons (ev_var rfl) fun He ee => go_nil (kk _ _ .none _ .non .non .non (at_ix 4 [0, 2, 1, 3] (at_ex hA ee)))⟩⟩⟩) (fun H21 hA => ?_)
            exact ⟨_, _, _, _, B1, last, tk, es, es2, rfl, b1, hl0, I.up (Ex.refl _) (Int.le_refl _) (Nat.le_succ _), I2.up (Ex.refl _) (Int.le_refl _) (Nat.le_succ _), hA⟩
      obtain ⟨y12, y13, y14, y15, B2, last, tk, es, es2, rfl, b2, hl0, I, I2, hA⟩ := p
      have hlo : (es.map EE.o).length < 64 := by rw [List.length_map]; have := I.len; omega
      have hlm : (es.map EE.m).length < 64 := by rw [List.length_map]; have := I.len; omega
      have hlo2 : (es2.map EE.o).length < 64 := by rw [List.length_map]; have := I2.len; omega
      have hlm2 : (es2.map EE.m).length < 64 := by rw [List.length_map]; have := I2.len; omega
      have hpo : Okn 6 (.list (pairsOf J (es.map EE.o))) := (pairs_ok hlo (by omega) (by omega)).mono (by decide)
      have hpo2 : Okn 6 (.list (pairsOf J (es2.map EE.o))) := (pairs_ok hlo2 (by omega) (by omega)).mono (by decide)
      have hLL : ∀ (B3 : Hp) (H' : Hp), At B3 (RdS C r1 dx1 da1 dn1 J last (es.map EE.o) :: RdS C r2 dx2 da2 dn2 J tk (es2.map EE.o) :: MoS lo (es.map EE.m) :: MoS lb (es2.map EE.m) :: []) H' → True := fun _ _ _ => trivial
      have hxl : ∀ (xs : List V) (B' : Hp), DpAll K B' xs (pairsOf J (es.map EE.o)) → xs.length < 100000 := fun xs B' h => by
        rw [dpa_len h]
        have h := pairs_len J (es.map EE.o)
        have h2 : (es.map EE.o).length * J.toNat ≤ 64 * 100 := Nat.mul_le_mul (by omega) (by omega)
        omega
      -- told
      refine q_do (e_un (K := K) (j := 3) rfl hA I.ascO hlo (by omega) (by omega) fun B3 H15 p3 xs3 b3 hA hx3 => ?_)
      refine q_same (K := K) (n := 6) (C := fun H' => ∃ B4, Ex B3 B4 ∧ At B4 (Pt p3 (.lst xs3) :: RdS C r1 dx1 da1 dn1 J last (es.map EE.o) :: RdS C r2 dx2 da2 dn2 J tk (es2.map EE.o) :: MoS lo (es.map EE.m) :: MoS lb (es2.map EE.m) :: []) H') (fun H' H'' e ⟨B4, b, h⟩ => ⟨B4, b, at_ex h e⟩) (fun Q k => ⟨.ref p3, rfl, e_lu (K := K) (j := 5) (i := 2) rfl rfl (at_ix 5 [3, 0, 1, 2, 4] hA) hlm (by omega) (by omega) fun B4 H16 p4 xs4 b4 hA hx4 => k _ _ _ _ (at_dxL 2 rfl hA (dpa_mono b4 _ _ hx3)) (at_dxL 0 rfl hA (by rw [← I.pairs]; exact hx4)) hpo ⟨B4, b4, at_ix 5 [1, 2, 3, 0, 4] (at_drop hA)⟩⟩) (fun H16 hc => ?_)
      obtain ⟨B4, b4, hA⟩ := hc
      refine qw_app (K := K) (q := p3) (xs := xs3) (R := rD K (.tuple [.int 0, .int 0])) 0 rfl hA (fun _ => ev_var rfl) (wv_tup (wa_cons (wv_int (wv_of fun _ _ _ _ => ev_c)) (wa_cons (wv_int (wv_of fun _ _ _ _ => ev_c)) wa_nil)) (by show 2 ≤ 100000; decide)) (hxl _ _ hx3) fun v B5 H17 b5 _ hA => ?_
      have hA : At B5 (RdS C r1 dx1 da1 dn1 J last (es.map EE.o) :: RdS C r2 dx2 da2 dn2 J tk (es2.map EE.o) :: MoS lo (es.map EE.m) :: MoS lb (es2.map EE.m) :: []) H17 := at_drop hA
      have b15 := ((b2.trans b3).trans b4).trans b5
      have b25 := (b3.trans b4).trans b5
      clear hx3 b3 b4 b5
      -- pairs
      refine q_do (e_un (K := K) (j := 3) rfl hA I.ascO hlo (by omega) (by omega) fun B3 H15 p3 xs3 b3 hA hx3 => ?_)
      refine q_same (K := K) (n := 6) (C := fun H' => ∃ B4, Ex B3 B4 ∧ At B4 (Pt p3 (.lst xs3) :: RdS C r1 dx1 da1 dn1 J last (es.map EE.o) :: RdS C r2 dx2 da2 dn2 J tk (es2.map EE.o) :: MoS lo (es.map EE.m) :: MoS lb (es2.map EE.m) :: []) H') (fun H' H'' e ⟨B4, b, h⟩ => ⟨B4, b, at_ex h e⟩) (fun Q k => ⟨.ref p3, rfl, e_lu (K := K) (j := 5) (i := 2) rfl rfl (at_ix 5 [3, 0, 1, 2, 4] hA) hlm (by omega) (by omega) fun B4 H16 p4 xs4 b4 hA hx4 => k _ _ _ _ (at_dxL 2 rfl hA (dpa_mono b4 _ _ hx3)) (at_dxL 0 rfl hA (by rw [← I.pairs]; exact hx4)) hpo ⟨B4, b4, at_ix 5 [1, 2, 3, 0, 4] (at_drop hA)⟩⟩) (fun H16 hc => ?_)
      obtain ⟨B4, b4, hA⟩ := hc
      refine qw_app (K := K) (q := p3) (xs := xs3) (R := rD K (.tuple [.int 0, .int 0])) 0 rfl hA (fun _ => ev_var rfl) (wv_tup (wa_cons (wv_int (wv_of fun _ _ _ _ => ev_c)) (wa_cons (wv_int (wv_of fun _ _ _ _ => ev_c)) wa_nil)) (by show 2 ≤ 100000; decide)) (hxl _ _ hx3) fun v B6 H17 b6 _ hA => ?_
      have hA : At B6 (RdS C r1 dx1 da1 dn1 J last (es.map EE.o) :: RdS C r2 dx2 da2 dn2 J tk (es2.map EE.o) :: MoS lo (es.map EE.m) :: MoS lb (es2.map EE.m) :: []) H17 := at_drop hA
      have b16 := ((b15.trans b3).trans b4).trans b6
      have b26 := ((b25.trans b3).trans b4).trans b6
      clear hx3 b3 b4 b6
      -- once more
      refine q_same (K := K) (n := 6) (C := fun H' => ∃ B4, Ex B6 B4 ∧ At B4 (RdS C r1 dx1 da1 dn1 J last (es.map EE.o) :: RdS C r2 dx2 da2 dn2 J tk (es2.map EE.o) :: MoS lo (es.map EE.m) :: MoS lb (es2.map EE.m) :: []) H') (fun H' H'' e ⟨B4, b, h⟩ => ⟨B4, b, at_ex h e⟩) (fun Q k => e_un (K := K) (j := 3) rfl hA I.ascO hlo (by omega) (by omega) fun B3 H15 p3 xs3 b3 hA hx3 => e_lu (K := K) (j := 5) (i := 2) rfl rfl (at_ix 5 [3, 0, 1, 2, 4] hA) hlm (by omega) (by omega) fun B4 H16 p4 xs4 b4 hA hx4 => k _ _ _ _ (at_dxL 2 rfl hA (dpa_mono b4 _ _ hx3)) (at_dxL 0 rfl hA (by rw [← I.pairs]; exact hx4)) hpo ⟨B4, b3.trans b4, at_drop (at_ix 5 [1, 2, 3, 0, 4] (at_drop hA))⟩) (fun H16 hc => ?_)
      obtain ⟨B7, b7, hA⟩ := hc
      -- the other one
      refine s_same (K := K) (n := 6) (C := fun H' => ∃ B4, Ex B7 B4 ∧ At B4 (RdS C r1 dx1 da1 dn1 J last (es.map EE.o) :: RdS C r2 dx2 da2 dn2 J tk (es2.map EE.o) :: MoS lo (es.map EE.m) :: MoS lb (es2.map EE.m) :: []) H') (fun H' H'' e ⟨B4, b, h⟩ => ⟨B4, b, at_ex h e⟩) (fun Q k => e_un (K := K) (j := 4) rfl (at_ix 4 [1, 0, 2, 3] hA) I2.ascO hlo2 (by omega) (by omega) fun B3 H15 p3 xs3 b3 hA hx3 => e_lu (K := K) (j := 6) (i := 2) rfl rfl (at_ix 5 [4, 0, 1, 2, 3] hA) hlm2 (by omega) (by omega) fun B4 H16 p4 xs4 b4 hA hx4 => k _ _ _ _ (at_dxL 2 rfl hA (dpa_mono b4 _ _ hx3)) (at_dxL 0 rfl hA (by rw [← I2.pairs]; exact hx4)) hpo2 ⟨B4, b3.trans b4, at_ix 4 [1, 0, 2, 3] (at_drop (at_ix 5 [1, 2, 3, 4, 0] (at_drop hA)))⟩) (fun H17 hc => ?_)
      obtain ⟨B8, b8, hA⟩ := hc
      exact ⟨_, _, _, _, _, _, _, _, _, B8, last, tk, es, es2, rfl, (b16.trans b7).trans b8, hl0, I.up ((b26.trans b7).trans b8) (Int.le_refl _) (Nat.le_refl _), I2.up ((b26.trans b7).trans b8) (Int.le_refl _) (Nat.le_refl _), hA⟩
    · obtain ⟨y9, y10, y11, y12, y13, y14, y15, y16, y17, B1, last, tk, es, es2, rfl, b1, hl0, I, I2, hA⟩ := h
      refine r_same (K := K) (n := 6) (C := fun _ => True) (fun _ _ _ _ => trivial) (fun Q k => ?_) (fun H17 _ => q H17)
      refine' wl_lst (K := K) (ds := [.int J, .int J]) ?a1 (by show 2 ≤ 100000; decide) B1 H' (Ex.refl B1) hA _ (fun p xs B2 H2 b2 hA hxs => ?_)
      case a1 => exact wa_cons (wv_int (wv_of fun _ _ _ hA => ev_fld (K := K) (ev_var rfl) (rds_at 0 rfl hA) L.cl L.nJ rfl)) (wa_cons (wv_int (wv_of fun _ _ _ hA => ev_fld (K := K) (ev_var rfl) (rds_at 1 rfl hA) L.cl L.nJ rfl)) wa_nil)
      refine' wl_lst (K := K) (ds := [.int J, .int J]) ?a2 (by show 2 ≤ 100000; decide) B2 H2 (Ex.refl B2) hA _ (fun p' xs' B3 H3 b3 hA hxs' => ?_)
      case a2 => exact wa_cons (wv_int (wv_of fun _ _ _ _ => ev_var rfl)) (wa_cons (wv_int (wv_of fun _ _ _ _ => ev_var rfl)) wa_nil)
      exact k _ _ (.list [.int J, .int J]) _ (at_dxL 1 rfl hA (dpa_mono b3 _ _ hxs)) (at_dxL 0 rfl hA hxs') (.lst (by show 2 ≤ 50000; decide) (okn_cons (.int _) (okn_cons (.int _) okn_nil))) trivial

end
end Ap
open PySem PySem.W PyProof.Rows
set_option maxHeartbeats 0 in
theorem PySem.Challenge.cw_appendhall_k51_reads_close_by_majority_holds : PySem.Challenge.rw_appendhall_k51_reads_close_by_majority.Holds := by
  w_on; o_law; k_head; (case hw => w_witness2)
  k_fill
  refine L2.walk_of (l := PySem.Challenge.rw_appendhall_k51_reads_close_by_majority) (n := 63) (k := 20) (x := "script") (CX := fun _ => L2.CX0) (sp := fun w => Ap.spLaw _) rfl (by decide) rfl ⟨rfl, by decide, by decide⟩ (fun w h Y => PySem.W.kIn_of Y) ?F (fun _ _ a ns hl _ hS => ⟨a, ns, rfl, hS, hl, fun _ => rfl⟩) (fun _ _ _ _ _ h => h)
  case F =>
    intro w mg fa h KX G hmg
    obtain ⟨C_Reads, L_Reads, n_Reads_journals, n_Reads__last_token, n_Reads__asked, n_Reads__answered, ⟨f_Reads___init__, fd_Reads___init__, D_Reads___init__⟩, ⟨f_Reads_ask, fd_Reads_ask, D_Reads_ask⟩, ⟨f_Reads_note, fd_Reads_note, D_Reads_note⟩, ⟨f_Reads_unanswered, fd_Reads_unanswered, D_Reads_unanswered⟩⟩ : ∃ C, Ap.Kl _ mg "Reads" C ∧ L2.NoAttr _ C "journals" ∧ L2.NoAttr _ C "_last_token" ∧ L2.NoAttr _ C "_asked" ∧ L2.NoAttr _ C "_answered" ∧ (∃ f fd, Ap.Dm _ C "__init__" "Reads.__init__" Ap.s_Reads___init__ ["self", "journals"] f fd) ∧ (∃ f fd, Ap.Dm _ C "ask" "Reads.ask" Ap.s_Reads_ask ["self", "client", "rid", "query"] f fd) ∧ (∃ f fd, Ap.Dm _ C "note" "Reads.note" Ap.s_Reads_note ["self", "token", "journal"] f fd) ∧ (∃ f fd, Ap.Dm _ C "unanswered" "Reads.unanswered" Ap.s_Reads_unanswered ["self"] f fd) := by
      refine' ⟨_, Ap.kl_mk KX G ?aC ?pg ?hd ?po ?sa ?mk ?kp, Ap.na_mk KX ?n_journals, Ap.na_mk KX ?n__last_token, Ap.na_mk KX ?n__asked, Ap.na_mk KX ?n__answered, Ap.dm_mk KX ?a___init__ ?i___init__ ?l___init__ ?c___init__ ?k___init__ ?b___init__, Ap.dm_mk KX ?a_ask ?i_ask ?l_ask ?c_ask ?k_ask ?b_ask, Ap.dm_mk KX ?a_note ?i_note ?l_note ?c_note ?k_note ?b_note, Ap.dm_mk KX ?a_unanswered ?i_unanswered ?l_unanswered ?c_unanswered ?k_unanswered ?b_unanswered⟩
      (case aC => k_is); (case pg => k_is); (case hd => k_is); (case po => k_is); (case sa => k_is); (case mk => k_is); (case kp => k_is); (case n_journals => k_is); (case n__last_token => k_is); (case n__asked => k_is); (case n__answered => k_is); (case a___init__ => k_is); (case i___init__ => k_is); (case l___init__ => k_is); (case c___init__ => k_is); (case k___init__ => k_is); (case a_ask => k_is); (case i_ask => k_is); (case l_ask => k_is); (case c_ask => k_is); (case k_ask => k_is); (case a_note => k_is); (case i_note => k_is); (case l_note => k_is); (case c_note => k_is); (case k_note => k_is); (case a_unanswered => k_is); (case i_unanswered => k_is); (case l_unanswered => k_is); (case c_unanswered => k_is); (case k_unanswered => k_is)
      (case b___init__ => exact fun _ _ _ _ _ _ us hl => match us, hl with | [_, _], _ => rfl)
      (case b_ask => exact fun _ _ _ _ _ _ us hl => match us, hl with | [_, _, _, _], _ => rfl)
      (case b_note => exact fun _ _ _ _ _ _ us hl => match us, hl with | [_, _, _], _ => rfl)
      (case b_unanswered => exact fun _ _ _ _ _ _ us hl => match us, hl with | [_], _ => rfl)
    obtain ⟨f__law_stream, fd__law_stream, D__law_stream⟩ : ∃ f fd, Ap.Df _ mg "_law_stream" Ap.s__law_stream ["script", "many"] f fd := by
      refine' Ap.df_mk KX G ?a ?l ?c ?k ?b
      (case a => k_is); (case l => k_is); (case c => k_is); (case k => k_is); (case b => exact fun _ _ _ _ _ _ us hl => match us, hl with | [_, _], _ => rfl)
    obtain ⟨f__law_draw, fd__law_draw, D__law_draw⟩ : ∃ f fd, Ap.Df _ mg "_law_draw" Ap.s__law_draw ["draws", "k"] f fd := by
      refine' Ap.df_mk KX G ?a ?l ?c ?k ?b
      (case a => k_is); (case l => k_is); (case c => k_is); (case k => k_is); (case b => exact fun _ _ _ _ _ _ us hl => match us, hl with | [_, _], _ => rfl)
    obtain ⟨f__law_same, fd__law_same, D__law_same⟩ : ∃ f fd, Ap.Df _ mg "_law_same" Ap.s__law_same ["actual", "due"] f fd := by
      refine' Ap.df_mk KX G ?a ?l ?c ?k ?b
      (case a => k_is); (case l => k_is); (case c => k_is); (case k => k_is); (case b => exact fun _ _ _ _ _ _ us hl => match us, hl with | [_, _], _ => rfl)
    obtain ⟨f__law_query, fd__law_query, D__law_query⟩ : ∃ f fd, Ap.Df _ mg "_law_query" Ap.s__law_query ["draw"] f fd := by
      refine' Ap.df_mk KX G ?a ?l ?c ?k ?b
      (case a => k_is); (case l => k_is); (case c => k_is); (case k => k_is); (case b => exact fun _ _ _ _ _ _ us hl => match us, hl with | [_], _ => rfl)
    obtain ⟨f__law_unanswered, fd__law_unanswered, D__law_unanswered⟩ : ∃ f fd, Ap.Df _ mg "_law_unanswered" Ap.s__law_unanswered ["opened", "count"] f fd := by
      refine' Ap.df_mk KX G ?a ?l ?c ?k ?b
      (case a => k_is); (case l => k_is); (case c => k_is); (case k => k_is); (case b => exact fun _ _ _ _ _ _ us hl => match us, hl with | [_, _], _ => rfl)
    obtain ⟨f__law_due, fd__law_due, D__law_due⟩ : ∃ f fd, Ap.Df _ mg "_law_due" Ap.s__law_due ["opened", "count", "token", "journal"] f fd := by
      refine' Ap.df_mk KX G ?a ?l ?c ?k ?b
      (case a => k_is); (case l => k_is); (case c => k_is); (case k => k_is); (case b => exact fun _ _ _ _ _ _ us hl => match us, hl with | [_, _, _, _], _ => rfl)
    obtain ⟨f_majority, fd_majority, D_majority⟩ : ∃ f fd, Ap.Df _ mg "majority" Ap.s_majority ["count"] f fd := by
      refine' Ap.df_mk KX G ?a ?l ?c ?k ?b
      (case a => k_is); (case l => k_is); (case c => k_is); (case k => k_is); (case b => exact fun _ _ _ _ _ _ us hl => match us, hl with | [_], _ => rfl)
    obtain ⟨f_has_majority, fd_has_majority, D_has_majority⟩ : ∃ f fd, Ap.Df _ mg "has_majority" Ap.s_has_majority ["members", "count"] f fd := by
      refine' Ap.df_mk KX G ?a ?l ?c ?k ?b
      (case a => k_is); (case l => k_is); (case c => k_is); (case k => k_is); (case b => exact fun _ _ _ _ _ _ us hl => match us, hl with | [_, _], _ => rfl)
    obtain ⟨fd, hb, F⟩ : ∃ fd, (∀ (s : Shared) (v : Value), BindsTo s fd ⟨[v], []⟩ [("script", v)]) ∧ L2.Fun _ "law" "law" Ap.s_law fa fd := by
      refine' Ap.law_mk KX G hmg ?a ?l ?c ?k ?b
      (case a => k_is); (case l => k_is); (case c => k_is); (case k => k_is); (case b => exact fun _ _ _ _ _ _ _ _ => .of_eq rfl)
    refine ⟨fd, hb, fun base _ _ => Ap.ok_law F D__law_stream D__law_draw D__law_same D__law_query D__law_unanswered D__law_due D_majority D_has_majority D_Reads___init__ D_Reads_ask D_Reads_note D_Reads_unanswered L_Reads ⟨L_Reads.cl, n_Reads_journals, n_Reads__last_token, n_Reads__asked, n_Reads__answered⟩ ?T⟩
    refine' ⟨PySem.W.mg_none_of KX G ?z0, PySem.W.mg_none_of KX G ?z1, PySem.W.mg_none_of KX G ?z2, PySem.W.mg_none_of KX G ?z3, PySem.W.mg_none_of KX G ?z4, PySem.W.mg_none_of KX G ?z5, PySem.W.mg_none_of KX G ?z6, PySem.W.mg_none_of KX G ?z7, PySem.W.mg_none_of KX G ?z8, PySem.W.mg_none_of KX G ?z9⟩
    (case z0 => k_is); (case z1 => k_is); (case z2 => k_is); (case z3 => k_is); (case z4 => k_is); (case z5 => k_is); (case z6 => k_is); (case z7 => k_is); (case z8 => k_is); (case z9 => k_is)
#print axioms PySem.Challenge.cw_appendhall_k51_reads_close_by_majority_holds
