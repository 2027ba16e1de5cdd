import PyProof.Rows.All
import Wide.All
import OpenK.AllK
import Wide.FinOn
import HandS.ForMost
import HandS.Evl
import HandS.Walk
import HandS.SortKw
import HandS.DictComp
import HandS.IsInst
import HandS.ForExc
import HandS.TupAny
import HandS.Conv
import HandS.Property
import HandS.ExcIs
import HandS.Deep
import HandS.SetBool
import HandS.SetKeys
import HandS.ClsMeth
import OpenK.KDescr
import HandS.Style
import HandS.WordsDict
import KE.DataMinMax
import HandS.Text
import HandS.Wide
import PyProof.StrBlock2
import HandS.TupLe
import PySem.Challenge.RW_appendhall_k05_spoilt_words
set_option Elab.async false
set_option linter.all false
set_option maxRecDepth 100000
namespace Ap
open PySem PySem.Spec PyProof.Rows L2 Evl

/-! ### more of what evaluates to what -/
section
variable {K : PySem.W.Frag} {σ : L2.St} {H H' : Hp} {ta tb tc te : TE} {t u : TT} {x y z v w : V} {r r' : R2}
theorem ev_chain {k m : Bool} (ha : Ev ta σ H x) (hb : Ev tb σ H y) (hr : RV r x y H (.bl k)) (hc : Ev tc σ H z) (hr' : RV r' y z H (.bl m)) : Ev (tChain r r' ta tb tc) σ H (.bl (k && m)) := fun H1 e Q q =>
  ha H1 e _ fun H2 e2 => hb H2 (e.trans e2) _ fun H3 e3 => hr H3 ((e.trans e2).trans e3) _ fun H4 e4 => ⟨k, rfl, by
    cases k with
    | true =>
      show tc σ H4 _
      exact hc H4 (((e.trans e2).trans e3).trans e4) _ fun H5 e5 => hr' H5 ((((e.trans e2).trans e3).trans e4).trans e5) Q fun H6 e6 => q H6 ((((e2.trans e3).trans e4).trans e5).trans e6)
    | false =>
      show Q (.bl false) H4
      exact q H4 ((e2.trans e3).trans e4)⟩
theorem rc_int {i : Int} : RC (fun xs H Q => (∃ i, xs = [.int i] ∧ Q (.int i) H) ∨ ∃ k, xs = [.bl k] ∧ Q (.int (if k then 1 else 0)) H) [.int i] H (.int i) := fun H1 _ _ q => Or.inl ⟨i, rfl, q H1 (Ex.refl H1)⟩
theorem rc_len {p : Addr} {xs : List V} (h : SqL K H p xs) : RC (fun xs H Q => ∃ p ys, xs = [.ref p] ∧ (SqL K H p ys ∨ SqT K H p ys) ∧ Q (.int ys.length) H) [.ref p] H (.int (xs.length : Int)) := fun H1 e _ q => ⟨p, xs, rfl, Or.inl (ex_l e h), q H1 (Ex.refl H1)⟩
theorem rc_lenT {p : Addr} {xs : List V} (h : SqT K H p xs) : RC (fun xs H Q => ∃ p ys, xs = [.ref p] ∧ (SqL K H p ys ∨ SqT K H p ys) ∧ Q (.int ys.length) H) [.ref p] H (.int (xs.length : Int)) := fun H1 e _ q => ⟨p, xs, rfl, Or.inr (ex_t e h), q H1 (Ex.refl H1)⟩
end


section
variable {K : PySem.W.Frag} {σ : L2.St} {H H' : Hp} {ta tb tc te td ty tv : TE} {t u : TT} {x y z v w : V} {D : Ends} {tz : TS}
theorem ev_dget {a : Addr} {kvs : List (Key × V)} {k : Key} (ha : Ev td σ H (.ref a)) (hk : Ev ty σ H (kV k)) (hr : Rd H a (.dK kvs)) (hv : valV kvs k = some v) : Ev (tDGet td ty) σ H v := fun H1 e Q q =>
  ha H1 e _ fun H2 e2 => hk H2 (e.trans e2) _ fun H3 e3 => ⟨a, v, rfl, .inl ⟨kvs, k, ex_rd ((e.trans e2).trans e3) hr, rfl, hv.symm⟩, q H3 (e2.trans e3)⟩
/-- isinstance(x, T) of a plain value -/
theorem rc_isi {x : V} {T X : String} {b : Bool} (ht : ∀ H, TyX K H x (.type X)) (hb : kitB X T = some b) : RC (rIsi K) [x, .ty T] H (.bl b) := fun H1 _ _ q => ⟨x, .ty T, .type X, .type T, b, rfl, .ty T, ht H1, kit_ty hb, q H1 (Ex.refl H1)⟩
/-- d[k] = e -/
theorem s_put {a : Addr} {kvs : List (Key × V)} {k : Key} (h : Ev tv σ H v) (ha : Ev td σ H (.ref a)) (hk : Ev ty σ H (kV k)) (hd : H a = some (.dK kvs)) (hl : kvs.length < 100000) (q : ∀ H1, Ex H H1 → D.nx σ (upd H1 a (.dK (putK kvs k v)))) : sDPut td ty tv D σ H :=
  h H (Ex.refl H) _ fun H1 e1 => ha H1 e1 _ fun H2 e2 => hk H2 (e1.trans e2) _ fun H3 e3 => ⟨a, _, rfl, DPut.k (((e1.trans e2).trans e3) a _ hd) (sz_lt hl), q H3 ((e1.trans e2).trans e3)⟩
theorem q_put {a : Addr} {kvs : List (Key × V)} {k : Key} (h : Ev tv σ H v) (ha : Ev td σ H (.ref a)) (hk : Ev ty σ H (kV k)) (hd : H a = some (.dK kvs)) (hl : kvs.length < 100000) (q : ∀ H1, Ex H H1 → tz D σ (upd H1 a (.dK (putK kvs k v)))) : tSeq (sDPut td ty tv) tz D σ H :=
  s_put (D := { D with nx := tz D }) h ha hk hd hl q
/-- within a lock, and out of it -/
theorem Ex.unlock {H H' : Hp} {d : Addr} {o : Obj} {u : HO} (hd : H d = some u) (e : Ex (upd H d (.frz o u)) H') : Ex H (upd H' d u) := fun a o' h => by
  by_cases q : a = d
  · subst q
    rw [upd_same, ← hd, h]
  · rw [upd_ne q]
    exact e a o' (by rw [upd_ne q]; exact h)
theorem SqL.locked {a d : Addr} {xs : List V} {o : Obj} {u : HO} (h : SqL K H a xs) (hn : H d = some u) (hu : ∀ l, u ≠ .lst l ∧ ∀ o, u ≠ .frz o (.lst l)) : SqL K (upd H d (.frz o u)) a xs := by
  rcases h with (h | ⟨o', h⟩) | h
  · have q : a ≠ d := fun e => by
      rw [e, hn] at h
      exact (hu xs).1 (Option.some.inj h)
    exact .inl (.inl (by rw [upd_ne q]; exact h))
  · have q : a ≠ d := fun e => by
      rw [e, hn] at h
      exact (hu xs).2 o' (Option.some.inj h)
    exact .inl (.inr ⟨o', by rw [upd_ne q]; exact h⟩)
  · exact .inr h
/-- y = [e for k in d if t] -/
theorem q_lcKeys {d : Addr} {kvs : List (Key × V)} {jd i j : Nat} {vs : List Nat} (hj : σ[jd]? = some (some (.ref d))) (hd : H d = some (.dK kvs)) (hz : kvs.length ≤ 40000) (f : Nat → Bool) (v : Nat → V) (hw : ∀ x, wipe ((wipe σ vs).set j (some x)) vs = wipe σ vs)
    (ht : ∀ (n : Nat) k x o, kvs[n]? = some (k, x) → EvT t ((wipe σ vs).set j (some (kV k))) (upd H d (.frz o (.dK kvs))) (f n))
    (he : ∀ (n : Nat) k x o, kvs[n]? = some (k, x) → f n = true → Ev te ((wipe σ vs).set j (some (kV k))) (upd H d (.frz o (.dK kvs))) (v n))
    (q : ∀ p H1, H p = none → Ex H H1 → H1 p = some (.lst (given kvs.length f v)) → tz D (σ.set i (some (.ref p))) H1) : tSeq (tLock (tAsg (tLc (iKeys (tVar jd)) (gName j) t te vs) (gName i))) tz D σ H := by
  refine ⟨d, .dK kvs, hd, trivial, fun od => ⟨.ref d, hj, d, od, rfl, .inl ⟨kvs, upd_same, fun Dl hD => ?_⟩⟩⟩
  have ne : Dl ≠ d := fun e => by
    rw [e, upd_same] at hD
    cases hD
  refine lc_it walk_keys (fun m H' => Cw (upd H d (.frz od (.dK kvs))) f v Dl m H') ⟨hD, Ex.new hD, upd_same⟩ (fun m H' _ p => p.2.1 d _ upd_same) (fun m x H1 H' hm p y => ?_) (fun H' p => ?_)
  · obtain ⟨rfl, k, x', hk, rfl⟩ := y
    exact ⟨hw _, cw_turn p (by omega) (ht m k x' od hk) (fun hf => he m k x' od hk hf)⟩
  · refine ⟨p.2.1 d _ upd_same, ?_⟩
    refine q Dl _ ?_ (Ex.unlock hd p.2.1) (by rw [upd_ne ne]; exact p.2.2)
    rw [upd_ne ne] at hD
    exact hD
/-- for k in d: body, the dict locked -/
theorem q_forKeys {d : Addr} {kvs : List (Key × V)} {jd j : Nat} {tu : TS} (hj : σ[jd]? = some (some (.ref d))) (hd : H d = some (.dK kvs)) (Pv : Obj → Nat → L2.St → Hp → Prop)
    (h0 : ∀ o, Pv o 0 σ (upd H d (.frz o (.dK kvs)))) (hG : ∀ o i σ' H', i ≤ kvs.length → Pv o i σ' H' → H' d = some (.frz o (.dK kvs)))
    (hs : ∀ o i k x σ' H' rt bk, kvs[i]? = some (k, x) → Pv o i σ' H' → tu ⟨Pv o (i + 1), rt, bk, Pv o (i + 1)⟩ (σ'.set j (some (kV k))) H')
    (q : ∀ o σ' H', Pv o kvs.length σ' H' → tz D σ' (upd H' d (.dK kvs))) : tSeq (tLock (tFor (iKeys (tVar jd)) (gName j) tu)) tz D σ H := by
  refine ⟨d, .dK kvs, hd, trivial, fun od => ⟨.ref d, hj, d, od, rfl, .inl ⟨kvs, upd_same, ?_⟩⟩⟩
  refine for_it walk_keys (Pv od) (h0 od) (fun i σ' H' hi p => hG od i σ' H' hi p) (fun i x σ' H1 H' hi p y => ?_) (fun σ' H' p => ⟨hG od _ σ' H' (Nat.le_refl _) p, q od σ' H' p⟩)
  obtain ⟨rfl, k, x', hk, rfl⟩ := y
  exact hs od i k x' σ' H' _ _ hk p
theorem q_dnew {i : Nat} (k : ∀ p H1, H p = none → Ex H H1 → H1 p = some (.dK []) → tz D (σ.set i (some (.ref p))) H1) : tSeq (tAsg tDNewK (gName i)) tz D σ H := fun p hp => k p _ hp (Ex.new hp) upd_same
theorem el_rep {ta : TA} {vs : List V} {n : Int} (h : EvA ta σ H vs) (hb : Ev tb σ H (.int n)) (hl : vs.length * n.toNat ≤ 100000) (hv : vs.length ≤ 100000) (hn : -100000 ≤ n ∧ n ≤ 100000) : EvL (tOp rRep (tLst ta) tb) σ H (List.replicate n.toNat vs).flatten := fun H1 e Q q =>
  h H1 e _ fun H2 e2 => ⟨sz_of hv, fun p hp => hb _ ((e.trans e2).trans (Ex.new hp)) _ fun H3 e3 => ⟨p, n, vs, rfl, rfl, e3 _ _ upd_same, by omega, by omega, sz_of hl, fun l hl2 => q l _ (fresh_back ((e2.trans (Ex.new hp)).trans e3) hl2) (((e2.trans (Ex.new hp)).trans e3).trans (Ex.new hl2)) upd_same⟩⟩
theorem q_call {sp : Sp} {dvs vs : List V} {E : XK} {ta : TA} {i : Nat} (h : EvA ta σ H vs) (k : ∀ H1, Ex H H1 → sp (vs ++ dvs) H1 (fun v H2 => tz D (σ.set i (some v)) H2) E) : tSeq (tAsg (tCall sp dvs E ta) (gName i)) tz D σ H := h H (Ex.refl H) _ fun H1 e => k H1 e
theorem s_retCall {sp : Sp} {dvs vs : List V} {E : XK} {ta : TA} (h : EvA ta σ H vs) (k : ∀ H1, Ex H H1 → sp (vs ++ dvs) H1 D.rt E) : tRet (tCall sp dvs E ta) D σ H := h H (Ex.refl H) _ fun H1 e => k H1 e
/-- for k in range(lo, hi), any small bounds -/
theorem q_forRng {ta : TA} {j : Nat} {lo n : Int} {tu : TS} (h : EvA ta σ H [.int lo, .int n]) (hn : -100000 ≤ lo ∧ lo ≤ 100000 ∧ -100000 ≤ n ∧ n ≤ 100000) (Pv : Nat → L2.St → Hp → Prop) (h0 : ∀ H1, Ex H H1 → Pv 0 σ H1)
    (hs : ∀ (i : Nat) σ' H', lo + (i : Int) < n → Pv i σ' H' → tu { D with nx := Pv (i + 1), ct := Pv (i + 1), bk := tz D } (σ'.set j (some (.int (lo + (i : Int))))) H') (hd : ∀ σ' H', Pv (n - lo).toNat σ' H' → tz D σ' H') : tSeq (tFor (iRng2 ta) (gName j) tu) tz D σ H :=
  h H (Ex.refl H) _ fun H1 e => ⟨lo, n, rfl, ⟨by omega, by omega, by omega, by omega⟩, for_range (lo := lo) (n := (n - lo).toNat) Pv (h0 H1 e) (fun i σ' H' hi p => hs i σ' H' (by omega) p) hd⟩
theorem given_eq {α : Type} (xs : List α) (d : α) (p : α → Bool) (g : α → V) : given xs.length (fun i => p (xs.getD i d)) (fun i => g (xs.getD i d)) = (xs.filter p).map g := by
  have e : (List.range xs.length).map (fun i => xs.getD i d) = xs := by
    refine List.ext_getElem (by simp) (fun i h1 h2 => ?_)
    rw [List.getElem_map, List.getElem_range, List.getD_eq_getElem?_getD, List.getElem?_eq_getElem h2]
    rfl
  unfold given
  conv => rhs; rw [← e]
  rw [List.filter_map, List.map_map]
  rfl
end
/-! ### draws: whole numbers below 5040 -/
def Dr (ds : List Int) : Prop := ∀ d ∈ ds, 0 ≤ d ∧ d < 5040
theorem Dr.nil : Dr [] := fun _ h => nomatch h
theorem Dr.app {ds : List Int} {d : Int} (h : Dr ds) (h0 : 0 ≤ d) (h1 : d < 5040) : Dr (ds ++ [d]) := fun e he => by
  rcases List.mem_append.mp he with he | he
  · exact h e he
  · rw [List.mem_singleton.mp he]
    exact ⟨h0, h1⟩
/-- a draw: the k-th one, 0 behind the last -/
def drw (ds : List Int) (k : Nat) : Int := ds.getD k 0
theorem drw_ok {ds : List Int} (h : Dr ds) (k : Nat) : 0 ≤ drw ds k ∧ drw ds k < 5040 := by
  unfold drw
  rw [List.getD_eq_getElem?_getD]
  cases e : ds[k]? with
  | none => exact ⟨Int.le_refl _, by show (0 : Int) < 5040; decide⟩
  | some d => exact h d (List.mem_of_getElem? e)
def spStream (K : PySem.W.Frag) : Sp := fun vs H Q _ => ∃ (a : Addr) (ns : List Int) (m : Nat), vs = [.ref a, .int (m : Int)] ∧ SqL K H a (ns.map V.int) ∧ ns.length ≤ 63 ∧ m ≤ 1000 ∧
  ∀ ds : List Int, Dr ds → ds.length ≤ m + 60 → RetL (ds.map V.int) H Q
def spDraw (K : PySem.W.Frag) : Sp := fun vs H Q _ => ∃ (a : Addr) (ds : List Int) (k : Nat), vs = [.ref a, .int (k : Int)] ∧ SqL K H a (ds.map V.int) ∧ RetV (.int (drw ds k)) H Q
theorem spDraw_v {K : PySem.W.Frag} {H : Hp} {a : Addr} {ds : List Int} {j : Int} {k : Nat} (h : SqL K H a (ds.map V.int)) (e : j = (k : Int)) : SpV (spDraw K) [.ref a, .int j] H (.int (drw ds k)) := fun H1 e1 Q q E =>
  ⟨a, ds, k, by rw [e], ex_l e1 h, fun H2 e2 => q H2 e2⟩
def drI (ds : List Int) (j : Int) : Int := drw ds j.toNat
theorem drI_ok {ds : List Int} (h : Dr ds) (j : Int) : 0 ≤ drI ds j ∧ drI ds j < 5040 := drw_ok h _
theorem spDrawI {K : PySem.W.Frag} {H : Hp} {a : Addr} {ds : List Int} {j : Int} (h : SqL K H a (ds.map V.int)) (e : 0 ≤ j) : SpV (spDraw K) [.ref a, .int j] H (.int (drI ds j)) := spDraw_v h (by omega)
theorem q_stream {K : PySem.W.Frag} {σ : L2.St} {H : Hp} {D : Ends} {tz : TS} {E : XK} {i : Nat} {a : Addr} {ns : List Int} {m : Int} (h0 : σ[0]? = some (some (.ref a))) (hS : SqL K H a (ns.map V.int)) (hn : ns.length ≤ 63) (hm : 0 ≤ m ∧ m ≤ 1000)
    (k : ∀ (ds : List Int) (l : Addr) (H1 : Hp), Dr ds → (ds.length : Int) ≤ m + 60 → H l = none → Ex H H1 → H1 l = some (.lst (ds.map V.int)) → tz D (σ.set i (some (.ref l))) H1) :
    tSeq (tAsg (tCall (spStream K) [] E (tCons (tVar 0) (tCons (tC (.int m)) tNil))) (gName i)) tz D σ H :=
  ⟨.ref a, h0, a, ns, m.toNat, by rw [show ((m.toNat : Nat) : Int) = m by omega]; rfl, hS, hn, by omega, fun ds hD hl l H1 n e h => k ds l H1 hD (by omega) n e h⟩

/-! ### a def of the text, its place and how it is called; the law's own end -/
structure Df (K : PySem.W.Frag) (mg : Str → Option Value) (x : Str) (st : Stmt) (ps : List Str) (f : Addr) (fd : FuncData) : Prop where
  F : Fun K x x st f fd
  b : Binds K fd ps []
  g : mg x = some (.ref f)
theorem df_mk {K : PySem.W.Frag} {mg : Str → Option Value} {h : Heap} (X : K.In h) (G : h.Ns mainGlobals mg) {x : Str} {st : Stmt} {ps : List Str} {f : Addr} {oc : Value} {od an : Option Addr} {sl : Array (Option Value)} {kV dc pm cd ct : Value}
    (a : PySem.W.nsIn K mainGlobals x = some (some (.ref f))) (l : K.lookup f = some ⟨oc, od, .func (PySem.W.fnOf x x (defArgs st) (defBody st) (defScope st) .none kV dc pm an cd ct), sl⟩) (c : PySem.W.codeIn K cd x = true) (k : PySem.W.keepIn K (.ref f) = true)
    (hb : ∀ (kV doc pm : Value) (an : Option Addr) (cdv ct : Value) (us : List Value), us.length = ps.length → bindArgs (PySem.W.fnOf x x (defArgs st) (defBody st) (defScope st) .none kV doc pm an cdv ct) ⟨us, []⟩ = pure (ps.zip us)) :
    ∃ f fd, Df K mg x st ps f fd := ⟨_, _, fun_mk l c k, (fun_mk l c k).binds hb, PySem.W.mg_of X G a⟩
theorem law_mk {K : PySem.W.Frag} {mg : Str → Option Value} {h : Heap} (X : K.In h) (G : h.Ns mainGlobals mg) {st : Stmt} {fa f : Addr} {oc : Value} {od an : Option Addr} {sl : Array (Option Value)} {kV dc pm cd ct : Value} (hfa : mg "law" = some (.ref fa))
    (a : PySem.W.nsIn K mainGlobals "law" = some (some (.ref f))) (l : K.lookup f = some ⟨oc, od, .func (PySem.W.fnOf "law" "law" (defArgs st) (defBody st) (defScope st) .none kV dc pm an cd ct), sl⟩) (c : PySem.W.codeIn K cd "law" = true) (k : PySem.W.keepIn K (.ref f) = true)
    (hb : ∀ (kV doc pm : Value) (an : Option Addr) (cdv ct : Value) (s : Shared) (v : Value), BindsTo s (PySem.W.fnOf "law" "law" (defArgs st) (defBody st) (defScope st) .none kV doc pm an cdv ct) ⟨[v], []⟩ [("script", v)]) :
    ∃ fd, (∀ (s : Shared) (v : Value), BindsTo s fd ⟨[v], []⟩ [("script", v)]) ∧ Fun K "law" "law" st fa fd := by
  have e := hfa.symm.trans (PySem.W.mg_of X G a)
  cases e
  exact ⟨_, fun s v => hb kV dc pm an cd ct s v, fun_mk l c k⟩
def spLaw (K : PySem.W.Frag) : Sp := fun vs H Q _ => ∃ (a : Addr) (ns : List Int), vs = [.ref a] ∧ SqL K H a (ns.map V.int) ∧ ns.length ≤ 63 ∧ ∀ H', Q (.bl true) H'
end Ap

set_option Elab.async false
set_option linter.all false
set_option maxRecDepth 100000
namespace Ap
open PySem PySem.Spec PyProof.Rows L2 Evl

/-! ### data: what a value stands for, whatever grows around it -/
section
variable {K : PySem.W.Frag} {H H' : Hp}
mutual
theorem dp_mono (e : Ex H H') : ∀ (d : PyData) (v : V), Dp K H v d → Dp K H' v d
  | .none, _, h => by cases h; exact .non
  | .bool b, _, h => by cases h; exact .bl b
  | .int i, _, h => by cases h; exact .int i
  | .str x, _, h => by cases h; exact .str x
  | .list ds, _, h => by
    cases h with
    | lst hs ha => exact .lst (ex_l e hs) (dpa_mono e ds _ ha)
  | .tuple ds, _, h => by
    cases h with
    | tup hs ha => exact .tup (ex_t e hs) (dpa_mono e ds _ ha)
  | .dict _, _, h => by cases h
theorem dpa_mono (e : Ex H H') : ∀ (ds : List PyData) (vs : List V), DpAll K H vs ds → DpAll K H' vs ds
  | [], _, h => by cases h; exact .nil
  | d :: ds, _, h => by
    cases h with
    | cons h1 h2 => exact .cons (dp_mono e d _ h1) (dpa_mono e ds _ h2)
end
theorem dpa_len : ∀ {vs : List V} {ds : List PyData}, DpAll K H vs ds → vs.length = ds.length
  | _, _, .nil => rfl
  | _, _, .cons _ h => by rw [List.length_cons, List.length_cons, dpa_len h]
theorem dpa_at : ∀ {vs : List V} {ds : List PyData} {i : Nat} {d : PyData}, DpAll K H vs ds → ds[i]? = some d → ∃ v, vs[i]? = some v ∧ Dp K H v d
  | _, _, i, d, .nil, h => by simp at h
  | _, _, 0, d, .cons h1 _, h => ⟨_, rfl, by
    have e := Option.some.inj (show some _ = some d from h)
    rw [← e]
    exact h1⟩
  | _, _, i + 1, d, .cons _ h2, h => by
    obtain ⟨v, e, q⟩ := dpa_at (i := i) h2 (by simpa using h)
    exact ⟨v, by simpa using e, q⟩
theorem dpa_atV : ∀ {vs : List V} {ds : List PyData} {i : Nat} {v : V}, DpAll K H vs ds → vs[i]? = some v → ∃ d, ds[i]? = some d ∧ Dp K H v d
  | _, _, i, v, .nil, h => by simp at h
  | _, _, 0, v, .cons h1 _, h => ⟨_, rfl, by
    have e := Option.some.inj (show some _ = some v from h)
    rw [← e]
    exact h1⟩
  | _, _, i + 1, v, .cons _ h2, h => by
    obtain ⟨d, e, q⟩ := dpa_atV (i := i) h2 (by simpa using h)
    exact ⟨d, by simpa using e, q⟩
theorem dpa_app : ∀ {vs ws : List V} {ds es : List PyData}, DpAll K H vs ds → DpAll K H ws es → DpAll K H (vs ++ ws) (ds ++ es)
  | _, _, _, _, .nil, h => h
  | _, _, _, _, .cons h1 h2, h => .cons h1 (dpa_app h2 h)
theorem dpa_one {v : V} {d : PyData} (h : Dp K H v d) : DpAll K H [v] [d] := .cons h .nil
theorem dpa_drop : ∀ {vs : List V} {ds : List PyData} (n : Nat), DpAll K H vs ds → DpAll K H (vs.drop n) (ds.drop n)
  | _, _, 0, h => h
  | _, _, n + 1, .nil => .nil
  | _, _, n + 1, .cons _ h2 => dpa_drop n h2
theorem dpa_take : ∀ {vs : List V} {ds : List PyData} (n : Nat), DpAll K H vs ds → DpAll K H (vs.take n) (ds.take n)
  | _, _, 0, _ => .nil
  | _, _, n + 1, .nil => .nil
  | _, _, n + 1, .cons h1 h2 => .cons h1 (dpa_take n h2)
theorem dpa_ints : ∀ (ns : List Int), DpAll K H (ns.map V.int) (ns.map PyData.int)
  | [] => .nil
  | n :: r => .cons (.int n) (dpa_ints r)
end

/-! ### data that == reads to its end: no dict, so deep at most -/
mutual
theorem eqv_self : ∀ d : PyData, d.canLay0 = true → PyData.eqv d d = true
  | .none, _ => by simp [PyData.eqv]
  | .bool b, _ => by simp [PyData.eqv]
  | .int i, _ => by simp [PyData.eqv]
  | .str x, _ => by simp [PyData.eqv]
  | .list ds, h => by
    show PyData.eqvAll ds ds = true
    exact eqvAll_self ds (by simpa [PyData.canLay0] using h)
  | .tuple ds, h => by
    show PyData.eqvAll ds ds = true
    exact eqvAll_self ds (by simpa [PyData.canLay0] using h)
  | .dict _, h => by simp [PyData.canLay0] at h
theorem eqvAll_self : ∀ ds : List PyData, PyData.canLayAll0 ds = true → PyData.eqvAll ds ds = true
  | [], _ => by simp [PyData.eqvAll]
  | d :: ds, h => by
    have h' : d.canLay0 = true ∧ PyData.canLayAll0 ds = true := by simpa [PyData.canLayAll0] using h
    simp [PyData.eqvAll, eqv_self d h'.1, eqvAll_self ds h'.2]
end
/-- no dict within, no text out of range, at most n deep -/
def Sd (n : Nat) (d : PyData) : Prop := d.canLay0 = true ∧ d.depth ≤ n
def Sds (n : Nat) (ds : List PyData) : Prop := ∀ d ∈ ds, Sd n d
theorem sds_lay : ∀ {n : Nat} {ds : List PyData}, Sds n ds → PyData.canLayAll0 ds = true ∧ PyData.depthAll ds ≤ n
  | _, [], _ => ⟨by simp [PyData.canLayAll0], by simp [PyData.depthAll]⟩
  | n, d :: ds, h => by
    have h1 := h d List.mem_cons_self
    have h2 := sds_lay (fun e he => h e (List.mem_cons_of_mem _ he))
    exact ⟨by simp [PyData.canLayAll0, h1.1, h2.1], by have := h1.2; have := h2.2; simp only [PyData.depthAll]; omega⟩
theorem sd_tuple {n : Nat} {ds : List PyData} (h : Sds n ds) : Sd (n + 1) (.tuple ds) := ⟨by simp [PyData.canLay0, (sds_lay h).1], by have := (sds_lay h).2; simp only [PyData.depth]; omega⟩
theorem sd_list {n : Nat} {ds : List PyData} (h : Sds n ds) : Sd (n + 1) (.list ds) := ⟨by simp [PyData.canLay0, (sds_lay h).1], by have := (sds_lay h).2; simp only [PyData.depth]; omega⟩
theorem sd_int {n : Nat} {i : Int} : Sd n (.int i) := ⟨by simp [PyData.canLay0], by simp [PyData.depth]⟩
theorem sd_bool {n : Nat} {b : Bool} : Sd n (.bool b) := ⟨by simp [PyData.canLay0], by simp [PyData.depth]⟩
theorem sd_none {n : Nat} : Sd n .none := ⟨by simp [PyData.canLay0], by simp [PyData.depth]⟩
theorem sd_str {n : Nat} {x : Str} (h : PyData.strOk x = true) : Sd n (.str x) := ⟨by simp [PyData.canLay0, h], by simp [PyData.depth]⟩
theorem Sd.up {n m : Nat} {d : PyData} (h : Sd n d) (l : n ≤ m) : Sd m d := ⟨h.1, Nat.le_trans h.2 l⟩
theorem sds_nil {n : Nat} : Sds n [] := fun _ h => nomatch h
theorem sds_cons {n : Nat} {d : PyData} {ds : List PyData} (h : Sd n d) (hs : Sds n ds) : Sds n (d :: ds) := fun e he => by
  rcases List.mem_cons.mp he with q | q
  · rw [q]; exact h
  · exact hs e q
theorem sds_app {n : Nat} {ds es : List PyData} (h : Sds n ds) (hs : Sds n es) : Sds n (ds ++ es) := fun e he => by
  rcases List.mem_append.mp he with q | q
  · exact h e q
  · exact hs e q
theorem Sds.drop {n : Nat} {ds : List PyData} (h : Sds n ds) (k : Nat) : Sds n (ds.drop k) := fun e he => h e (List.mem_of_mem_drop he)
theorem Sds.take {n : Nat} {ds : List PyData} (h : Sds n ds) (k : Nat) : Sds n (ds.take k) := fun e he => h e (List.mem_of_mem_take he)
theorem Sd.shaped {d : PyData} {n : Nat} (h : Sd n d) (l : n ≤ 64) : SeqAt.shaped d = true := by
  unfold SeqAt.shaped
  rw [h.1, decide_eq_true (Nat.le_trans h.2 l)]
  rfl
theorem Sd.self {d : PyData} {n : Nat} (h : Sd n d) : PyData.eqv d d = true := eqv_self d h.1

/-! ### the part of a heap that a base and what is new since a point make -/
def ov (H H1 H2 : Hp) : Hp := fun a => match H a with
  | some o => some o
  | none => match H1 a with
    | some _ => none
    | none => H2 a
theorem ov_ex {H H1 H2 : Hp} (e : Ex H H1) (e2 : Ex H1 H2) : Ex (ov H H1 H2) H2 := fun a o h => by
  unfold ov at h
  cases h0 : H a with
  | some o' =>
    rw [h0] at h
    rw [← h]
    exact e2 a o' (e a o' h0)
  | none =>
    rw [h0] at h
    cases h1 : H1 a with
    | some o' => rw [h1] at h; cases h
    | none => rw [h1] at h; exact h
theorem ov_base {H H1 H2 : Hp} : Ex H (ov H H1 H2) := fun a o h => by
  unfold ov
  rw [h]
theorem ov_none {H H1 H2 : Hp} {a : Addr} {o : HO} (h : H a = none) (h1 : H1 a = some o) : ov H H1 H2 a = none := by
  unfold ov
  rw [h, h1]
theorem ov_grow {H H1 H2 H3 : Hp} (e2 : Ex H2 H3) : Ex (ov H H1 H2) (ov H H1 H3) := fun a o h => by
  unfold ov at h ⊢
  cases h0 : H a with
  | some o' => rw [h0] at h; exact h
  | none =>
    rw [h0] at h
    cases h1 : H1 a with
    | some o' => rw [h1] at h; cases h
    | none =>
      rw [h1] at h
      exact e2 a o h
theorem ov_later {H H1 H2 H3 : Hp} (e1 : Ex H1 H2) : Ex (ov H H2 H3) (ov H H1 H3) := fun a o h => by
  unfold ov at h ⊢
  cases h0 : H a with
  | some o' => rw [h0] at h; exact h
  | none =>
    rw [h0] at h
    cases h2 : H2 a with
    | some o' => rw [h2] at h; cases h
    | none =>
      rw [h2] at h
      have h1 : H1 a = none := fresh_back e1 h2
      rw [h1]
      exact h
theorem ov_new {H H1 H2 : Hp} {p : Addr} (e : Ex H H1) (e2 : Ex H1 H2) (hp : H2 p = none) {u : HO} : ov H H1 (upd H2 p u) p = some u := by
  have h1 : H1 p = none := fresh_back e2 hp
  have h0 : H p = none := fresh_back e h1
  unfold ov
  rw [h0, h1]
  exact upd_same

/-! ### what evaluates to data -/
def EvD (K : PySem.W.Frag) (te : TE) (σ : L2.St) (H : Hp) (d : PyData) : Prop := ∀ H1, Ex H H1 → ∀ Q : VK, (∀ v H2, Ex H1 H2 → Dp K (ov H H1 H2) v d → Q v H2) → te σ H1 Q
def EvDs (K : PySem.W.Frag) (ta : TA) (σ : L2.St) (H : Hp) (ds : List PyData) : Prop := ∀ H1, Ex H H1 → ∀ Q : List V → Hp → Prop, (∀ vs H2, Ex H1 H2 → DpAll K (ov H H1 H2) vs ds → Q vs H2) → ta σ H1 Q
/-- a new list of data -/
def EvN (K : PySem.W.Frag) (te : TE) (σ : L2.St) (H : Hp) (ds : List PyData) : Prop := ∀ H1, Ex H H1 → ∀ Q : VK, (∀ p xs H2, H1 p = none → Ex H1 H2 → H2 p = some (.lst xs) → DpAll K (ov H H1 H2) xs ds → Q (.ref p) H2) → te σ H1 Q
section
variable {K : PySem.W.Frag} {σ : L2.St} {H H' : Hp} {ta tb tc te : TE} {t u : TT} {x y z v w : V} {d e : PyData} {ds es : List PyData} {r : R2}
theorem ed_of (h : Ev te σ H v) (hd : Dp K H v d) : EvD K te σ H d := fun H1 e Q q => h H1 e Q fun H2 e2 => q v H2 e2 (dp_mono ov_base d v hd)
theorem ed_var {i : Nat} (h : σ[i]? = some (some v)) (hd : Dp K H v d) : EvD K (tVar i) σ H d := ed_of (ev_var h) hd
theorem ed_int {i : Int} (h : Ev te σ H (.int i)) : EvD K te σ H (.int i) := ed_of h (.int i)
theorem ed_str {s : Str} : EvD K (tC (.str s)) σ H (.str s) := ed_of ev_c (.str s)
theorem ed_bool {b : Bool} (h : Ev te σ H (.bl b)) : EvD K te σ H (.bool b) := ed_of h (.bl b)
theorem ed_non : EvD K (tC .non) σ H .none := ed_of ev_c .non
theorem ed_is (h : EvD K te σ H d) (q : d = e) : EvD K te σ H e := q ▸ h
theorem EvD.mono (e : Ex H H') (h : EvD K te σ H d) : EvD K te σ H' d := fun H1 a Q q => h H1 (e.trans a) Q fun v H2 e2 hd => q v H2 e2 (dp_mono (fun b o hb => by
  unfold ov at hb ⊢
  cases h0 : H b with
  | some o' => rw [h0] at hb; rw [e b o' h0]; exact hb
  | none =>
    rw [h0] at hb
    cases h1 : H1 b with
    | some o' => rw [h1] at hb; cases hb
    | none =>
      rw [h1] at hb
      rw [fresh_back a h1]
      exact hb) d v hd)
theorem eds_nil : EvDs K tNil σ H [] := fun H1 _ _ q => q [] H1 (Ex.refl H1) .nil
theorem eds_cons {tr : TA} (h : EvD K te σ H d) (hr : EvDs K tr σ H ds) : EvDs K (tCons te tr) σ H (d :: ds) := fun H1 e Q q =>
  h H1 e _ fun v H2 e2 hv => hr H2 (e.trans e2) _ fun vs H3 e3 hs => q _ H3 (e2.trans e3) (.cons (dp_mono (ov_grow e3) d v hv) (dpa_mono (ov_later e2) ds vs hs))
theorem ed_tup {ta : TA} (h : EvDs K ta σ H ds) (hl : ds.length ≤ 100000) : EvD K (tTup ta) σ H (.tuple ds) := fun H1 e Q q =>
  h H1 e _ fun vs H2 e2 hs => ⟨by rw [dpa_len hs]; exact sz_of hl, fun p hp => q _ _ (e2.trans (Ex.new hp)) (.tup (st_of (ov_new e e2 hp)) (dpa_mono (ov_grow (Ex.new hp)) ds vs hs))⟩
theorem en_lst {ta : TA} (h : EvDs K ta σ H ds) (hl : ds.length ≤ 100000) : EvN K (tLst ta) σ H ds := fun H1 e Q q =>
  h H1 e _ fun vs H2 e2 hs => ⟨by rw [dpa_len hs]; exact sz_of hl, fun p hp => q p vs _ (fresh_back e2 hp) (e2.trans (Ex.new hp)) upd_same (dpa_mono (ov_grow (Ex.new hp)) ds vs hs)⟩
theorem ed_new (h : EvN K te σ H ds) : EvD K te σ H (.list ds) := fun H1 e Q q => h H1 e _ fun p xs H2 np e2 hp hs => q _ H2 e2 (.lst (sq_of (by
  have h1 := fresh_back e np
  unfold ov
  rw [h1, np]
  exact hp)) hs)
theorem atI_len {α β : Type} {xs : List α} {ys : List β} (h : xs.length = ys.length) {i : Int} {y : β} (hy : atI ys i = some y) : ∃ j : Nat, ys[j]? = some y ∧ ∀ x, xs[j]? = some x → atI xs i = some x := by
  unfold atI at hy ⊢
  cases e : ixN ys.length i with
  | none => rw [e] at hy; cases hy
  | some j =>
    rw [e] at hy
    refine ⟨j, hy, fun x hx => ?_⟩
    rw [h, e]
    exact hx
theorem ed_ixT {i : Int} (ha : EvD K ta σ H (.tuple ds)) (hb : Ev tb σ H (.int i)) (h : atI ds i = some d) : EvD K (tOp (rIxT K) ta tb) σ H d := fun H1 e Q q =>
  ha H1 e _ fun v H2 e2 hv => hb H2 (e.trans e2) _ fun H3 e3 => by
    cases hv with
    | tup hs hd =>
      obtain ⟨j, hj, hx⟩ := atI_len (dpa_len hd) h
      obtain ⟨x, ex, dx⟩ := dpa_at hd hj
      exact ⟨_, _, i, x, rfl, rfl, ex_t ((ov_ex e e2).trans e3) hs, hx x ex, q x H3 (e2.trans e3) (dp_mono (ov_grow e3) d x dx)⟩
theorem ed_ixL {i : Int} (ha : EvD K ta σ H (.list ds)) (hb : Ev tb σ H (.int i)) (h : atI ds i = some d) : EvD K (tOp (rIxL K) ta tb) σ H d := fun H1 e Q q =>
  ha H1 e _ fun v H2 e2 hv => hb H2 (e.trans e2) _ fun H3 e3 => by
    cases hv with
    | lst hs hd =>
      obtain ⟨j, hj, hx⟩ := atI_len (dpa_len hd) h
      obtain ⟨x, ex, dx⟩ := dpa_at hd hj
      exact ⟨_, _, i, x, rfl, rfl, ex_l ((ov_ex e e2).trans e3) hs, hx x ex, q x H3 (e2.trans e3) (dp_mono (ov_grow e3) d x dx)⟩
/-- the same part of two lists of one length -/
def cutA {α : Type} (xs : List α) (lo hi : Option Int) : List α := (xs.drop (HT.sIx xs.length 0 lo)).take (HT.sIx xs.length xs.length hi - HT.sIx xs.length 0 lo)
theorem dpa_cut {vs : List V} {lo hi : Option Int} (h : DpAll K H vs ds) : DpAll K H (cutV vs lo hi) (cutA ds lo hi) := by
  unfold cutV cutA
  rw [dpa_len h]
  exact dpa_take _ (dpa_drop _ h)
theorem ed_slT {tl th : TO} {lo hi : Option Int} (h : EvD K te σ H (.tuple ds)) (h1 : EvO tl σ H lo) (h2 : EvO th σ H hi) : EvD K (tSl (rSlA K) te tl th) σ H (.tuple (cutA ds lo hi)) := fun H1 e Q q =>
  h H1 e _ fun v H2 e2 hv => h1 H2 (e.trans e2) _ fun H3 e3 => h2 H3 ((e.trans e2).trans e3) _ fun H4 e4 => by
    have e24 := e2.trans (e3.trans e4)
    cases hv with
    | @tup a xs _ hs hd =>
      refine ⟨a, xs, rfl, ex_t ((ov_ex e e2).trans (e3.trans e4)) hs, fun hw => q _ H4 e24 (.tup (ex_t (ov_grow (e3.trans e4)) hs) ?_), fun _ p hp => q _ _ (e24.trans (Ex.new hp)) (.tup (st_of (ov_new e e24 hp)) (dpa_cut (dpa_mono (ov_grow ((e3.trans e4).trans (Ex.new hp))) ds xs hd)))⟩
      have ec : cutA ds lo hi = ds := by
        unfold cutA
        rw [← dpa_len hd, hw.1, hw.2, List.drop_zero, Nat.sub_zero, dpa_len hd, List.take_length]
      rw [ec]
      exact dpa_mono (ov_grow (e3.trans e4)) ds xs hd
theorem en_slL {tl th : TO} {lo hi : Option Int} (h : EvD K te σ H (.list ds)) (h1 : EvO tl σ H lo) (h2 : EvO th σ H hi) : EvN K (tSl (rSlL K) te tl th) σ H (cutA ds lo hi) := fun H1 e Q q =>
  h H1 e _ fun v H2 e2 hv => h1 H2 (e.trans e2) _ fun H3 e3 => h2 H3 ((e.trans e2).trans e3) _ fun H4 e4 => by
    have e24 := e2.trans (e3.trans e4)
    cases hv with
    | @lst a xs _ hs hd =>
      exact ⟨a, xs, rfl, ex_l ((ov_ex e e2).trans (e3.trans e4)) hs, fun p hp => q p _ _ (fresh_back e24 hp) (e24.trans (Ex.new hp)) upd_same (dpa_cut (dpa_mono (ov_grow ((e3.trans e4).trans (Ex.new hp))) ds xs hd))⟩
theorem ed_catT (ha : EvD K ta σ H (.tuple ds)) (hb : EvD K tb σ H (.tuple es)) (hl : ds.length + es.length ≤ 100000) : EvD K (tOp (rCatA K) ta tb) σ H (.tuple (ds ++ es)) := fun H1 e Q q =>
  ha H1 e _ fun v H2 e2 hv => hb H2 (e.trans e2) _ fun w H3 e3 hw => by
    have e13 := e2.trans e3
    cases hv with
    | @tup a xs _ hs hd =>
      cases hw with
      | @tup b ys _ ht he =>
        have hs3 := ex_t ((ov_ex e e2).trans e3) hs
        have ht3 := ex_t (ov_ex (e.trans e2) e3) ht
        have hd3 := dpa_mono (ov_grow e3) ds xs hd
        have he3 := dpa_mono (ov_later e2) es ys he
        have ld := dpa_len hd
        have le := dpa_len he
        refine ⟨a, b, xs, ys, rfl, rfl, hs3, ht3, sz_of (by omega), fun h0 => ?_, fun _ h0 => ?_, fun _ _ p hp => q _ _ (e13.trans (Ex.new hp)) (.tup (st_of (ov_new e e13 hp)) (dpa_app (dpa_mono (ov_grow (Ex.new hp)) ds xs hd3) (dpa_mono (ov_grow (Ex.new hp)) es ys he3)))⟩
        · have z : ds = [] := List.eq_nil_of_length_eq_zero (by rw [← ld, h0]; rfl)
          subst z
          exact q _ _ e13 (.tup (ex_t (ov_later e2) ht) he3)
        · have z : es = [] := List.eq_nil_of_length_eq_zero (by rw [← le, h0]; rfl)
          subst z
          exact q _ _ e13 (.tup (ex_t (ov_grow e3) hs) (by rw [List.append_nil]; exact hd3))
theorem en_cat (ha : EvN K ta σ H ds) (hb : EvN K tb σ H es) (hl : ds.length + es.length ≤ 100000) : EvN K (tOp rCat ta tb) σ H (ds ++ es) := fun H1 e Q q =>
  ha H1 e _ fun p xs H2 np e2 hp hs => hb H2 (e.trans e2) _ fun p' ys H3 np' e3 hp' ht =>
    ⟨p, p', xs, ys, rfl, rfl, e3 _ _ hp, hp', by rw [dpa_len hs, dpa_len ht]; exact sz_of hl, fun o ho => q o _ _ (fresh_back (e2.trans e3) ho) ((e2.trans e3).trans (Ex.new ho)) upd_same
      (dpa_app (dpa_mono (ov_grow (e3.trans (Ex.new ho))) ds xs hs) (dpa_mono ((ov_later e2).trans (ov_grow (Ex.new ho))) es ys ht))⟩
/-- a list that stands in the base, by its items -/
theorem en_tup {a : Addr} {xs : List V} (ha : Ev ta σ H (.ref a)) (hs : SqL K H a xs) (hd : DpAll K H xs ds) : EvD K (tThen ta (kTup K)) σ H (.tuple ds) := fun H1 e Q q =>
  ha H1 e _ fun H2 e2 => .inl ⟨a, xs, rfl, ex_l (e.trans e2) hs, fun p hp => q _ _ (e2.trans (Ex.new hp)) (.tup (st_of (ov_new e e2 hp)) (dpa_mono ov_base ds xs hd))⟩
theorem ed_tupOf (ha : EvD K ta σ H (.list ds)) : EvD K (tThen ta (kTup K)) σ H (.tuple ds) := fun H1 e Q q =>
  ha H1 e _ fun v H2 e2 hv => by
    cases hv with
    | @lst a xs _ hs hd => exact .inl ⟨a, xs, rfl, ex_l (ov_ex e e2) hs, fun p hp => q _ _ (e2.trans (Ex.new hp)) (.tup (st_of (ov_new e e2 hp)) (dpa_mono (ov_grow (Ex.new hp)) ds xs hd))⟩
theorem ev_eqD {n m : Nat} (ha : EvD K ta σ H d) (hb : EvD K tb σ H e) (sd : Sd n d) (se : Sd m e) (hn : n ≤ 64) (hm : m ≤ 64) : Ev (tOp (rEqD K) ta tb) σ H (.bl (PyData.eqv d e)) := fun H1 a Q q =>
  ha H1 a _ fun v H2 e2 hv => hb H2 (a.trans e2) _ fun w H3 e3 hw => ⟨d, e, dp_mono ((ov_ex a e2).trans e3) d v hv, dp_mono (ov_ex (a.trans e2) e3) e w hw, sd.shaped hn, se.shaped hm, q H3 (e2.trans e3)⟩
theorem ev_neD {n m : Nat} (ha : EvD K ta σ H d) (hb : EvD K tb σ H e) (sd : Sd n d) (se : Sd m e) (hn : n ≤ 64) (hm : m ≤ 64) : Ev (tOp (rNeD K) ta tb) σ H (.bl (!PyData.eqv d e)) := fun H1 a Q q =>
  ha H1 a _ fun v H2 e2 hv => hb H2 (a.trans e2) _ fun w H3 e3 hw => ⟨d, e, dp_mono ((ov_ex a e2).trans e3) d v hv, dp_mono (ov_ex (a.trans e2) e3) e w hw, sd.shaped hn, se.shaped hm, q H3 (e2.trans e3)⟩
/-- the two sides are one: != is False -/
theorem ev_neSelf {n : Nat} (ha : EvD K ta σ H d) (hb : EvD K tb σ H d) (sd : Sd n d) (hn : n ≤ 64) : Ev (tOp (rNeD K) ta tb) σ H (.bl false) := ev_is (ev_neD ha hb sd sd hn hn) (by rw [sd.self]; rfl)
theorem ev_eqSelf {n : Nat} (ha : EvD K ta σ H d) (hb : EvD K tb σ H d) (sd : Sd n d) (hn : n ≤ 64) : Ev (tOp (rEqD K) ta tb) σ H (.bl true) := ev_is (ev_eqD ha hb sd sd hn hn) (by rw [sd.self])
theorem ev_lenD (ha : EvD K ta σ H (.list ds)) : Ev (tCB (fun xs H Q => ∃ p ys, xs = [.ref p] ∧ (SqL K H p ys ∨ SqT K H p ys) ∧ Q (.int ys.length) H) (tCons ta tNil)) σ H (.int (ds.length : Int)) := fun H1 e Q q =>
  ha H1 e _ fun v H2 e2 hv => by
    cases hv with
    | @lst a xs _ hs hd => exact ⟨a, xs, rfl, .inl (ex_l (ov_ex e e2) hs), by rw [dpa_len hd]; exact q H2 e2⟩
theorem ev_lenDT (ha : EvD K ta σ H (.tuple ds)) : Ev (tCB (fun xs H Q => ∃ p ys, xs = [.ref p] ∧ (SqL K H p ys ∨ SqT K H p ys) ∧ Q (.int ys.length) H) (tCons ta tNil)) σ H (.int (ds.length : Int)) := fun H1 e Q q =>
  ha H1 e _ fun v H2 e2 hv => by
    cases hv with
    | @tup a xs _ hs hd => exact ⟨a, xs, rfl, .inr (ex_t (ov_ex e e2) hs), by rw [dpa_len hd]; exact q H2 e2⟩
theorem ed_if {b : Bool} (h : EvT t σ H b) (h1 : b = true → EvD K ta σ H d) (h2 : b = false → EvD K tb σ H d) : EvD K (tIf t ta tb) σ H d := fun H1 e Q q => h H1 e _ fun H2 e2 => by
  cases b with
  | true =>
    show ta σ H2 Q
    exact h1 rfl H2 (e.trans e2) Q fun v H3 e3 hv => q v H3 (e2.trans e3) (dp_mono (ov_later e2) d v hv)
  | false =>
    show tb σ H2 Q
    exact h2 rfl H2 (e.trans e2) Q fun v H3 e3 hv => q v H3 (e2.trans e3) (dp_mono (ov_later e2) d v hv)
/-- a promise that gives data, over a base that the caller names -/
def RetD (K : PySem.W.Frag) (B : Hp) (d : PyData) (H : Hp) (Q : VK) : Prop := ∀ v H2, Ex H H2 → Dp K (ov B H H2) v d → Q v H2
theorem ov_ov {B H H1 H2 : Hp} (e : Ex B H) (e1 : Ex H H1) (e2 : Ex H1 H2) : Ex (ov (ov B H H1) H1 H2) (ov B H H2) := fun a o h => by
  unfold ov at h ⊢
  cases h0 : B a with
  | some o' =>
    rw [h0] at h
    exact h
  | none =>
    rw [h0] at h
    cases h1 : H a with
    | some o' =>
      rw [h1, e1 a o' h1] at h
      cases h
    | none =>
      rw [h1] at h
      cases h3 : H1 a with
      | some o' =>
        rw [h3] at h
        rw [← h]
        exact e2 a o' h3
      | none =>
        rw [h3] at h
        exact h
def SpD (K : PySem.W.Frag) (sp : Sp) (vs : List V) (H : Hp) (d : PyData) : Prop := ∀ H1, Ex H H1 → ∀ Q : VK, (∀ v H2, Ex H1 H2 → Dp K (ov H H1 H2) v d → Q v H2) → ∀ E : XK, sp vs H1 Q E
theorem ed_call {sp : Sp} {dvs vs : List V} {E : XK} {ta : TA} (h : EvA ta σ H vs) (hs : SpD K sp (vs ++ dvs) H d) : EvD K (tCall sp dvs E ta) σ H d := fun H1 e Q q =>
  h H1 e _ fun H2 e2 => hs H2 (e.trans e2) Q (fun v H3 e3 hv => q v H3 (e2.trans e3) (dp_mono (ov_later e2) d v hv)) E
/-! ### statements -/
variable {D : Ends} {tz : TS} {i : Nat}
theorem dp_all {H2 : Hp} {v : V} {d : PyData} (e : Ex H H2) (h : Dp K (ov H H H2) v d) : Dp K H2 v d := dp_mono (ov_ex (Ex.refl H) e) d v h
theorem q_asgD (h : EvD K te σ H d) (k : ∀ v H1, Ex H H1 → Dp K H1 v d → tz D (σ.set i (some v)) H1) : tSeq (tAsg te (gName i)) tz D σ H := h H (Ex.refl H) _ fun v H1 e hv => k v H1 e (dp_mono (ov_ex (Ex.refl H) e) d v hv)
theorem s_asgD (h : EvD K te σ H d) (k : ∀ v H1, Ex H H1 → Dp K H1 v d → D.nx (σ.set i (some v)) H1) : tAsg te (gName i) D σ H := h H (Ex.refl H) _ fun v H1 e hv => k v H1 e (dp_mono (ov_ex (Ex.refl H) e) d v hv)
theorem q_asgN (h : EvN K te σ H ds) (k : ∀ p xs H1, H p = none → Ex H H1 → H1 p = some (.lst xs) → DpAll K H1 xs ds → tz D (σ.set i (some (.ref p))) H1) : tSeq (tAsg te (gName i)) tz D σ H :=
  h H (Ex.refl H) _ fun p xs H1 np e hp hs => k p xs H1 np e hp (dpa_mono (ov_ex (Ex.refl H) e) ds xs hs)
theorem q_asgDB {B : Hp} (eB : Ex B H) (h : EvD K te σ B d) (k : ∀ v H1, Ex H H1 → Dp K (ov B H H1) v d → tz D (σ.set i (some v)) H1) : tSeq (tAsg te (gName i)) tz D σ H := h H eB _ fun v H1 e hv => k v H1 e hv
theorem s_retDB {B : Hp} (eB : Ex B H) (h : EvD K te σ B d) (k : ∀ v H1, Ex H H1 → Dp K (ov B H H1) v d → D.rt v H1) : tRet te D σ H := h H eB _ k
theorem s_retD (h : EvD K te σ H d) (k : ∀ v H1, Ex H H1 → Dp K (ov H H H1) v d → D.rt v H1) : tRet te D σ H := h H (Ex.refl H) _ k
/-! ### a comprehension over a range, its items data -/
def givenD (n : Nat) (f : Nat → Bool) (g : Nat → PyData) : List PyData := ((List.range n).filter f).map g
theorem givenD_yes {n : Nat} {f : Nat → Bool} {g : Nat → PyData} (h : f n = true) : givenD (n + 1) f g = givenD n f g ++ [g n] := by
  unfold givenD
  rw [List.range_succ, List.filter_append, List.map_append, List.filter_cons, if_pos h]
  all_goals rfl
theorem givenD_no {n : Nat} {f : Nat → Bool} {g : Nat → PyData} (h : f n = false) : givenD (n + 1) f g = givenD n f g := by
  unfold givenD
  rw [List.range_succ, List.filter_append, List.map_append, List.filter_cons, if_neg (by rw [h]; decide)]
  show _ ++ [] = _
  rw [List.append_nil]
theorem givenD_len (n : Nat) (f : Nat → Bool) (g : Nat → PyData) : (givenD n f g).length ≤ n := by
  unfold givenD
  rw [List.length_map]
  have h := List.length_filter_le f (List.range n)
  rw [List.length_range] at h
  exact h
/-- the word of a comprehension over the base B, begun at H1: the items lean on the base and on what is new, not on the list itself -/
def CwD (K : PySem.W.Frag) (B H1 : Hp) (f : Nat → Bool) (g : Nat → PyData) (Dl : Addr) (i : Nat) (H' : Hp) : Prop := Ex B H' ∧ Ex H1 H' ∧ ∃ acc, H' Dl = some (.lst acc) ∧ DpAll K (ov B (upd H1 Dl (.lst [])) H') acc (givenD i f g)
theorem cwD_turn {B H1 H' : Hp} {f : Nat → Bool} {g : Nat → PyData} {Dl : Addr} {i : Nat} {σ2 : L2.St} (b1 : Ex B H1) (nD : H1 Dl = none) (p : CwD K B H1 f g Dl i H') (hi : i < 50000) (ht : EvT t σ2 B (f i)) (he : f i = true → EvD K te σ2 B (g i)) :
    t σ2 H' fun b H3 => if b = true then te σ2 H3 fun y H4 => ∃ acc, H4 Dl = some (.lst acc) ∧ acc.length < sizeLine ∧ CwD K B H1 f g Dl (i + 1) (upd H4 Dl (.lst (acc ++ [y]))) else CwD K B H1 f g Dl (i + 1) H3 := by
  obtain ⟨p1, p2, acc, p3, p4⟩ := p
  have nB : B Dl = none := fresh_back b1 nD
  refine ht H' p1 _ fun H3 e3 => ?_
  cases hf : f i with
  | true =>
    show te σ2 H3 fun y H4 => ∃ acc, H4 Dl = some (.lst acc) ∧ acc.length < sizeLine ∧ CwD K B H1 f g Dl (i + 1) (upd H4 Dl (.lst (acc ++ [y])))
    refine he hf H3 (p1.trans e3) _ fun y H4 e4 hy => ⟨acc, e4 Dl _ (e3 Dl _ p3), sz_lt (by rw [dpa_len p4]; have := givenD_len i f g; omega), Ex.mut ((p1.trans e3).trans e4) nB, Ex.mut ((p2.trans e3).trans e4) nD, _, upd_same, ?_⟩
    have k1 : Ex (ov B H3 H4) (ov B (upd H1 Dl (.lst [])) (upd H4 Dl (.lst (acc ++ [y])))) := fun a o ha => by
      unfold ov at ha ⊢
      cases h0 : B a with
      | some o' => rw [h0] at ha; exact ha
      | none =>
        rw [h0] at ha
        cases h3 : H3 a with
        | some o' => rw [h3] at ha; cases ha
        | none =>
          rw [h3] at ha
          have ne : a ≠ Dl := fun e => by
            rw [e, e3 Dl _ p3] at h3
            cases h3
          rw [upd_ne ne, fresh_back (p2.trans e3) h3]
          show upd H4 Dl _ a = some o
          rw [upd_ne ne]
          exact ha
    have k2 : Ex (ov B (upd H1 Dl (.lst [])) H') (ov B (upd H1 Dl (.lst [])) (upd H4 Dl (.lst (acc ++ [y])))) := fun a o ha => by
      unfold ov at ha ⊢
      cases h0 : B a with
      | some o' => rw [h0] at ha; exact ha
      | none =>
        rw [h0] at ha
        by_cases ne : a = Dl
        · rw [ne, upd_same] at ha
          cases ha
        · rw [upd_ne ne] at ha ⊢
          cases h1 : H1 a with
          | some o' => rw [h1] at ha; cases ha
          | none =>
            rw [h1] at ha
            show upd H4 Dl _ a = some o
            rw [upd_ne ne]
            exact e4 a o (e3 a o ha)
    rw [givenD_yes hf]
    exact dpa_app (dpa_mono k2 _ _ p4) (dpa_one (dp_mono k1 _ _ hy))
  | false =>
    show CwD K B H1 f g Dl (i + 1) H3
    refine ⟨p1.trans e3, p2.trans e3, acc, e3 Dl _ p3, ?_⟩
    rw [givenD_no hf]
    exact dpa_mono (ov_grow e3) _ _ p4
theorem cwD_start {B H1 : Hp} {f : Nat → Bool} {g : Nat → PyData} {Dl : Addr} (b1 : Ex B H1) (nD : H1 Dl = none) : CwD K B H1 f g Dl 0 (upd H1 Dl (.lst [])) := ⟨b1.trans (Ex.new nD), Ex.new nD, [], upd_same, .nil⟩
theorem cwD_end {B H1 H' : Hp} {f : Nat → Bool} {g : Nat → PyData} {Dl : Addr} {n : Nat} (p : CwD K B H1 f g Dl n H') : ∃ acc, H' Dl = some (.lst acc) ∧ DpAll K (ov B H1 H') acc (givenD n f g) := by
  obtain ⟨_, _, acc, p3, p4⟩ := p
  refine ⟨acc, p3, dpa_mono (fun a o ha => ?_) _ _ p4⟩
  unfold ov at ha ⊢
  cases h0 : B a with
  | some o' => rw [h0] at ha; exact ha
  | none =>
    rw [h0] at ha
    by_cases ne : a = Dl
    · rw [ne, upd_same] at ha
      cases ha
    · rw [upd_ne ne] at ha
      exact ha
theorem en_lcR1 {ta : TA} {j : Nat} {vs : List Nat} {n : Int} (f : Nat → Bool) (g : Nat → PyData) (h : EvA ta σ H [.int n]) (hn : 0 ≤ n ∧ n ≤ 40000) (hw : ∀ x, wipe ((wipe σ vs).set j (some x)) vs = wipe σ vs)
    (ht : ∀ i : Nat, (i : Int) < n → EvT t ((wipe σ vs).set j (some (.int (i : Int)))) H (f i)) (he : ∀ i : Nat, (i : Int) < n → f i = true → EvD K te ((wipe σ vs).set j (some (.int (i : Int)))) H (g i)) :
    EvN K (tLc (iRng1 ta) (gName j) t te vs) σ H (givenD n.toNat f g) := fun H0 e Q q => h H0 e _ fun H1 e1 => ⟨n, rfl, by omega, by omega, fun Dl hD =>
  lc_range (lo := 0) (n := n.toNat) (CwD K H H1 f g Dl) (cwD_start (e.trans e1) hD) (fun i H' hi p => by
    have e0 : (0 : Int) + (i : Int) = (i : Int) := Int.zero_add _
    show wipe ((wipe σ vs).set j (some (.int ((0 : Int) + (i : Int))))) vs = wipe σ vs ∧ t ((wipe σ vs).set j (some (.int ((0 : Int) + (i : Int))))) H' fun b H3 => if b = true then te ((wipe σ vs).set j (some (.int ((0 : Int) + (i : Int))))) H3 fun y H4 => ∃ acc, H4 Dl = some (.lst acc) ∧ acc.length < sizeLine ∧ CwD K H H1 f g Dl (i + 1) (upd H4 Dl (.lst (acc ++ [y]))) else CwD K H H1 f g Dl (i + 1) H3
    rw [e0]
    exact ⟨hw _, cwD_turn (e.trans e1) hD p (by omega) (ht i (by omega)) (fun hf => he i (by omega) hf)⟩) (fun H' p => by
      obtain ⟨acc, h1, h2⟩ := cwD_end p
      exact q Dl acc H' (fresh_back e1 hD) (e1.trans p.2.1) h1 (dpa_mono (ov_later e1) _ _ h2))⟩
theorem et_nil : EvT tYes σ H true := fun H1 _ _ q => q H1 (Ex.refl H1)
end
end Ap

set_option Elab.async false
set_option linter.all false
set_option maxRecDepth 100000
namespace Ap
open PySem PySem.Spec PyProof.Rows L2 Evl
/-! ### a method that may raise, called where the wish hangs on the slots -/
def tMX (C : Addr) (m : Str) (sp : Sp) (E : L2.St → XK) (ta : TE) (t : TA) : TE := fun σ H Q => ta σ H fun x G => ∃ a dx fs, x = .ref a ∧ G a = some (.ins C dx fs) ∧ fs.lookup m = none ∧ t σ G fun vs G2 => sp (x :: vs) G2 Q (E σ)
theorem pe_mx {X : Cx} {CX : CXT} {k : Nat} {f C : Addr} {fd : FuncData} {ps : List Str} {sp : Sp} {E : L2.St → XK} {m : Str} {pos apos : Pos} {e o : Expr} {es : List Expr} {ta : TE} {t : TA} {pl : Sem Bool}
    (he : PE X o ta) (c : Cls X.K C) (hm : Meth X.K C m f) (F : FnOk X.prog X.w X.K X.mg X.base CX k f fd ps sp) (hr : Room k X.A) (hb : Binds X.K fd ps []) (hx : ∀ σ, PassesAt CX X σ (E σ)) (ha : PA X (e :: es) t)
    (z1 : starEach (e :: es) X.env = (false, eval e X.env) :: starEach es X.env := by rfl) (z2 : (backTo pos (starEach es X.env)).any (·.1) = false := by rfl)
    (z3 : eval (.Call (.Attribute o m apos) (e :: es) [] pos) X.env = (do { let ov ← eval o X.env; standAt apos.atName; let (f, first) ← holding [ov] (getMethod ov m pl); callWith pos f first (backTo pos (starEach (e :: es) X.env)) (backToKw pos (keywordEach [] X.env)) }) := by rfl) :
    PE X (.Call (.Attribute o m apos) (e :: es) [] pos) (tMX C m sp E ta t) := ⟨fun pins s σ H Q I h => PySem.W.methodCall_KW (pl := pl) (thn (he.run pins s σ H _ I h) fun u s1 hh => by
  obtain ⟨x, G, J, rx, a, dx, fs, ex, ea, l, q⟩ := hh
  subst ex
  cases (show u = Value.ref a from rx)
  exact getmeth_ok J ea c hm l (PySem.W.callWith_K (first := [.ref a]) (h₀ := X.base) I.ok.mod.kin hm.kp (thn (ha.run pos pins s1 σ G _ J q) fun us s2 ⟨vs, G2, J2, r, q2⟩ => ⟨J2.kIn, run_fnS (us := .ref a :: us) (vs := .ref a :: vs) F hr hb (hx σ) J2 (.cons rfl r) q2⟩) z1 z2)) z3⟩
/-- a block under a proposition -/
theorem pss_guard {X : Cx} {b : List Stmt} {t : TS} {p : Prop} (h : p → PSs X b t) : PSs X b (fun D σ H => p ∧ t D σ H) := ⟨fun pins s σ H D I q => (h q.1).run pins s σ H D I q.2⟩
/-- try: .. except X as n: suite, the errors of the body of one own class without fields -/
theorem ps_try_own {X : Cx} {C : Addr} {x n : Str} {c : Value} {i : Nat} {body suite : List Stmt} {b₀ : Stmt} {np pos pos' : Pos} {tb : WX → TS} {ts : Addr → TS} {Wout : WX} (hs : X.stack = X.env :: X.outer) (hf : X.env.frame = some X.env.locals) (hN : X.N.Nodup) (hi : X.N[i]? = some n) (hln : X.env.kindOf n = some .local) (hc : Names X x c) (tk : Takes X Wout)
    (hb : ∀ (W : WX) (pn : List (Addr × Obj)) (xe : Value → Shared → Prop), Takes (X.tr pn xe) W → PSs (X.tr pn xe) body (tb W))
    (hsu : ∀ (a : Addr) (oe : Obj) (pn : List (Addr × Obj)), Zc (.ref C) none oe → (∃ vs, oe.data = .fields vs) → PSs (X.suite a ((a, oe) :: pn)) (b₀ :: suite) (ts a)) :
    PS X (.Try body [.ExceptHandler (some (.Name x np)) (some n) (b₀ :: suite) pos'] [] [] pos) (fun D σ H => tb (wAs X.K c i (fun a cls d D σ H => (cls = .ref C ∧ d = none) ∧ ts a D σ H) Wout D) D σ H) :=
  ps_try_as hs hf hN hi hln hc tk (fun W pn xe tk' _ => hb W pn xe tk') (fun a oe cls d pn hz hf => pss_guard fun h => by
    obtain ⟨h1, h2⟩ := h
    subst h1
    subst h2
    exact hsu a oe pn hz hf)
/-- the same without a name -/
theorem ps_try_ownN {X : Cx} {C : Addr} {x : Str} {c : Value} {body suite : List Stmt} {b₀ : Stmt} {np pos pos' : Pos} {tb : WX → TS} {ts : Addr → TS} {Wout : WX} (hs : X.stack = X.env :: X.outer) (hf : X.env.frame = some X.env.locals) (hc : Names X x c) (tk : Takes X Wout)
    (hb : ∀ (W : WX) (pn : List (Addr × Obj)) (xe : Value → Shared → Prop), Takes (X.tr pn xe) W → PSs (X.tr pn xe) body (tb W))
    (hsu : ∀ (a : Addr) (oe : Obj) (pn : List (Addr × Obj)), Zc (.ref C) none oe → (∃ vs, oe.data = .fields vs) → PSs (X.suite a ((a, oe) :: pn)) (b₀ :: suite) (ts a)) :
    PS X (.Try body [.ExceptHandler (some (.Name x np)) none (b₀ :: suite) pos'] [] [] pos) (fun D σ H => tb (wOnly X.K c (fun a cls d D σ H => (cls = .ref C ∧ d = none) ∧ ts a D σ H) Wout D) D σ H) :=
  ps_try_only hs hf hc tk (fun W pn xe tk' _ => hb W pn xe tk') (fun a oe cls d pn hz hf => pss_guard fun h => by
    obtain ⟨h1, h2⟩ := h
    subst h1
    subst h2
    exact hsu a oe pn hz hf)
/-- an own error class C over ValueError (through B), as the top left it -/
structure Err (K : PySem.W.Frag) (mg : Str → Option Value) (x : Str) (C B : Addr) : Prop where
  g : mg x = some (.ref C)
  kp : PySem.W.keepIn K (.ref C) = true
  ex : PySem.W.excIn K C [.type "ValueError", .type "Exception", .type "BaseException", .type "object"] "ValueError.__new__" = true
  bs : PySem.W.subIn K (.ref C) (.type "BaseException") = some true
  ty : PySem.W.typeIn K (.ref C) = some (.type "type")
  me : PySem.W.exmOne K (.ref C) (.ref C) = some true
  ec : ExcC K C
  k1 : PySem.W.kitOne K (.ref C) (.ref B) = some true
  k2 : PySem.W.kitOne K (.ref C) (.type "ValueError") = some true
theorem Err.mk' {X : Cx} {x m : Str} {C B : Addr} {j : Nat} {p p2 pos : Pos} (T : Err X.K X.mg x C B) (hg : Gl X x) (hdb : (x == ("__debug__" : Str)) = false := by decide) : PMk X (.Call (.Name x p) [.Constant (.str m) j p2] [] pos) (fun _ H Q => Q (.ref C) none H) :=
  pmk_own PySem.F.excBase_ValueError T.ex T.g T.kp (raises_own T.bs T.ty) hg hdb
/-- isinstance(e, T), e the error in hand -/
theorem ev_isE {K : PySem.W.Frag} {σ : L2.St} {H : Hp} {tx : TE} {D a : Addr} {i : Nat} {c : V} {cv : Value} {b : Bool} (h : σ[i]? = some (some (.ref a))) (hx : Ev tx σ H c) (hc : ∀ u, RelV c u → u = cv) (k : PySem.W.kitOne K (.ref D) cv = some b) : Ev (tCB (rIsE K D a) (tCons (tVar i) (tCons tx tNil))) σ H (.bl b) :=
  ev_cb (ea_cons (ev_var h) (ea_cons hx ea_nil)) fun H1 _ Q q => ⟨c, cv, b, rfl, hc, k, q H1 (Ex.refl H1)⟩
/-! ### slices and comprehensions of data -/
theorem cutA_from {α : Type} (xs : List α) (m : Nat) : cutA xs (some (m : Int)) none = xs.drop m := by
  unfold cutA
  rw [show HT.sIx xs.length 0 (some ((m : Nat) : Int)) = min m xs.length from HT.sIx_nat xs.length 0 m, HT.sIx_none]
  by_cases h : m ≤ xs.length
  · rw [Nat.min_eq_left h, ← List.length_drop, List.take_length]
  · rw [Nat.min_eq_right (by omega), List.drop_length, List.drop_eq_nil_of_le (by omega), List.take_nil]
theorem filter_from (m : Nat) : ∀ n : Nat, (List.range n).filter (fun k => decide (m ≤ k)) = (List.range n).drop m
  | 0 => by simp
  | n + 1 => by
    rw [List.range_succ, List.filter_append, filter_from m n]
    by_cases h : m ≤ n
    · rw [List.drop_append_of_le_length (by rw [List.length_range]; exact h), List.filter_cons, if_pos (by exact decide_eq_true h)]
      all_goals rfl
    · rw [List.filter_cons, if_neg (by rw [decide_eq_false h]; decide), List.filter_nil, List.append_nil, List.drop_eq_nil_of_le (by rw [List.length_range]; omega), List.drop_eq_nil_of_le (by rw [List.length_append, List.length_range, List.length_singleton]; omega)]
theorem range_getD {α : Type} (xs : List α) (d : α) : (List.range xs.length).map (fun i => xs.getD i d) = xs := by
  refine List.ext_getElem (by simp) (fun i h1 h2 => ?_)
  rw [List.getElem_map, List.getElem_range, List.getD_eq_getElem?_getD, List.getElem?_eq_getElem h2]
  rfl
theorem givenD_from (ds : List PyData) (m : Nat) (f : Nat → Bool) (hf : ∀ k, k < ds.length → f k = decide (m ≤ k)) : givenD ds.length f (fun k => ds.getD k .none) = ds.drop m := by
  unfold givenD
  have e : (List.range ds.length).filter f = (List.range ds.length).filter (fun k => decide (m ≤ k)) := List.filter_congr fun k hk => hf k (List.mem_range.mp hk)
  rw [e, filter_from, List.map_drop, range_getD]
theorem givenD_all (n : Nat) (g : Nat → PyData) : givenD n (fun _ => true) g = (List.range n).map g := by
  unfold givenD
  rw [List.filter_eq_self.mpr (fun _ _ => rfl)]
theorem atI_getD {α : Type} {xs : List α} {i : Int} {d : α} (h0 : 0 ≤ i) (h1 : i < (xs.length : Int)) : atI xs i = some (xs.getD i.toNat d) := by
  obtain ⟨j, rfl⟩ := Int.eq_ofNat_of_zero_le h0
  have hj : j < xs.length := by omega
  refine atI_nat ?_
  rw [show ((j : Int)).toNat = j from rfl, List.getD_eq_getElem?_getD, List.getElem?_eq_getElem hj]
  rfl
/-- range with great bounds -/
theorem q_forRngB {σ : L2.St} {H : Hp} {D : Ends} {tz : TS} {ta : TA} {j : Nat} {lo n : Int} {tu : TS} (h : EvA ta σ H [.int lo, .int n]) (hn : -(2 ^ 62) ≤ lo ∧ lo < 2 ^ 62 ∧ -(2 ^ 62) ≤ n ∧ n < 2 ^ 62) (Pv : Nat → L2.St → Hp → Prop) (h0 : ∀ H1, Ex H H1 → Pv 0 σ H1)
    (hs : ∀ (i : Nat) σ' H', lo + (i : Int) < n → Pv i σ' H' → tu { D with nx := Pv (i + 1), ct := Pv (i + 1), bk := tz D } (σ'.set j (some (.int (lo + (i : Int))))) H') (hd : ∀ σ' H', Pv (n - lo).toNat σ' H' → tz D σ' H') : tSeq (tFor (iRng2 ta) (gName j) tu) tz D σ H :=
  h H (Ex.refl H) _ fun H1 e => ⟨lo, n, rfl, hn, for_range (lo := lo) (n := (n - lo).toNat) Pv (h0 H1 e) (fun i σ' H' hi p => hs i σ' H' (by omega) p) hd⟩

/-! ### a method of the text, its class's own -/
structure Dm (K : PySem.W.Frag) (C : Addr) (x qual : Str) (st : Stmt) (ps : List Str) (f : Addr) (fd : FuncData) : Prop where
  F : Fun K x qual st f fd
  b : Binds K fd ps []
  m : Meth K C x f
theorem dm_mk {K : PySem.W.Frag} {h : Heap} (X : K.In h) {C : Addr} {x qual : Str} {st : Stmt} {ps : List Str} {f : Addr} {oc : Value} {od an : Option Addr} {sl : Array (Option Value)} {kV dc pm cd ct : Value}
    (a : PySem.W.findIn K (.ref C) x = some (some (.ref f))) (i : PySem.W.isFn K (.ref f) = true) (l : K.lookup f = some ⟨oc, od, .func (PySem.W.fnOf x qual (defArgs st) (defBody st) (defScope st) .none kV dc pm an cd ct), sl⟩) (c : PySem.W.codeIn K cd qual = true) (k : PySem.W.keepIn K (.ref f) = true)
    (hb : ∀ (kV doc pm : Value) (an : Option Addr) (cdv ct : Value) (us : List Value), us.length = ps.length → bindArgs (PySem.W.fnOf x qual (defArgs st) (defBody st) (defScope st) .none kV doc pm an cdv ct) ⟨us, []⟩ = pure (ps.zip us)) :
    ∃ f fd, Dm K C x qual st ps f fd := ⟨_, _, fun_mk l c k, (fun_mk l c k).binds hb, ⟨a, i, k⟩⟩
/-- a class of the text with an __init__ -/
structure Kl (K : PySem.W.Frag) (mg : Str → Option Value) (x : Str) (C : Addr) : Prop where
  cl : Cls K C
  g : mg x = some (.ref C)
  makes : PySem.W.makesIn K C = true
  kp : PySem.W.keepIn K (.ref C) = true
theorem Kl.make {K : PySem.W.Frag} {mg : Str → Option Value} {x : Str} {C f : Addr} {q : Str} {st : Stmt} {ps : List Str} {fd : FuncData} (L : Kl K mg x C) (D : Dm K C "__init__" q st ps f fd) : Mk K C f := ⟨L.makes, D.m.at_, D.m.fn, L.kp⟩
theorem kl_mk {K : PySem.W.Frag} {h : Heap} {mg : Str → Option Value} {x : Str} {C : Addr} (X : K.In h) (G : h.Ns mainGlobals mg) (a : PySem.W.nsIn K mainGlobals x = some (some (.ref C))) (pg : PySem.W.plainGet K C Str.empty = true) (hd : PySem.W.hasDictIn K C = true) (po : PySem.W.plainOver K C = true)
    (sa : PySem.W.findIn K (.ref C) "__setattr__" = some (some (.builtin "object.__setattr__"))) (mk : PySem.W.makesIn K C = true) (kp : PySem.W.keepIn K (.ref C) = true) : Kl K mg x C := ⟨⟨pg, hd, po, sa⟩, PySem.W.mg_of X G a, mk, kp⟩
theorem na_mk {K : PySem.W.Frag} {h : Heap} {C : Addr} {f : Str} (X : K.In h) (a : PySem.W.findIn K (.ref C) f = some none) : NoAttr K C f := a
/-- a property of an own class: its getter -/
structure Pr (K : PySem.W.Frag) (C : Addr) (x qual : Str) (st : Stmt) (f : Addr) (fd : FuncData) : Prop where
  F : Fun K x qual st f fd
  b : Binds K fd ["self"] []
  p : ∃ p, PropOf K C x p f
theorem pr_mk {K : PySem.W.Frag} {h : Heap} (X : K.In h) {C : Addr} {x qual : Str} {st : Stmt} {f p : Addr} {rest : List Value} {oc : Value} {od an : Option Addr} {sl : Array (Option Value)} {kV dc pm cd ct : Value}
    (a : PySem.W.findIn K (.ref C) x = some (some (.ref p))) (g : PySem.W.specialIn K (.ref p) "__get__" = some (some (.builtin "property.__get__"))) (t : PySem.W.takesIn K (.ref p) = some true) (r : PySem.W.recIn K p "property" = some (.ref f :: rest))
    (l : K.lookup f = some ⟨oc, od, .func (PySem.W.fnOf x qual (defArgs st) (defBody st) (defScope st) .none kV dc pm an cd ct), sl⟩) (c : PySem.W.codeIn K cd qual = true) (k : PySem.W.keepIn K (.ref f) = true)
    (hb : ∀ (kV doc pm : Value) (an : Option Addr) (cdv ct : Value) (us : List Value), us.length = (["self"] : List Str).length → bindArgs (PySem.W.fnOf x qual (defArgs st) (defBody st) (defScope st) .none kV doc pm an cdv ct) ⟨us, []⟩ = pure ((["self"] : List Str).zip us)) :
    ∃ f fd, Pr K C x qual st f fd := ⟨_, _, fun_mk l c k, (fun_mk l c k).binds hb, p, ⟨a, g, t, rest, r⟩⟩
theorem pe_pr {X : Cx} {CX : CXT} {k : Nat} {C g : Addr} {f : Str} {fd : FuncData} {sp : Sp} {E : XK} {e : Expr} {pos : Pos} {ta : TE} {q : Str} {st : Stmt} (he : PE X e ta) (c : Cls X.K C) (hp : Pr X.K C f q st g fd) (F : FnOk X.prog X.w X.K X.mg X.base CX k g fd ["self"] sp) (hr : Room (k + 1) X.A) (hx : Passes CX X.nox E)
    (hab : attributeBase e f X.env (eval e X.env) = eval e X.env) : PE X (.Attribute e f pos) (tProp C sp [] E ta) := by
  obtain ⟨p, hp'⟩ := hp.p
  exact pe_prop he c hp' F hr hp.b .nil hx hab
section
variable {K : PySem.W.Frag} {σ : L2.St} {H H' : Hp} {ta tb te : TE} {ds es : List PyData}
theorem en_catV {a : Addr} {xs : List V} (ha : Ev ta σ H (.ref a)) (h : H a = some (.lst xs)) (hd : DpAll K H xs ds) (hb : EvN K tb σ H es) (hl : ds.length + es.length ≤ 100000) : EvN K (tOp rCat ta tb) σ H (ds ++ es) := fun H1 e Q q =>
  ha H1 e _ fun H2 e2 => hb H2 (e.trans e2) _ fun p' ys H3 np' e3 hp' ht =>
    ⟨a, p', xs, ys, rfl, rfl, ((e.trans e2).trans e3) _ _ h, hp', by rw [dpa_len hd, dpa_len ht]; exact sz_of hl, fun o ho => q o _ _ (fresh_back (e2.trans e3) ho) ((e2.trans e3).trans (Ex.new ho)) upd_same
      (dpa_app (dpa_mono ov_base ds xs hd) (dpa_mono ((ov_later e2).trans (ov_grow (Ex.new ho))) es ys ht))⟩
theorem el_cat {xs ys : List V} (ha : EvL ta σ H xs) (hb : EvL tb σ H ys) (hl : xs.length + ys.length ≤ 100000) : EvL (tOp rCat ta tb) σ H (xs ++ ys) := fun H1 e Q q =>
  ha H1 e _ fun p H2 np e2 hp => hb H2 (e.trans e2) _ fun p' H3 np' e3 hp' => ⟨p, p', xs, ys, rfl, rfl, e3 _ _ hp, hp', sz_of hl, fun o ho => q o _ (fresh_back (e2.trans e3) ho) ((e2.trans e3).trans (Ex.new ho)) upd_same⟩
theorem el_rg2 {a b : Int} (ha : Ev ta σ H (.int a)) (hb : Ev tb σ H (.int b)) (ok : RgOk a b) : EvL (tLstRg (tRg2 ta tb)) σ H (rgV a b) := fun H1 e Q q =>
  ha H1 e _ fun H2 e2 => hb H2 (e.trans e2) _ fun H3 e3 => ⟨a, b, rfl, rfl, ok, fun p hp => q p _ (fresh_back (e2.trans e3) hp) ((e2.trans e3).trans (Ex.new hp)) upd_same⟩
theorem rc_max2 {i j : Int} : RC (fun xs H Q => ∃ i j, xs = [.int i, .int j] ∧ Q (.int (if j > i then j else i)) H) [.int i, .int j] H (.int (if j > i then j else i)) := fun H1 _ Q q => ⟨i, j, rfl, q H1 (Ex.refl H1)⟩
theorem rc_min2 {i j : Int} : RC (fun xs H Q => ∃ i j, xs = [.int i, .int j] ∧ Q (.int (if j < i then j else i)) H) [.int i, .int j] H (.int (if j < i then j else i)) := fun H1 _ Q q => ⟨i, j, rfl, q H1 (Ex.refl H1)⟩
end
theorem q_forRng3 {σ : L2.St} {H : Hp} {D : Ends} {tz : TS} {ta : TA} {j : Nat} {lo hi c : Int} {n : Nat} {tu : TS} (h : EvA ta σ H [.int lo, .int hi, .int c]) (hn : RgC lo hi c n) (Pv : Nat → L2.St → Hp → Prop) (h0 : ∀ H1, Ex H H1 → Pv 0 σ H1)
    (hs : ∀ (i : Nat) σ' H', i < n → Pv i σ' H' → tu { D with nx := Pv (i + 1), ct := Pv (i + 1), bk := tz D } (σ'.set j (some (.int (lo + (i : Int) * c)))) H') (hd : ∀ σ' H', Pv n σ' H' → tz D σ' H') : tSeq (tFor (iRng3 ta) (gName j) tu) tz D σ H :=
  h H (Ex.refl H) _ fun H1 e => ⟨lo, hi, c, n, rfl, hn, for_it walk_rangeC Pv (h0 H1 e) (fun _ _ _ _ _ => trivial) (fun i x σ' H1 H' hi p y => by
    obtain ⟨rfl, rfl⟩ := y
    exact hs i σ' _ hi p) hd⟩
/-- the part of a list from lo to hi -/
def rng {α : Type} (xs : List α) (lo hi : Nat) : List α := (xs.drop lo).take (hi - lo)
theorem rng_drop {α : Type} (xs : List α) (lo hi k : Nat) : (rng xs lo hi).drop k = rng xs (lo + k) hi := by
  unfold rng
  rw [List.drop_take, List.drop_drop, Nat.sub_sub]
theorem rng_nil {α : Type} (xs : List α) {lo hi : Nat} (h : hi ≤ lo) : rng xs lo hi = [] := by
  unfold rng
  rw [Nat.sub_eq_zero_of_le h, List.take_zero]
theorem rng_app {α : Type} (xs : List α) {a b c : Nat} (h1 : a ≤ b) (h2 : b ≤ c) : rng xs a b ++ rng xs b c = rng xs a c := by
  unfold rng
  have e : c - a = (b - a) + (c - b) := by omega
  rw [e, List.take_add, List.drop_drop, show a + (b - a) = b by omega]
theorem rng_len {α : Type} (xs : List α) {lo hi : Nat} (h1 : lo ≤ hi) (h2 : hi ≤ xs.length) : (rng xs lo hi).length = hi - lo := by
  unfold rng
  rw [List.length_take, List.length_drop]
  omega
theorem rng_all {α : Type} (xs : List α) (lo : Nat) : rng xs lo xs.length = xs.drop lo := by
  unfold rng
  rw [← List.length_drop, List.take_length]
theorem cutA_rng {α : Type} (xs : List α) {lo hi : Nat} (h : lo ≤ xs.length) : cutA xs (some (lo : Int)) (some (hi : Int)) = rng xs lo (min hi xs.length) := by
  unfold cutA rng
  rw [HT.sIx_nat, HT.sIx_nat, Nat.min_eq_left h]
theorem Sds.rng {n : Nat} {ds : List PyData} (h : Sds n ds) (a b : Nat) : Sds n (Ap.rng ds a b) := (h.drop _).take _
section
variable {σ : L2.St} {H : Hp} {ta : TE} {p : Addr}
theorem et_isY (h : Ev ta σ H .non) : EvT (tTest (tOp (fun x y H Q => y = .non ∧ Q (.bl (decide (x = .non))) H) ta (tC .non))) σ H true := et_test (ev_is (ev_op h ev_c (fun G _ _ q => ⟨rfl, q G (Ex.refl G)⟩)) (by rfl))
theorem et_isR (h : Ev ta σ H (.ref p)) : EvT (tTest (tOp (fun x y H Q => y = .non ∧ Q (.bl (decide (x = .non))) H) ta (tC .non))) σ H false := et_test (ev_is (v := .bl (decide (V.ref p = .non))) (ev_op h ev_c (fun G _ _ q => ⟨rfl, q G (Ex.refl G)⟩)) (by rw [decide_eq_false (fun h => nomatch h)]))
theorem et_notY (h : Ev ta σ H .non) : EvT (tTest (tOp (fun x y H Q => y = .non ∧ Q (.bl (!decide (x = .non))) H) ta (tC .non))) σ H false := et_test (ev_is (ev_op h ev_c (fun G _ _ q => ⟨rfl, q G (Ex.refl G)⟩)) (by rfl))
theorem et_notR (h : Ev ta σ H (.ref p)) : EvT (tTest (tOp (fun x y H Q => y = .non ∧ Q (.bl (!decide (x = .non))) H) ta (tC .non))) σ H true := et_test (ev_is (v := .bl (!decide (V.ref p = .non))) (ev_op h ev_c (fun G _ _ q => ⟨rfl, q G (Ex.refl G)⟩)) (by rw [decide_eq_false (fun h => nomatch h)]; rfl))
end
theorem kit_own {K : PySem.W.Frag} {t : Value} {B : Addr} (hd : PySem.W.hasDictIn K B = true) (ht : PySem.W.typeIn K (.ref B) = some (.type "type")) (hs : PySem.W.subIn K t (.ref B) = some true) : PySem.W.kitOne K t (.ref B) = some true := by
  obtain ⟨cd, hc, _⟩ := PySem.W.any_some hd
  unfold PySem.W.kitOne
  split
  · rfl
  · show (if ((PySem.W.clsIn K B).isSome && PySem.W.typeIn K (.ref B) == some (.type "type")) = true then PySem.W.subIn K t (.ref B) else none) = some true
    rw [hc, ht, if_pos (by rfl)]
    exact hs
theorem kit_blt {K : PySem.W.Frag} {t : Value} {n : String} (hm : PySem.W.kitMeta n = true) (hs : PySem.W.subIn K t (.type n) = some true) : PySem.W.kitOne K t (.type n) = some true := by
  unfold PySem.W.kitOne
  split
  · rfl
  · show (if PySem.W.kitMeta n = true then PySem.W.subIn K t (.type n) else none) = some true
    rw [if_pos hm]
    exact hs
theorem err_mk {K : PySem.W.Frag} {h : Heap} {mg : Str → Option Value} {x y : Str} {C B : Addr} (X : K.In h) (G : h.Ns mainGlobals mg) (a : PySem.W.nsIn K mainGlobals x = some (some (.ref C))) (b : PySem.W.nsIn K mainGlobals y = some (some (.ref B))) (kp : PySem.W.keepIn K (.ref C) = true)
    (ex : PySem.W.excIn K C [.type "ValueError", .type "Exception", .type "BaseException", .type "object"] "ValueError.__new__" = true) (bs : PySem.W.subIn K (.ref C) (.type "BaseException") = some true) (ty : PySem.W.typeIn K (.ref C) = some (.type "type")) (ss : PySem.W.subIn K (.ref C) (.ref C) = some true)
    (hg : PySem.W.findIn K (.ref C) "__getattribute__" = some (some (.builtin "BaseException.__getattribute__"))) (hk : PySem.W.findIn K (.ref C) "__getattr__" = some none) (hd : PySem.W.hasDictIn K C = true) (ha : PySem.W.findIn K (.ref C) "__class__" = some (some (.builtin "object.__class__")))
    (hn : PySem.W.specialIn K (.builtin "object.__class__") "__get__" = some (some (.builtin "getset_descriptor.__get__"))) (ht : PySem.W.takesIn K (.builtin "object.__class__") = some true) (hm : PySem.W.mroIn K C (.type "object") = some true)
    (dB : PySem.W.hasDictIn K B = true) (tB : PySem.W.typeIn K (.ref B) = some (.type "type")) (sb : PySem.W.subIn K (.ref C) (.ref B) = some true) (sv : PySem.W.subIn K (.ref C) (.type "ValueError") = some true) : Err K mg x C B ∧ mg y = some (.ref B) :=
  ⟨⟨PySem.W.mg_of X G a, kp, ex, bs, ty, PySem.W.exm_ref bs hd ty ss, ⟨hg, hk, bs, hd, ha, hn, ht, hm⟩, kit_own dB tB sb, kit_blt (by decide +kernel) sv⟩, PySem.W.mg_of X G b⟩
end Ap

set_option Elab.async false
set_option linter.all false
set_option maxRecDepth 100000
namespace Ap
open PySem PySem.Spec PyProof.Rows L2 Evl
/-! ### any object: as data, and dicts besides (what is in a dict is left open) -/
mutual
inductive Dx (K : PySem.W.Frag) (H : Hp) : V → PyData → Prop
  | non : Dx K H .non .none
  | bl (b : Bool) : Dx K H (.bl b) (.bool b)
  | int (i : Int) : Dx K H (.int i) (.int i)
  | str (x : Str) : Dx K H (.str x) (.str x)
  | lst {a : Addr} {xs : List V} {ds : List PyData} : SqL K H a xs → DxAll K H xs ds → Dx K H (.ref a) (.list ds)
  | tup {a : Addr} {xs : List V} {ds : List PyData} : SqT K H a xs → DxAll K H xs ds → Dx K H (.ref a) (.tuple ds)
  | dic {a : Addr} {kvs : List (Key × V)} : H a = some (.dK kvs) → Dx K H (.ref a) (.dict [])
inductive DxAll (K : PySem.W.Frag) (H : Hp) : List V → List PyData → Prop
  | nil : DxAll K H [] []
  | cons {v : V} {vs : List V} {d : PyData} {ds : List PyData} : Dx K H v d → DxAll K H vs ds → DxAll K H (v :: vs) (d :: ds)
end
mutual
theorem dx_dp {K : PySem.W.Frag} {H : Hp} : ∀ (d : PyData) (v : V), Dx K H v d → d.canLay0 = true → Dp K H v d
  | .none, _, h, _ => by cases h; exact .non
  | .bool b, _, h, _ => by cases h; exact .bl b
  | .int i, _, h, _ => by cases h; exact .int i
  | .str x, _, h, _ => by cases h; exact .str x
  | .list ds, _, h, c => by
    cases h with
    | lst hs ha => exact .lst hs (dxa_dpa ds _ ha (by simpa [PyData.canLay0] using c))
  | .tuple ds, _, h, c => by
    cases h with
    | tup hs ha => exact .tup hs (dxa_dpa ds _ ha (by simpa [PyData.canLay0] using c))
  | .dict _, _, _, c => by simp [PyData.canLay0] at c
theorem dxa_dpa {K : PySem.W.Frag} {H : Hp} : ∀ (ds : List PyData) (vs : List V), DxAll K H vs ds → PyData.canLayAll0 ds = true → DpAll K H vs ds
  | [], _, h, _ => by cases h; exact .nil
  | d :: ds, _, h, c => by
    have c' : d.canLay0 = true ∧ PyData.canLayAll0 ds = true := by simpa [PyData.canLayAll0] using c
    cases h with
    | cons h1 h2 => exact .cons (dx_dp d _ h1 c'.1) (dxa_dpa ds _ h2 c'.2)
end
/-! ### data: what a value stands for, whatever grows around it -/
section
variable {K : PySem.W.Frag} {H H' : Hp}
mutual
theorem dx_mono (e : Ex H H') : ∀ (d : PyData) (v : V), Dx K H v d → Dx K H' v d
  | .none, _, h => by cases h; exact .non
  | .bool b, _, h => by cases h; exact .bl b
  | .int i, _, h => by cases h; exact .int i
  | .str x, _, h => by cases h; exact .str x
  | .list ds, _, h => by
    cases h with
    | lst hs ha => exact .lst (Evl.ex_l e hs) (dxa_mono e ds _ ha)
  | .tuple ds, _, h => by
    cases h with
    | tup hs ha => exact .tup (ex_t e hs) (dxa_mono e ds _ ha)
  | .dict _, _, h => by
    cases h with
    | dic h => exact .dic (e _ _ h)
theorem dxa_mono (e : Ex H H') : ∀ (ds : List PyData) (vs : List V), DxAll K H vs ds → DxAll K H' vs ds
  | [], _, h => by cases h; exact .nil
  | d :: ds, _, h => by
    cases h with
    | cons h1 h2 => exact .cons (dx_mono e d _ h1) (dxa_mono e ds _ h2)
end
theorem dxa_len : ∀ {vs : List V} {ds : List PyData}, DxAll K H vs ds → vs.length = ds.length
  | _, _, .nil => rfl
  | _, _, .cons _ h => by rw [List.length_cons, List.length_cons, dxa_len h]
theorem dxa_at : ∀ {vs : List V} {ds : List PyData} {i : Nat} {d : PyData}, DxAll K H vs ds → ds[i]? = some d → ∃ v, vs[i]? = some v ∧ Dx K H v d
  | _, _, i, d, .nil, h => by simp at h
  | _, _, 0, d, .cons h1 _, h => ⟨_, rfl, by
    have e := Option.some.inj (show some _ = some d from h)
    rw [← e]
    exact h1⟩
  | _, _, i + 1, d, .cons _ h2, h => by
    obtain ⟨v, e, q⟩ := dxa_at (i := i) h2 (by simpa using h)
    exact ⟨v, by simpa using e, q⟩
theorem dxa_atV : ∀ {vs : List V} {ds : List PyData} {i : Nat} {v : V}, DxAll K H vs ds → vs[i]? = some v → ∃ d, ds[i]? = some d ∧ Dx K H v d
  | _, _, i, v, .nil, h => by simp at h
  | _, _, 0, v, .cons h1 _, h => ⟨_, rfl, by
    have e := Option.some.inj (show some _ = some v from h)
    rw [← e]
    exact h1⟩
  | _, _, i + 1, v, .cons _ h2, h => by
    obtain ⟨d, e, q⟩ := dxa_atV (i := i) h2 (by simpa using h)
    exact ⟨d, by simpa using e, q⟩
theorem dxa_app : ∀ {vs ws : List V} {ds es : List PyData}, DxAll K H vs ds → DxAll K H ws es → DxAll K H (vs ++ ws) (ds ++ es)
  | _, _, _, _, .nil, h => h
  | _, _, _, _, .cons h1 h2, h => .cons h1 (dxa_app h2 h)
theorem dxa_one {v : V} {d : PyData} (h : Dx K H v d) : DxAll K H [v] [d] := .cons h .nil
theorem dxa_drop : ∀ {vs : List V} {ds : List PyData} (n : Nat), DxAll K H vs ds → DxAll K H (vs.drop n) (ds.drop n)
  | _, _, 0, h => h
  | _, _, n + 1, .nil => .nil
  | _, _, n + 1, .cons _ h2 => dxa_drop n h2
theorem dxa_take : ∀ {vs : List V} {ds : List PyData} (n : Nat), DxAll K H vs ds → DxAll K H (vs.take n) (ds.take n)
  | _, _, 0, _ => .nil
  | _, _, n + 1, .nil => .nil
  | _, _, n + 1, .cons h1 h2 => .cons h1 (dxa_take n h2)
theorem dxa_ints : ∀ (ns : List Int), DxAll K H (ns.map V.int) (ns.map PyData.int)
  | [] => .nil
  | n :: r => .cons (.int n) (dxa_ints r)
end

/-! ### what evaluates to data -/
def EvX (K : PySem.W.Frag) (te : TE) (σ : L2.St) (H : Hp) (d : PyData) : Prop := ∀ H1, Ex H H1 → ∀ Q : VK, (∀ v H2, Ex H1 H2 → Dx K (ov H H1 H2) v d → Q v H2) → te σ H1 Q
def EvXs (K : PySem.W.Frag) (ta : TA) (σ : L2.St) (H : Hp) (ds : List PyData) : Prop := ∀ H1, Ex H H1 → ∀ Q : List V → Hp → Prop, (∀ vs H2, Ex H1 H2 → DxAll K (ov H H1 H2) vs ds → Q vs H2) → ta σ H1 Q
/-- a new list of data -/
def EvXN (K : PySem.W.Frag) (te : TE) (σ : L2.St) (H : Hp) (ds : List PyData) : Prop := ∀ H1, Ex H H1 → ∀ Q : VK, (∀ p xs H2, H1 p = none → Ex H1 H2 → H2 p = some (.lst xs) → DxAll K (ov H H1 H2) xs ds → Q (.ref p) H2) → te σ H1 Q
section
variable {K : PySem.W.Frag} {σ : L2.St} {H H' : Hp} {ta tb tc te : TE} {t u : TT} {x y z v w : V} {d e : PyData} {ds es : List PyData} {r : R2}
theorem ex_of (h : Ev te σ H v) (hd : Dx K H v d) : EvX K te σ H d := fun H1 e Q q => h H1 e Q fun H2 e2 => q v H2 e2 (dx_mono ov_base d v hd)
theorem ex_var {i : Nat} (h : σ[i]? = some (some v)) (hd : Dx K H v d) : EvX K (tVar i) σ H d := ex_of (ev_var h) hd
theorem ex_int {i : Int} (h : Ev te σ H (.int i)) : EvX K te σ H (.int i) := ex_of h (.int i)
theorem ex_str {s : Str} : EvX K (tC (.str s)) σ H (.str s) := ex_of ev_c (.str s)
theorem ex_bool {b : Bool} (h : Ev te σ H (.bl b)) : EvX K te σ H (.bool b) := ex_of h (.bl b)
theorem ex_non : EvX K (tC .non) σ H .none := ex_of ev_c .non
theorem ex_is (h : EvX K te σ H d) (q : d = e) : EvX K te σ H e := q ▸ h
theorem EvX.mono (e : Ex H H') (h : EvX K te σ H d) : EvX K te σ H' d := fun H1 a Q q => h H1 (e.trans a) Q fun v H2 e2 hd => q v H2 e2 (dx_mono (fun b o hb => by
  unfold ov at hb ⊢
  cases h0 : H b with
  | some o' => rw [h0] at hb; rw [e b o' h0]; exact hb
  | none =>
    rw [h0] at hb
    cases h1 : H1 b with
    | some o' => rw [h1] at hb; cases hb
    | none =>
      rw [h1] at hb
      rw [fresh_back a h1]
      exact hb) d v hd)
theorem exs_nil : EvXs K tNil σ H [] := fun H1 _ _ q => q [] H1 (Ex.refl H1) .nil
theorem exs_cons {tr : TA} (h : EvX K te σ H d) (hr : EvXs K tr σ H ds) : EvXs K (tCons te tr) σ H (d :: ds) := fun H1 e Q q =>
  h H1 e _ fun v H2 e2 hv => hr H2 (e.trans e2) _ fun vs H3 e3 hs => q _ H3 (e2.trans e3) (.cons (dx_mono (ov_grow e3) d v hv) (dxa_mono (ov_later e2) ds vs hs))
theorem ex_tup {ta : TA} (h : EvXs K ta σ H ds) (hl : ds.length ≤ 100000) : EvX K (tTup ta) σ H (.tuple ds) := fun H1 e Q q =>
  h H1 e _ fun vs H2 e2 hs => ⟨by rw [dxa_len hs]; exact sz_of hl, fun p hp => q _ _ (e2.trans (Ex.new hp)) (.tup (st_of (ov_new e e2 hp)) (dxa_mono (ov_grow (Ex.new hp)) ds vs hs))⟩
theorem exn_lst {ta : TA} (h : EvXs K ta σ H ds) (hl : ds.length ≤ 100000) : EvXN K (tLst ta) σ H ds := fun H1 e Q q =>
  h H1 e _ fun vs H2 e2 hs => ⟨by rw [dxa_len hs]; exact sz_of hl, fun p hp => q p vs _ (fresh_back e2 hp) (e2.trans (Ex.new hp)) upd_same (dxa_mono (ov_grow (Ex.new hp)) ds vs hs)⟩
theorem ex_new (h : EvXN K te σ H ds) : EvX K te σ H (.list ds) := fun H1 e Q q => h H1 e _ fun p xs H2 np e2 hp hs => q _ H2 e2 (.lst (sq_of (by
  have h1 := fresh_back e np
  unfold ov
  rw [h1, np]
  exact hp)) hs)
theorem ex_ixT {i : Int} (ha : EvX K ta σ H (.tuple ds)) (hb : Ev tb σ H (.int i)) (h : atI ds i = some d) : EvX K (tOp (rIxT K) ta tb) σ H d := fun H1 e Q q =>
  ha H1 e _ fun v H2 e2 hv => hb H2 (e.trans e2) _ fun H3 e3 => by
    cases hv with
    | tup hs hd =>
      obtain ⟨j, hj, hx⟩ := atI_len (dxa_len hd) h
      obtain ⟨x, ex, dx⟩ := dxa_at hd hj
      exact ⟨_, _, i, x, rfl, rfl, ex_t ((ov_ex e e2).trans e3) hs, hx x ex, q x H3 (e2.trans e3) (dx_mono (ov_grow e3) d x dx)⟩
theorem ex_ixL {i : Int} (ha : EvX K ta σ H (.list ds)) (hb : Ev tb σ H (.int i)) (h : atI ds i = some d) : EvX K (tOp (rIxL K) ta tb) σ H d := fun H1 e Q q =>
  ha H1 e _ fun v H2 e2 hv => hb H2 (e.trans e2) _ fun H3 e3 => by
    cases hv with
    | lst hs hd =>
      obtain ⟨j, hj, hx⟩ := atI_len (dxa_len hd) h
      obtain ⟨x, ex, dx⟩ := dxa_at hd hj
      exact ⟨_, _, i, x, rfl, rfl, Evl.ex_l ((ov_ex e e2).trans e3) hs, hx x ex, q x H3 (e2.trans e3) (dx_mono (ov_grow e3) d x dx)⟩
theorem dxa_cut {vs : List V} {lo hi : Option Int} (h : DxAll K H vs ds) : DxAll K H (cutV vs lo hi) (cutA ds lo hi) := by
  unfold cutV cutA
  rw [dxa_len h]
  exact dxa_take _ (dxa_drop _ h)
theorem ex_slT {tl th : TO} {lo hi : Option Int} (h : EvX K te σ H (.tuple ds)) (h1 : EvO tl σ H lo) (h2 : EvO th σ H hi) : EvX K (tSl (rSlA K) te tl th) σ H (.tuple (cutA ds lo hi)) := fun H1 e Q q =>
  h H1 e _ fun v H2 e2 hv => h1 H2 (e.trans e2) _ fun H3 e3 => h2 H3 ((e.trans e2).trans e3) _ fun H4 e4 => by
    have e24 := e2.trans (e3.trans e4)
    cases hv with
    | @tup a xs _ hs hd =>
      refine ⟨a, xs, rfl, ex_t ((ov_ex e e2).trans (e3.trans e4)) hs, fun hw => q _ H4 e24 (.tup (ex_t (ov_grow (e3.trans e4)) hs) ?_), fun _ p hp => q _ _ (e24.trans (Ex.new hp)) (.tup (st_of (ov_new e e24 hp)) (dxa_cut (dxa_mono (ov_grow ((e3.trans e4).trans (Ex.new hp))) ds xs hd)))⟩
      have ec : cutA ds lo hi = ds := by
        unfold cutA
        rw [← dxa_len hd, hw.1, hw.2, List.drop_zero, Nat.sub_zero, dxa_len hd, List.take_length]
      rw [ec]
      exact dxa_mono (ov_grow (e3.trans e4)) ds xs hd
theorem exn_slL {tl th : TO} {lo hi : Option Int} (h : EvX K te σ H (.list ds)) (h1 : EvO tl σ H lo) (h2 : EvO th σ H hi) : EvXN K (tSl (rSlL K) te tl th) σ H (cutA ds lo hi) := fun H1 e Q q =>
  h H1 e _ fun v H2 e2 hv => h1 H2 (e.trans e2) _ fun H3 e3 => h2 H3 ((e.trans e2).trans e3) _ fun H4 e4 => by
    have e24 := e2.trans (e3.trans e4)
    cases hv with
    | @lst a xs _ hs hd =>
      exact ⟨a, xs, rfl, Evl.ex_l ((ov_ex e e2).trans (e3.trans e4)) hs, fun p hp => q p _ _ (fresh_back e24 hp) (e24.trans (Ex.new hp)) upd_same (dxa_cut (dxa_mono (ov_grow ((e3.trans e4).trans (Ex.new hp))) ds xs hd))⟩
theorem ex_catT (ha : EvX K ta σ H (.tuple ds)) (hb : EvX K tb σ H (.tuple es)) (hl : ds.length + es.length ≤ 100000) : EvX K (tOp (rCatA K) ta tb) σ H (.tuple (ds ++ es)) := fun H1 e Q q =>
  ha H1 e _ fun v H2 e2 hv => hb H2 (e.trans e2) _ fun w H3 e3 hw => by
    have e13 := e2.trans e3
    cases hv with
    | @tup a xs _ hs hd =>
      cases hw with
      | @tup b ys _ ht he =>
        have hs3 := ex_t ((ov_ex e e2).trans e3) hs
        have ht3 := ex_t (ov_ex (e.trans e2) e3) ht
        have hd3 := dxa_mono (ov_grow e3) ds xs hd
        have he3 := dxa_mono (ov_later e2) es ys he
        have ld := dxa_len hd
        have le := dxa_len he
        refine ⟨a, b, xs, ys, rfl, rfl, hs3, ht3, sz_of (by omega), fun h0 => ?_, fun _ h0 => ?_, fun _ _ p hp => q _ _ (e13.trans (Ex.new hp)) (.tup (st_of (ov_new e e13 hp)) (dxa_app (dxa_mono (ov_grow (Ex.new hp)) ds xs hd3) (dxa_mono (ov_grow (Ex.new hp)) es ys he3)))⟩
        · have z : ds = [] := List.eq_nil_of_length_eq_zero (by rw [← ld, h0]; rfl)
          subst z
          exact q _ _ e13 (.tup (ex_t (ov_later e2) ht) he3)
        · have z : es = [] := List.eq_nil_of_length_eq_zero (by rw [← le, h0]; rfl)
          subst z
          exact q _ _ e13 (.tup (ex_t (ov_grow e3) hs) (by rw [List.append_nil]; exact hd3))
theorem exn_cat (ha : EvXN K ta σ H ds) (hb : EvXN K tb σ H es) (hl : ds.length + es.length ≤ 100000) : EvXN K (tOp rCat ta tb) σ H (ds ++ es) := fun H1 e Q q =>
  ha H1 e _ fun p xs H2 np e2 hp hs => hb H2 (e.trans e2) _ fun p' ys H3 np' e3 hp' ht =>
    ⟨p, p', xs, ys, rfl, rfl, e3 _ _ hp, hp', by rw [dxa_len hs, dxa_len ht]; exact sz_of hl, fun o ho => q o _ _ (fresh_back (e2.trans e3) ho) ((e2.trans e3).trans (Ex.new ho)) upd_same
      (dxa_app (dxa_mono (ov_grow (e3.trans (Ex.new ho))) ds xs hs) (dxa_mono ((ov_later e2).trans (ov_grow (Ex.new ho))) es ys ht))⟩
/-- a list that stands in the base, by its items -/
theorem exn_tup {a : Addr} {xs : List V} (ha : Ev ta σ H (.ref a)) (hs : SqL K H a xs) (hd : DxAll K H xs ds) : EvX K (tThen ta (kTup K)) σ H (.tuple ds) := fun H1 e Q q =>
  ha H1 e _ fun H2 e2 => .inl ⟨a, xs, rfl, Evl.ex_l (e.trans e2) hs, fun p hp => q _ _ (e2.trans (Ex.new hp)) (.tup (st_of (ov_new e e2 hp)) (dxa_mono ov_base ds xs hd))⟩
theorem ex_tupOf (ha : EvX K ta σ H (.list ds)) : EvX K (tThen ta (kTup K)) σ H (.tuple ds) := fun H1 e Q q =>
  ha H1 e _ fun v H2 e2 hv => by
    cases hv with
    | @lst a xs _ hs hd => exact .inl ⟨a, xs, rfl, Evl.ex_l (ov_ex e e2) hs, fun p hp => q _ _ (e2.trans (Ex.new hp)) (.tup (st_of (ov_new e e2 hp)) (dxa_mono (ov_grow (Ex.new hp)) ds xs hd))⟩
theorem ev_eqX {n m : Nat} (ha : EvX K ta σ H d) (hb : EvX K tb σ H e) (sd : Sd n d) (se : Sd m e) (hn : n ≤ 64) (hm : m ≤ 64) : Ev (tOp (rEqD K) ta tb) σ H (.bl (PyData.eqv d e)) := fun H1 a Q q =>
  ha H1 a _ fun v H2 e2 hv => hb H2 (a.trans e2) _ fun w H3 e3 hw => ⟨d, e, dx_dp _ _ (dx_mono ((ov_ex a e2).trans e3) d v hv) sd.1, dx_dp _ _ (dx_mono (ov_ex (a.trans e2) e3) e w hw) se.1, sd.shaped hn, se.shaped hm, q H3 (e2.trans e3)⟩
theorem ev_neX {n m : Nat} (ha : EvX K ta σ H d) (hb : EvX K tb σ H e) (sd : Sd n d) (se : Sd m e) (hn : n ≤ 64) (hm : m ≤ 64) : Ev (tOp (rNeD K) ta tb) σ H (.bl (!PyData.eqv d e)) := fun H1 a Q q =>
  ha H1 a _ fun v H2 e2 hv => hb H2 (a.trans e2) _ fun w H3 e3 hw => ⟨d, e, dx_dp _ _ (dx_mono ((ov_ex a e2).trans e3) d v hv) sd.1, dx_dp _ _ (dx_mono (ov_ex (a.trans e2) e3) e w hw) se.1, sd.shaped hn, se.shaped hm, q H3 (e2.trans e3)⟩
/-- the two sides are one: != is False -/
theorem ev_neSelfX {n : Nat} (ha : EvX K ta σ H d) (hb : EvX K tb σ H d) (sd : Sd n d) (hn : n ≤ 64) : Ev (tOp (rNeD K) ta tb) σ H (.bl false) := ev_is (ev_neX ha hb sd sd hn hn) (by rw [sd.self]; rfl)
theorem ev_eqSelfX {n : Nat} (ha : EvX K ta σ H d) (hb : EvX K tb σ H d) (sd : Sd n d) (hn : n ≤ 64) : Ev (tOp (rEqD K) ta tb) σ H (.bl true) := ev_is (ev_eqX ha hb sd sd hn hn) (by rw [sd.self])
theorem ev_lenX (ha : EvX K ta σ H (.list ds)) : Ev (tCB (fun xs H Q => ∃ p ys, xs = [.ref p] ∧ (SqL K H p ys ∨ SqT K H p ys) ∧ Q (.int ys.length) H) (tCons ta tNil)) σ H (.int (ds.length : Int)) := fun H1 e Q q =>
  ha H1 e _ fun v H2 e2 hv => by
    cases hv with
    | @lst a xs _ hs hd => exact ⟨a, xs, rfl, .inl (Evl.ex_l (ov_ex e e2) hs), by rw [dxa_len hd]; exact q H2 e2⟩
theorem ev_lenXT (ha : EvX K ta σ H (.tuple ds)) : Ev (tCB (fun xs H Q => ∃ p ys, xs = [.ref p] ∧ (SqL K H p ys ∨ SqT K H p ys) ∧ Q (.int ys.length) H) (tCons ta tNil)) σ H (.int (ds.length : Int)) := fun H1 e Q q =>
  ha H1 e _ fun v H2 e2 hv => by
    cases hv with
    | @tup a xs _ hs hd => exact ⟨a, xs, rfl, .inr (ex_t (ov_ex e e2) hs), by rw [dxa_len hd]; exact q H2 e2⟩
theorem ex_if {b : Bool} (h : EvT t σ H b) (h1 : b = true → EvX K ta σ H d) (h2 : b = false → EvX K tb σ H d) : EvX K (tIf t ta tb) σ H d := fun H1 e Q q => h H1 e _ fun H2 e2 => by
  cases b with
  | true =>
    show ta σ H2 Q
    exact h1 rfl H2 (e.trans e2) Q fun v H3 e3 hv => q v H3 (e2.trans e3) (dx_mono (ov_later e2) d v hv)
  | false =>
    show tb σ H2 Q
    exact h2 rfl H2 (e.trans e2) Q fun v H3 e3 hv => q v H3 (e2.trans e3) (dx_mono (ov_later e2) d v hv)
/-- a promise that gives data, over a base that the caller names -/
def RetX (K : PySem.W.Frag) (B : Hp) (d : PyData) (H : Hp) (Q : VK) : Prop := ∀ v H2, Ex H H2 → Dx K (ov B H H2) v d → Q v H2
def SpX (K : PySem.W.Frag) (sp : Sp) (vs : List V) (H : Hp) (d : PyData) : Prop := ∀ H1, Ex H H1 → ∀ Q : VK, (∀ v H2, Ex H1 H2 → Dx K (ov H H1 H2) v d → Q v H2) → ∀ E : XK, sp vs H1 Q E
theorem ex_call {sp : Sp} {dvs vs : List V} {E : XK} {ta : TA} (h : EvA ta σ H vs) (hs : SpX K sp (vs ++ dvs) H d) : EvX K (tCall sp dvs E ta) σ H d := fun H1 e Q q =>
  h H1 e _ fun H2 e2 => hs H2 (e.trans e2) Q (fun v H3 e3 hv => q v H3 (e2.trans e3) (dx_mono (ov_later e2) d v hv)) E
/-! ### statements -/
variable {D : Ends} {tz : TS} {i : Nat}
theorem dx_all {H2 : Hp} {v : V} {d : PyData} (e : Ex H H2) (h : Dx K (ov H H H2) v d) : Dx K H2 v d := dx_mono (ov_ex (Ex.refl H) e) d v h
theorem q_asgX (h : EvX K te σ H d) (k : ∀ v H1, Ex H H1 → Dx K H1 v d → tz D (σ.set i (some v)) H1) : tSeq (tAsg te (gName i)) tz D σ H := h H (Ex.refl H) _ fun v H1 e hv => k v H1 e (dx_mono (ov_ex (Ex.refl H) e) d v hv)
theorem s_asgX (h : EvX K te σ H d) (k : ∀ v H1, Ex H H1 → Dx K H1 v d → D.nx (σ.set i (some v)) H1) : tAsg te (gName i) D σ H := h H (Ex.refl H) _ fun v H1 e hv => k v H1 e (dx_mono (ov_ex (Ex.refl H) e) d v hv)
theorem q_asgXN (h : EvXN K te σ H ds) (k : ∀ p xs H1, H p = none → Ex H H1 → H1 p = some (.lst xs) → DxAll K H1 xs ds → tz D (σ.set i (some (.ref p))) H1) : tSeq (tAsg te (gName i)) tz D σ H :=
  h H (Ex.refl H) _ fun p xs H1 np e hp hs => k p xs H1 np e hp (dxa_mono (ov_ex (Ex.refl H) e) ds xs hs)
theorem q_asgXB {B : Hp} (eB : Ex B H) (h : EvX K te σ B d) (k : ∀ v H1, Ex H H1 → Dx K (ov B H H1) v d → tz D (σ.set i (some v)) H1) : tSeq (tAsg te (gName i)) tz D σ H := h H eB _ fun v H1 e hv => k v H1 e hv
theorem s_retXB {B : Hp} (eB : Ex B H) (h : EvX K te σ B d) (k : ∀ v H1, Ex H H1 → Dx K (ov B H H1) v d → D.rt v H1) : tRet te D σ H := h H eB _ k
theorem s_retX (h : EvX K te σ H d) (k : ∀ v H1, Ex H H1 → Dx K (ov H H H1) v d → D.rt v H1) : tRet te D σ H := h H (Ex.refl H) _ k
/-! ### a comprehension over a range, its items data -/
/-- the word of a comprehension over the base B, begun at H1: the items lean on the base and on what is new, not on the list itself -/
def CwX (K : PySem.W.Frag) (B H1 : Hp) (f : Nat → Bool) (g : Nat → PyData) (Dl : Addr) (i : Nat) (H' : Hp) : Prop := Ex B H' ∧ Ex H1 H' ∧ ∃ acc, H' Dl = some (.lst acc) ∧ DxAll K (ov B (upd H1 Dl (.lst [])) H') acc (givenD i f g)
theorem cwX_turn {B H1 H' : Hp} {f : Nat → Bool} {g : Nat → PyData} {Dl : Addr} {i : Nat} {σ2 : L2.St} (b1 : Ex B H1) (nD : H1 Dl = none) (p : CwX K B H1 f g Dl i H') (hi : i < 50000) (ht : EvT t σ2 B (f i)) (he : f i = true → EvX K te σ2 B (g i)) :
    t σ2 H' fun b H3 => if b = true then te σ2 H3 fun y H4 => ∃ acc, H4 Dl = some (.lst acc) ∧ acc.length < sizeLine ∧ CwX K B H1 f g Dl (i + 1) (upd H4 Dl (.lst (acc ++ [y]))) else CwX K B H1 f g Dl (i + 1) H3 := by
  obtain ⟨p1, p2, acc, p3, p4⟩ := p
  have nB : B Dl = none := fresh_back b1 nD
  refine ht H' p1 _ fun H3 e3 => ?_
  cases hf : f i with
  | true =>
    show te σ2 H3 fun y H4 => ∃ acc, H4 Dl = some (.lst acc) ∧ acc.length < sizeLine ∧ CwX K B H1 f g Dl (i + 1) (upd H4 Dl (.lst (acc ++ [y])))
    refine he hf H3 (p1.trans e3) _ fun y H4 e4 hy => ⟨acc, e4 Dl _ (e3 Dl _ p3), sz_lt (by rw [dxa_len p4]; have := givenD_len i f g; omega), Ex.mut ((p1.trans e3).trans e4) nB, Ex.mut ((p2.trans e3).trans e4) nD, _, upd_same, ?_⟩
    have k1 : Ex (ov B H3 H4) (ov B (upd H1 Dl (.lst [])) (upd H4 Dl (.lst (acc ++ [y])))) := fun a o ha => by
      unfold ov at ha ⊢
      cases h0 : B a with
      | some o' => rw [h0] at ha; exact ha
      | none =>
        rw [h0] at ha
        cases h3 : H3 a with
        | some o' => rw [h3] at ha; cases ha
        | none =>
          rw [h3] at ha
          have ne : a ≠ Dl := fun e => by
            rw [e, e3 Dl _ p3] at h3
            cases h3
          rw [upd_ne ne, fresh_back (p2.trans e3) h3]
          show upd H4 Dl _ a = some o
          rw [upd_ne ne]
          exact ha
    have k2 : Ex (ov B (upd H1 Dl (.lst [])) H') (ov B (upd H1 Dl (.lst [])) (upd H4 Dl (.lst (acc ++ [y])))) := fun a o ha => by
      unfold ov at ha ⊢
      cases h0 : B a with
      | some o' => rw [h0] at ha; exact ha
      | none =>
        rw [h0] at ha
        by_cases ne : a = Dl
        · rw [ne, upd_same] at ha
          cases ha
        · rw [upd_ne ne] at ha ⊢
          cases h1 : H1 a with
          | some o' => rw [h1] at ha; cases ha
          | none =>
            rw [h1] at ha
            show upd H4 Dl _ a = some o
            rw [upd_ne ne]
            exact e4 a o (e3 a o ha)
    rw [givenD_yes hf]
    exact dxa_app (dxa_mono k2 _ _ p4) (dxa_one (dx_mono k1 _ _ hy))
  | false =>
    show CwX K B H1 f g Dl (i + 1) H3
    refine ⟨p1.trans e3, p2.trans e3, acc, e3 Dl _ p3, ?_⟩
    rw [givenD_no hf]
    exact dxa_mono (ov_grow e3) _ _ p4
theorem cwX_start {B H1 : Hp} {f : Nat → Bool} {g : Nat → PyData} {Dl : Addr} (b1 : Ex B H1) (nD : H1 Dl = none) : CwX K B H1 f g Dl 0 (upd H1 Dl (.lst [])) := ⟨b1.trans (Ex.new nD), Ex.new nD, [], upd_same, .nil⟩
theorem cwX_end {B H1 H' : Hp} {f : Nat → Bool} {g : Nat → PyData} {Dl : Addr} {n : Nat} (p : CwX K B H1 f g Dl n H') : ∃ acc, H' Dl = some (.lst acc) ∧ DxAll K (ov B H1 H') acc (givenD n f g) := by
  obtain ⟨_, _, acc, p3, p4⟩ := p
  refine ⟨acc, p3, dxa_mono (fun a o ha => ?_) _ _ p4⟩
  unfold ov at ha ⊢
  cases h0 : B a with
  | some o' => rw [h0] at ha; exact ha
  | none =>
    rw [h0] at ha
    by_cases ne : a = Dl
    · rw [ne, upd_same] at ha
      cases ha
    · rw [upd_ne ne] at ha
      exact ha
theorem exn_lcR1 {ta : TA} {j : Nat} {vs : List Nat} {n : Int} (f : Nat → Bool) (g : Nat → PyData) (h : EvA ta σ H [.int n]) (hn : 0 ≤ n ∧ n ≤ 40000) (hw : ∀ x, wipe ((wipe σ vs).set j (some x)) vs = wipe σ vs)
    (ht : ∀ i : Nat, (i : Int) < n → EvT t ((wipe σ vs).set j (some (.int (i : Int)))) H (f i)) (he : ∀ i : Nat, (i : Int) < n → f i = true → EvX K te ((wipe σ vs).set j (some (.int (i : Int)))) H (g i)) :
    EvXN K (tLc (iRng1 ta) (gName j) t te vs) σ H (givenD n.toNat f g) := fun H0 e Q q => h H0 e _ fun H1 e1 => ⟨n, rfl, by omega, by omega, fun Dl hD =>
  lc_range (lo := 0) (n := n.toNat) (CwX K H H1 f g Dl) (cwX_start (e.trans e1) hD) (fun i H' hi p => by
    have e0 : (0 : Int) + (i : Int) = (i : Int) := Int.zero_add _
    show wipe ((wipe σ vs).set j (some (.int ((0 : Int) + (i : Int))))) vs = wipe σ vs ∧ t ((wipe σ vs).set j (some (.int ((0 : Int) + (i : Int))))) H' fun b H3 => if b = true then te ((wipe σ vs).set j (some (.int ((0 : Int) + (i : Int))))) H3 fun y H4 => ∃ acc, H4 Dl = some (.lst acc) ∧ acc.length < sizeLine ∧ CwX K H H1 f g Dl (i + 1) (upd H4 Dl (.lst (acc ++ [y]))) else CwX K H H1 f g Dl (i + 1) H3
    rw [e0]
    exact ⟨hw _, cwX_turn (e.trans e1) hD p (by omega) (ht i (by omega)) (fun hf => he i (by omega) hf)⟩) (fun H' p => by
      obtain ⟨acc, h1, h2⟩ := cwX_end p
      exact q Dl acc H' (fresh_back e1 hD) (e1.trans p.2.1) h1 (dxa_mono (ov_later e1) _ _ h2))⟩
end
end Ap

set_option Elab.async false
set_option linter.all false
set_option maxRecDepth 100000
set_option maxHeartbeats 2000000
namespace Ap
open PySem PySem.Spec PyProof.Rows L2 Evl
/-! ### a set comprehension whose items are keys (integers, texts): the library tells it of truth values alone -/
def emptySet (w : World) : Obj := { cls := .type "set", dict := none, data := .set #[] 0 (.fresh 0 0 (!w.params.followText "set-order")) }
theorem emptySet_of {P : Program} {w : World} {h : Heap} : (h.push (emptySet w)).SetOf (mixKind P w) h.objs.size (fun _ => false) 0 :=
  ⟨_, #[], 0, _, Heap.get?_push_size _ rfl, ⟨rfl, rfl, rfl⟩, rfl, (fun e he => by simp at he), (fun k => by simp), (by decide), (by rfl), rfl⟩
/-- the set of no keys at D -/
abbrev hp0 (P : Program) (w : World) (H : Hp) (D : Addr) : Hp := upd H D (SetK P w D (fun _ => false) 0)
/-- the set at D with one key more -/
def Adds (P : Program) (w : World) (D : Addr) (Nx : Hp → Prop) : VK := fun y H => ∃ (k : Key) (S : Key → Bool) (n : Nat), y = kV k ∧ H D = some (SetK P w D S n) ∧ n + 1 < scanBound ∧ Nx (upd H D (SetK P w D (fun j => S j || decide (j = k)) (if S k = true then n else n + 1)))
def ScTurns (P : Program) (w : World) (g : TG) (tt : TT) (te : TE) (τ : L2.St) (vs : List Nat) (D : Addr) (J : It) (Qe : Hp → Prop) (W : Nat → Nat → Hp → Prop) : Prop := ∀ i m H, W i m H →
  (J.stop i H ∧ Qe H) ∨ (J.go i H ∧ ∃ Nx : Hp → Prop, (∀ H', Nx H' → ∃ m', m' < m ∧ W (i + 1) m' H') ∧
    ∀ x H', J.yld i H x H' → g x τ H' fun σ2 H2 => wipe σ2 vs = τ ∧ tt σ2 H2 fun b H3 => if b = true then te σ2 H3 (Adds P w D Nx) else Nx H3)
def tScK (P : Program) (w : World) (wi : TI) (g : TG) (tt : TT) (te : TE) (vs : List Nat) : TE := fun σ H Q => wi σ H fun J H1 => ∀ D, H1 D = none → ∃ W : Nat → Nat → Hp → Prop, (∃ m, W 0 m (hp0 P w H1 D)) ∧ ScTurns P w g tt te (wipe σ vs) vs D J (fun H => Q (.ref D) H) W
section
variable {X : Cx}
theorem adds_ok {pins : List (Addr × Obj)} {σ : L2.St} {H : Hp} {s : Shared} {D : Addr} {Nx : Hp → Prop} {y : V} {u : Value} {E : Value → Shared → Prop} {A : Around} {Q : Value → Shared → Prop} (I : Inv X pins σ H s) (r : RelV y u) (a : Adds X.prog X.w D Nx y H)
    (h : ∀ H' s', Inv X pins σ H' s' → Nx H' → Q .none s') : wpAny (model X.prog X.w) A (call (.builtin "set.add") [.ref D, u]) Q E s := by
  obtain ⟨k, S, n, rfl, hD, room, nx⟩ := a
  refine call_set_add (kV_is r) (key_scan r) (setK_get I hD) room fun h' sb new => ?_
  obtain ⟨o, _, _, _, ho, _⟩ := id new
  exact h _ _ (I.write (e := D) (t' := s.toks + 1) (by rw [hD]; trivial) (.inl rfl) (fun b v hb hv => (sb.2 b hb).trans hv) ⟨o, ho⟩ (setK_new new)) nx
theorem pe_scK {elt tg iter : Expr} {ifs : List Expr} {scope : Scope} {own : List (PySem.Str × Nat)} {pos : Pos} {wi : TI} {g : TG} {tt : TT} {te : TE} (hc : X.calm = true) (hN : X.N.Nodup) (hi : PI X tg iter wi) (ok : BlkOk X.N X.env.scope scope own)
    (hg : ∀ (s : Shared) (H : Hp) (C : Addr) (cl : List (PySem.Str × Addr)) (fp : List Addr), PG (X.blk s H scope (compEnvC scope cl C X.env) fp) tg g) (ht : ∀ (s : Shared) (H : Hp) (C : Addr) (cl : List (PySem.Str × Addr)) (fp : List Addr), PTs (X.blk s H scope (compEnvC scope cl C X.env) fp) ifs tt)
    (he : ∀ (s : Shared) (H : Hp) (C : Addr) (cl : List (PySem.Str × Addr)) (fp : List Addr), PE (X.blk s H scope (compEnvC scope cl C X.env) fp) elt te) (hs : ∀ x, foldedSetIterable iter X.env x = pure x := by intro _; rfl) :
    PE X (.SetComp elt [⟨tg, iter, ifs, 0⟩] scope pos) (tScK X.prog X.w wi g tt te (own.map (·.2))) := by
  refine ⟨fun pins s σ H Q I h => ?_⟩
  rw [PpSet.eval_SetComp]
  -- the closure, the iterated thing, its iterator
  refine wpAny_comprehension_free (use := none) rfl hs (closure_ok fun y hy e => (ok.free y hy e).elim (fun k => I.ok.has _ (.inl k)) fun k => I.ok.has _ (.inr k)) ok.kind (fun y hy e => by rw [ok.uniq y hy, e])
    (thn (hi.run pins s σ H _ I h) fun xv s1 hx => thn hx fun itv s2 h2 => ?_)
  obtain ⟨it, fp, tn, J, H2, rfl, I2, T, st2, f2, q⟩ := h2
  -- the empty set
  refine PpSet.newSet_ok (newEnv_comp ?_)
  obtain ⟨D, hD⟩ : ∃ D, D = s2.heap.objs.size := ⟨_, rfl⟩
  rw [← hD]
  obtain ⟨W, ⟨m0, w0⟩, turn⟩ := q D (I2.hok.fresh (Nat.le_of_eq hD.symm))
  obtain ⟨s3, h3⟩ : ∃ s3 : Shared, s3 = { s2 with heap := s2.heap.push (emptySet X.w) } := ⟨_, rfl⟩
  have hs3 : s3.heap = s2.heap.push (emptySet X.w) := by rw [h3]
  have kp3 : ∀ b o, s2.heap.get? b = some o → s3.heap.get? b = some o := fun b o e => by rw [hs3]; exact Heap.get?_push_of_some _ e
  have I3 : Inv X pins σ (hp0 X.prog X.w H2 D) s3 := by
    rw [h3]
    refine I2.laid (t' := s2.toks) (fun b o e => Heap.get?_push_of_some _ e) (Nat.le_of_eq hD.symm) ?_
    rw [hD]
    exact setK_new emptySet_of
  obtain ⟨H3, hH3⟩ : ∃ H3, H3 = hp0 X.prog X.w H2 D := ⟨_, rfl⟩
  rw [← hH3] at I3 w0
  -- what the iterator keeps stays apart from it
  have f3 : ∀ b ∈ fp, FpOk X pins H3 b ∧ b < s3.heap.objs.size := fun b hb => by
    obtain ⟨o, e, _⟩ := T.obj _ _ st2 b hb
    have hlt := Heap.lt_size e
    refine ⟨⟨?_, (f2 b hb).2⟩, by rw [hs3, Heap.size_push]; exact Nat.lt_succ_of_lt hlt⟩
    rw [hH3]
    show upd H2 D _ b = none
    rw [upd_ne (by rw [hD]; exact Nat.ne_of_lt hlt)]
    exact (f2 b hb).1
  have n3 : ∀ b ∈ fp, H3 b = none := fun b hb => (f3 b hb).1.1
  -- the block's own variables
  have I4 := block_start I3 ok hN f3
  show codeAny _ _ (.compStart (.SetComp elt [⟨tg, iter, ifs, 0⟩] scope pos) 0 (.ref it) (.ref D) (compEnvC scope (cellsFrom ((s2.heap.push (emptySet X.w)).objs.size + 1) scope.names (cloFrom X.env.cells scope.names [])) (s2.heap.push (emptySet X.w)).objs.size X.env)) (compPost (model X.prog X.w) X.A X.xe none (EP X pins σ Q) (.ref D) (s2.heap.push (emptySet X.w)).objs.size) { s2 with heap := pushCells ((s2.heap.push (emptySet X.w)).push { cls := .type "dict", data := .dict #[] }) scope.names }
  rw [← hs3, show ({ s2 with heap := pushCells (s3.heap.push { cls := .type "dict", data := .dict #[] }) scope.names } : Shared) = { s3 with heap := pushCells (s3.heap.push { cls := .type "dict", data := .dict #[] }) scope.names } by rw [h3]]
  have pg := hg s3 H3 s3.heap.objs.size (cellsFrom (s3.heap.objs.size + 1) scope.names (cloFrom X.env.cells scope.names [])) fp
  have pt := ht s3 H3 s3.heap.objs.size (cellsFrom (s3.heap.objs.size + 1) scope.names (cloFrom X.env.cells scope.names [])) fp
  have pe := he s3 H3 s3.heap.objs.size (cellsFrom (s3.heap.objs.size + 1) scope.names (cloFrom X.env.cells scope.names [])) fp
  have st4 : tn 0 (pushCells (s3.heap.push { cls := .type "dict", data := .dict #[] }) scope.names) := T.keep _ _ _ st2 fun b _ o e => pushCells_keeps _ _ _ _ (Heap.get?_push_of_some _ (kp3 b o e))
  generalize hce : compEnvC scope (cellsFrom (s3.heap.objs.size + 1) scope.names (cloFrom X.env.cells scope.names [])) s3.heap.objs.size X.env = ce at I4 pg pt pe ⊢
  have cL : ce.locals = s3.heap.objs.size := by subst hce; rfl
  generalize hs4 : ({ s3 with heap := pushCells (s3.heap.push { cls := .type "dict", data := .dict #[] }) scope.names } : Shared) = s4 at I4 ⊢
  have st4 : tn 0 s4.heap := by
    rw [← hs4]
    exact st4
  have fpk : ∀ {τ : L2.St} {H' : Hp} {s' : Shared}, Inv (X.blk s3 H3 scope ce fp) [] τ H' s' → (∀ b ∈ fp, H' b = none) → ∀ b ∈ fp, FpOk (X.blk s3 H3 scope ce fp) [] H' b := fun I' nn b hb =>
    ⟨nn b hb, (I'.ok.exf b hb).1, I'.ok.exfs b hb, .inl hb, fun x c e => (I'.ok.exf b hb).2 x c e, fun p hp => absurd (show p ∈ ([] : List (Addr × Obj)) ++ [] from hp) (by simp)⟩
  -- the loop
  have loop : codeAny (model X.prog X.w) X.A (.compLoop (.SetComp elt [⟨tg, iter, ifs, 0⟩] scope pos) 0 (.ref it) (.ref D) ce) (compPost (model X.prog X.w) X.A X.xe none (EP X pins σ Q) (.ref D) s3.heap.objs.size) s4 := by
    refine PpSet.compLoopS_any (fun n s' => ∃ i H', Inv (X.blk s3 H3 scope ce fp) [] (wipe σ (own.map (·.2))) H' s' ∧ tn i s'.heap ∧ (∀ b ∈ fp, H' b = none) ∧ W i n H') ?_ m0 ⟨0, H3, I4, st4, n3, w0⟩
    rintro n s5 ⟨i, H5, I5, st5, n5, w5⟩
    rcases turn i n H5 w5 with ⟨stop, qe⟩ | ⟨go, Nx, hNx, step⟩
    · -- it is through: back in the block around
      refine thnF (T.done (X.blk s3 H3 scope ce fp) rfl rfl rfl hc i [] s5 _ H5 (fun _ _ => False) I5 (fpk I5 n5) st5 stop) fun r s6 ⟨hr, I6⟩ => ?_
      subst hr
      obtain ⟨m, hn, _⟩ := I6.loc
      have hn : s6.heap.Ns s3.heap.objs.size m := cL ▸ (show s6.heap.Ns ce.locals m from hn)
      have nC : H5 s3.heap.objs.size = none := cL ▸ (show H5 ce.locals = none from I6.free)
      have I7 : Inv X pins σ H5 s6 := I3.call' (ch := fp) I6.os I6.base I6.hok I6.bare fun b hb => ⟨(f3 b hb).1.2.2.2.1, (f3 b hb).1.2.1, (f3 b hb).1.2.2.2.2.1, (f3 b hb).1.2.2.2.2.2⟩
      obtain ⟨k0, k1, k2, k3, k4, k5⟩ := I3.fpOk (Nat.le_refl _) nC
      exact ⟨m, hn, fun h'' sb => ⟨.ref D, H5, I7.turned (t' := s6.toks) (fun b o hb e => (sb.2 b hb).trans e) k0 k1 k3 k4 k5, rfl, qe⟩⟩
    · -- one item more
      refine thnF (T.item (X.blk s3 H3 scope ce fp) rfl rfl rfl hc i [] s5 _ H5 (fun _ _ => False) I5 (fpk I5 n5) st5 go) fun r s6 ⟨u, hr, h6⟩ => ?_
      subst hr
      refine thnF h6 fun _ s7 ⟨x, H7, I7, r7, y7, st7, n7⟩ => ?_
      refine thnF (pg.run _ s7 _ H7 x u _ (I7.pinned (fpk I7 n7) (T.obj _ _ st7)) r7 (step x H7 y7)) fun _ s8 ⟨σ8, H8, I8, hw8, q8⟩ => ?_
      refine thnF (pt.run _ s8 σ8 H8 _ I8 q8) fun b s9 ⟨H9, I9, q9⟩ => ?_
      have fin : ∀ (s' : Shared) (H' : Hp), Inv (X.blk s3 H3 scope ce fp) ([] ++ pinsAt fp s7.heap) σ8 H' s' → Nx H' → ∃ m, m < n ∧ ∃ i H', Inv (X.blk s3 H3 scope ce fp) [] (wipe σ (own.map (·.2))) H' s' ∧ tn i s'.heap ∧ (∀ b ∈ fp, H' b = none) ∧ W i m H' := fun s' H' I' nx => by
        have pin' : ∀ b ∈ fp, ∀ o, s7.heap.get? b = some o → s'.heap.get? b = some o ∧ H' b = none := fun b hb o e =>
          have z := I'.pin (b, o) (List.mem_append_right _ (List.mem_append_right _ (mem_pinsAt hb e)))
          ⟨z.1, z.2.1⟩
        obtain ⟨m', hm, w'⟩ := hNx H' nx
        exact ⟨m', hm, i + 1, H', (I'.unpinned (pins := [])).weak (by rw [← hw8, wipe_length]) (fun j v e => (wipe_some (hw8.symm ▸ e)).1), T.keep _ _ _ st7 fun b hb o e => (pin' b hb o e).1, fun b hb => by
          obtain ⟨o, e, _⟩ := T.obj _ _ st7 b hb
          exact (pin' b hb o e).2, w'⟩
      cases b with
      | false =>
        simp only [Bool.false_eq_true, if_false] at q9 ⊢
        exact fin s9 H9 I9 q9
      | true =>
        simp only [if_true] at q9 ⊢
        exact thnF (pe.run _ s9 σ8 H9 _ I9 q9) fun z s10 ⟨y, H10, I10, r10, ad⟩ => adds_ok (X := X.blk s3 H3 scope ce fp) I10 r10 ad fun H' s11 I11 nx => fin s11 H' I11 nx
  exact PpSet.codeAny_compStart_set loop (T.self X.A 0 _ _ _ st4 loop)
/-- len of a set of keys -/
def rLenK (P : Program) (w : World) : List V → Hp → VK → Prop := fun xs H Q => ∃ (a : Addr) (S : Key → Bool) (n : Nat), xs = [V.ref a] ∧ H a = some (SetK P w a S n) ∧ Q (.int (n : Int)) H
theorem call_lenK : CallR X (.builtin "len") (rLenK X.prog X.w) := by
  intro pins s σ H xs us Q I r h
  obtain ⟨a, S, n, rfl, ha, q⟩ := h
  obtain ⟨u, rfl, rx⟩ := vals1 r
  cases rx
  obtain ⟨o, es, ep, t, ho, hex, hd, _, _, hb, hf, rfl⟩ := setK_get I ha
  exact call_len_set ho hex hd hf (by have : scanBound = 4096 := rfl; omega) ⟨.int es.size, H, I.tok _, ⟨s.toks + 1, rfl⟩, q⟩
end
/-! ### the set of those items of a list of integers that pass a test -/
def keyOfI (k : Key) : Option Int := match k with
  | .inl i => some i
  | .inr _ => none
def setStep (f : Int → Bool) (p : (Key → Bool) × Nat) (x : Int) : (Key → Bool) × Nat := if f x = true then (fun j => p.1 j || decide (j = Sum.inl x), if p.1 (Sum.inl x) = true then p.2 else p.2 + 1) else p
def setSt (f : Int → Bool) (ns : List Int) : (Key → Bool) × Nat := ns.foldl (setStep f) (fun _ => false, 0)
theorem setSt_snoc (f : Int → Bool) (ns : List Int) (x : Int) : setSt f (ns ++ [x]) = setStep f (setSt f ns) x := by
  unfold setSt
  rw [List.foldl_append]
  rfl
theorem setSt_le (f : Int → Bool) : ∀ ns : List Int, (setSt f ns).2 ≤ ns.length := fun ns => by
  suffices h : ∀ (ns : List Int) (p : (Key → Bool) × Nat), (ns.foldl (setStep f) p).2 ≤ p.2 + ns.length by
    have := h ns (fun _ => false, 0)
    simpa [setSt] using this
  intro ns
  induction ns with
  | nil => intro p; simp
  | cons x r ih =>
    intro p
    have h1 := ih (setStep f p x)
    have h2 : (setStep f p x).2 ≤ p.2 + 1 := by
      unfold setStep
      split
      · dsimp only
        split <;> omega
      · omega
    simp only [List.foldl_cons, List.length_cons]
    omega
/-- its items are as many as it tells -/
theorem setSt_acc (f : Int → Bool) (ns : List Int) : ∃ acc : List Int, acc.Nodup ∧ (setSt f ns).2 = acc.length ∧ (∀ x, (setSt f ns).1 (Sum.inl x) = true ↔ x ∈ acc) ∧ ∀ x, x ∈ acc ↔ x ∈ ns ∧ f x = true := by
  suffices h : ∀ (ns : List Int) (p : (Key → Bool) × Nat) (a0 : List Int), a0.Nodup → p.2 = a0.length → (∀ x, p.1 (Sum.inl x) = true ↔ x ∈ a0) → ∃ acc : List Int, acc.Nodup ∧ (ns.foldl (setStep f) p).2 = acc.length ∧ (∀ x, (ns.foldl (setStep f) p).1 (Sum.inl x) = true ↔ x ∈ acc) ∧ ∀ x, x ∈ acc ↔ x ∈ a0 ∨ (x ∈ ns ∧ f x = true) by
    obtain ⟨acc, h1, h2, h3, h4⟩ := h ns (fun _ => false, 0) [] List.nodup_nil rfl (fun x => by simp)
    exact ⟨acc, h1, h2, h3, fun x => (h4 x).trans (by simp)⟩
  intro ns
  induction ns with
  | nil => exact fun p a0 h1 h2 h3 => ⟨a0, h1, h2, h3, fun x => by simp⟩
  | cons y r ih =>
    intro p a0 h1 h2 h3
    rw [List.foldl_cons]
    by_cases hf : f y = true
    · by_cases hy : y ∈ a0
      · obtain ⟨acc, k1, k2, k3, k4⟩ := ih (setStep f p y) a0 h1 (by unfold setStep; rw [if_pos hf]; show (if p.1 (Sum.inl y) = true then p.2 else p.2 + 1) = _; rw [if_pos ((h3 y).mpr hy), h2]) (fun x => by
          unfold setStep
          rw [if_pos hf]
          show (p.1 (Sum.inl x) || decide ((Sum.inl x : Key) = Sum.inl y)) = true ↔ _
          rw [Bool.or_eq_true, h3 x, decide_eq_true_iff]
          exact ⟨fun h => h.elim id fun e => by rw [Sum.inl.inj e]; exact hy, .inl⟩)
        refine ⟨acc, k1, k2, k3, fun x => (k4 x).trans ⟨fun h => h.elim .inl fun h => .inr ⟨List.mem_cons_of_mem _ h.1, h.2⟩, fun h => h.elim .inl fun h => ?_⟩⟩
        rcases List.mem_cons.mp h.1 with e | m
        · exact .inl (e ▸ hy)
        · exact .inr ⟨m, h.2⟩
      · obtain ⟨acc, k1, k2, k3, k4⟩ := ih (setStep f p y) (y :: a0) (List.nodup_cons.mpr ⟨hy, h1⟩) (by unfold setStep; rw [if_pos hf]; show (if p.1 (Sum.inl y) = true then p.2 else p.2 + 1) = _; rw [if_neg (fun q => hy ((h3 y).mp q)), h2]; rfl) (fun x => by
          unfold setStep
          rw [if_pos hf]
          show (p.1 (Sum.inl x) || decide ((Sum.inl x : Key) = Sum.inl y)) = true ↔ _
          rw [Bool.or_eq_true, h3 x, decide_eq_true_iff, List.mem_cons]
          exact ⟨fun h => h.elim .inr fun e => .inl (Sum.inl.inj e), fun h => h.elim (fun e => .inr (by rw [e])) .inl⟩)
        refine ⟨acc, k1, k2, k3, fun x => (k4 x).trans ⟨fun h => ?_, fun h => ?_⟩⟩
        · rcases h with h | h
          · rcases List.mem_cons.mp h with e | m
            · exact .inr ⟨e ▸ List.mem_cons_self, e ▸ hf⟩
            · exact .inl m
          · exact .inr ⟨List.mem_cons_of_mem _ h.1, h.2⟩
        · rcases h with h | h
          · exact .inl (List.mem_cons_of_mem _ h)
          · rcases List.mem_cons.mp h.1 with e | m
            · exact .inl (e ▸ List.mem_cons_self)
            · exact .inr ⟨m, h.2⟩
    · obtain ⟨acc, k1, k2, k3, k4⟩ := ih p a0 h1 h2 h3
      have e0 : setStep f p y = p := if_neg hf
      rw [e0]
      refine ⟨acc, k1, k2, k3, fun x => (k4 x).trans ⟨fun h => h.elim .inl fun h => .inr ⟨List.mem_cons_of_mem _ h.1, h.2⟩, fun h => h.elim .inl fun h => ?_⟩⟩
      rcases List.mem_cons.mp h.1 with e | m
      · exact absurd (e ▸ h.2) hf
      · exact .inr ⟨m, h.2⟩
section
variable {P : Program} {w : World} {K : PySem.W.Frag} {σ : L2.St} {H : Hp} {tl : TE} {t : TT} {te : TE}
/-- len({x for x in xs if ..}) of a list of integers -/
theorem ev_lenSc {a : Addr} {ns : List Int} {j : Nat} {vs : List Nat} (f : Int → Bool) (h : Ev tl σ H (.ref a)) (hx : SqL K H a (ns.map V.int)) (hz : ns.length ≤ 1000) (hw : ∀ x, wipe ((wipe σ vs).set j (some x)) vs = wipe σ vs)
    (ht : ∀ x : Int, EvT t ((wipe σ vs).set j (some (.int x))) H (f x)) (he : ∀ x : Int, Ev te ((wipe σ vs).set j (some (.int x))) H (.int x)) :
    Ev (tCB (rLenK P w) (tCons (tScK P w (iList K tl) (gName j) t te vs) tNil)) σ H (.int ((setSt f ns).2 : Int)) := fun H1 e Q q => h H1 e _ fun H2 e2 => ⟨a, rfl, ⟨_, ex_l (e.trans e2) hx⟩, fun D hD => by
    refine ⟨fun i m H' => m = ns.length - i ∧ i ≤ ns.length ∧ Ex H2 H' ∧ H' D = some (SetK P w D (setSt f (ns.take i)).1 (setSt f (ns.take i)).2), ⟨ns.length, rfl, Nat.zero_le _, Ex.new hD, upd_same⟩, ?_⟩
    rintro i m H' ⟨rfl, hi, e3, hS⟩
    have hx' : SqL K H' a (ns.map V.int) := ex_l ((e.trans e2).trans e3) hx
    by_cases hlt : i < ns.length
    · have hni : (ns.map V.int)[i]? = some (.int ns[i]) := by rw [List.getElem?_map, List.getElem?_eq_getElem hlt]; rfl
      have htk : ns.take (i + 1) = ns.take i ++ [ns[i]] := by rw [List.take_succ, List.getElem?_eq_getElem hlt]; rfl
      refine .inr ⟨⟨_, _, hx', hni⟩, fun H3 => Ex H2 H3 ∧ H3 D = some (SetK P w D (setSt f (ns.take (i + 1))).1 (setSt f (ns.take (i + 1))).2), fun H3 p => ⟨ns.length - (i + 1), by omega, rfl, hlt, p⟩, fun x H3 y => ?_⟩
      obtain ⟨rfl, y⟩ := y
      have ex := Option.some.inj ((y _ hx').symm.trans hni)
      subst ex
      refine ⟨hw _, ht _ H3 ((e.trans e2).trans e3) _ fun H4 e4 => ?_⟩
      rw [htk, setSt_snoc]
      unfold setStep
      cases hf : f ns[i] with
      | true =>
        show te _ H4 _
        refine he _ H4 (((e.trans e2).trans e3).trans e4) _ fun H5 e5 => ⟨Sum.inl ns[i], _, _, rfl, e5 _ _ (e4 _ _ hS), ?_, ?_⟩
        · have h1 := setSt_le f (ns.take i)
          have h2 : (ns.take i).length ≤ ns.length := by rw [List.length_take]; omega
          have : scanBound = 4096 := rfl
          omega
        · rw [if_pos rfl]
          exact ⟨Ex.mut ((e3.trans e4).trans e5) hD, upd_same⟩
      | false =>
        show Ex H2 H4 ∧ _
        rw [if_neg (by decide)]
        exact ⟨e3.trans e4, e4 _ _ hS⟩
    · have ei : i = ns.length := by omega
      subst ei
      rw [List.take_length] at hS
      exact .inl ⟨⟨_, hx', by rw [List.length_map]; exact Nat.le_refl _⟩, D, _, _, rfl, hS, q H' (e2.trans e3)⟩⟩
end
end Ap

set_option Elab.async false
set_option linter.all false
set_option maxRecDepth 100000
namespace Ap
open PySem PySem.Spec PyProof.Rows L2 Evl
/-! ### values: what is_integer, is_text, is_value, is_deed, is_record say of any object -/
def tyN : PyData → String
  | .none => "NoneType"
  | .bool _ => "bool"
  | .int _ => "int"
  | .str _ => "str"
  | .list _ => "list"
  | .tuple _ => "tuple"
  | .dict _ => "dict"
theorem tyx_dx {K : PySem.W.Frag} {H : Hp} : ∀ {d : PyData} {v : V}, Dx K H v d → TyX K H v (.type (tyN d))
  | _, _, .non => .base .non
  | _, _, .bl b => .base (.bl b)
  | _, _, .int i => .base (.int i)
  | _, _, .str x => .base (.str x)
  | _, _, .lst hs _ => by
    rcases hs with (h | ⟨o, h⟩) | ⟨o, its, n, h, hc, _⟩
    · exact .base (.lst h)
    · exact .base (.frz h)
    · exact .kList h hc
  | _, _, .tup hs _ => by
    rcases hs with (h | ⟨o, h⟩) | ⟨o, its, n, h, hc, _⟩
    · exact .base (.tup h)
    · exact .fTuple h
    · exact .kTuple h hc
  | _, _, .dic h => .base (.dK h)
def isInt : PyData → Bool
  | .int _ => true
  | .bool _ => true
  | _ => false
def isBoo : PyData → Bool
  | .bool _ => true
  | _ => false
def isStr : PyData → Bool
  | .str _ => true
  | _ => false
def isTup : PyData → Bool
  | .tuple _ => true
  | _ => false
theorem kit_int : ∀ d : PyData, kitB (tyN d) "int" = some (isInt d)
  | .none => (by decide +kernel : kitB "NoneType" "int" = some false)
  | .bool _ => (by decide +kernel : kitB "bool" "int" = some true)
  | .int _ => (by decide +kernel : kitB "int" "int" = some true)
  | .str _ => (by decide +kernel : kitB "str" "int" = some false)
  | .list _ => (by decide +kernel : kitB "list" "int" = some false)
  | .tuple _ => (by decide +kernel : kitB "tuple" "int" = some false)
  | .dict _ => (by decide +kernel : kitB "dict" "int" = some false)
theorem kit_bool : ∀ d : PyData, kitB (tyN d) "bool" = some (isBoo d)
  | .none => (by decide +kernel : kitB "NoneType" "bool" = some false)
  | .bool _ => (by decide +kernel : kitB "bool" "bool" = some true)
  | .int _ => (by decide +kernel : kitB "int" "bool" = some false)
  | .str _ => (by decide +kernel : kitB "str" "bool" = some false)
  | .list _ => (by decide +kernel : kitB "list" "bool" = some false)
  | .tuple _ => (by decide +kernel : kitB "tuple" "bool" = some false)
  | .dict _ => (by decide +kernel : kitB "dict" "bool" = some false)
theorem kit_str : ∀ d : PyData, kitB (tyN d) "str" = some (isStr d)
  | .none => (by decide +kernel : kitB "NoneType" "str" = some false)
  | .bool _ => (by decide +kernel : kitB "bool" "str" = some false)
  | .int _ => (by decide +kernel : kitB "int" "str" = some false)
  | .str _ => (by decide +kernel : kitB "str" "str" = some true)
  | .list _ => (by decide +kernel : kitB "list" "str" = some false)
  | .tuple _ => (by decide +kernel : kitB "tuple" "str" = some false)
  | .dict _ => (by decide +kernel : kitB "dict" "str" = some false)
theorem kit_tup : ∀ d : PyData, kitB (tyN d) "tuple" = some (isTup d)
  | .none => (by decide +kernel : kitB "NoneType" "tuple" = some false)
  | .bool _ => (by decide +kernel : kitB "bool" "tuple" = some false)
  | .int _ => (by decide +kernel : kitB "int" "tuple" = some false)
  | .str _ => (by decide +kernel : kitB "str" "tuple" = some false)
  | .list _ => (by decide +kernel : kitB "list" "tuple" = some false)
  | .tuple _ => (by decide +kernel : kitB "tuple" "tuple" = some true)
  | .dict _ => (by decide +kernel : kitB "dict" "tuple" = some false)
section
variable {K : PySem.W.Frag} {σ : L2.St} {H : Hp} {te : TE} {d : PyData} {T : String} {b : Bool}
theorem ev_isiX (h : EvX K te σ H d) (k : kitB (tyN d) T = some b) : Ev (tCB (rIsi K) (tCons te (tCons (tC (.ty T)) tNil))) σ H (.bl b) := fun H1 e Q q => h H1 e _ fun v H2 e2 hv =>
  ⟨v, .ty T, .type (tyN d), .type T, b, rfl, .ty T, tyx_dx (dx_mono (ov_ex e e2) d v hv), kit_ty k, q H2 e2⟩
end
/-- bounded: texts, lists and tuples of at most 1000, at most n deep -/
inductive Okd : Nat → PyData → Prop
  | non {n : Nat} : Okd n .none
  | bl {n : Nat} (b : Bool) : Okd n (.bool b)
  | int {n : Nat} (i : Int) : Okd n (.int i)
  | str {n : Nat} {x : Str} (h : x.length ≤ 1000) : Okd n (.str x)
  | dic {n : Nat} {kvs : List (PyData × PyData)} : Okd n (.dict kvs)
  | lst {n : Nat} {ds : List PyData} (h : ds.length ≤ 1000) (hs : ∀ d, d ∈ ds → Okd n d) : Okd (n + 1) (.list ds)
  | tup {n : Nat} {ds : List PyData} (h : ds.length ≤ 1000) (hs : ∀ d, d ∈ ds → Okd n d) : Okd (n + 1) (.tuple ds)
def isI : PyData → Bool
  | .int i => decide (-(10 ^ 18) ≤ i) && decide (i ≤ 10 ^ 18)
  | _ => false
def chOk (c : Nat) : Bool := (decide ((32 : Int) ≤ (c : Int)) && decide ((c : Int) ≤ 126)) && !decide (V.int (c : Int) = V.int 37)
def isT : PyData → Bool
  | .str x => decide (x.length ≤ 200) && x.cps.toList.all chOk
  | _ => false
def isP (d : PyData) : Bool := isI d || isT d
mutual
def isV : PyData → Bool
  | .tuple ds => isVs ds
  | d => isP d
def isVs : List PyData → Bool
  | [] => true
  | d :: ds => isV d && isVs ds
end
theorem isVs_iff : ∀ ds : List PyData, isVs ds = ds.all isV
  | [] => rfl
  | d :: ds => by simp [isVs, isVs_iff ds]
def isN (d : PyData) : Bool := isI d && (match d with
  | .int i => decide (0 ≤ i)
  | _ => false)
section
variable {K : PySem.W.Frag} {σ : L2.St} {H : Hp} {te tl : TE} {t : TT}
/-- [f(c) for c in text] -/
theorem el_lcS {j : Nat} {vs : List Nat} {z : Str} (v : Nat → V) (h : Ev tl σ H (.str z)) (hz : z.cps.size ≤ 40000) (hw : ∀ x, wipe ((wipe σ vs).set j (some x)) vs = wipe σ vs) (ht : ∀ (c : Nat) H1, Ex H H1 → EvT t ((wipe σ vs).set j (some (.str ⟨#[c]⟩))) H1 true)
    (he : ∀ (i c : Nat) H1, Ex H H1 → z.cps[i]? = some c → Ev te ((wipe σ vs).set j (some (.str ⟨#[c]⟩))) H1 (v i)) : EvL (tLc (iStr tl) (gName j) t te vs) σ H (given z.cps.size (fun _ => true) v) := fun H0 e Q q => h H0 e _ fun H1 e1 => ⟨z, rfl, fun Dl hD =>
  lc_it walk_str (Cw H1 (fun _ => true) v Dl) ⟨hD, Ex.new hD, upd_same⟩ (fun _ _ _ _ => trivial) (fun i x H2 H' hi p y => by
    obtain ⟨rfl, c, hc, rfl⟩ := y
    exact ⟨hw _, cw_turn p (by omega) (ht c H1 (e.trans e1)) (fun _ => he i c H1 (e.trans e1) hc)⟩) (fun H' p => q Dl H' (fresh_back e1 p.1) (e1.trans p.2.1) p.2.2)⟩
/-- for c in text -/
theorem q_forS {D : Ends} {tz tu : TS} {j : Nat} {z : Str} (h : Ev tl σ H (.str z)) (Pv : Nat → L2.St → Hp → Prop) (h0 : ∀ H1, Ex H H1 → Pv 0 σ H1) (hs : ∀ (i c : Nat) σ' H', z.cps[i]? = some c → Pv i σ' H' → tu { D with nx := Pv (i + 1), ct := Pv (i + 1), bk := tz D } (σ'.set j (some (.str ⟨#[c]⟩))) H') (hd : ∀ σ' H', Pv z.cps.size σ' H' → tz D σ' H') :
    tSeq (tFor (iStr tl) (gName j) tu) tz D σ H := h H (Ex.refl H) _ fun H1 e => ⟨z, rfl, for_it walk_str Pv (h0 H1 e) (fun _ _ _ _ _ => trivial) (fun i x σ' H2 H' hi p y => by
    obtain ⟨rfl, c, hc, rfl⟩ := y
    exact hs i c σ' _ hc p) hd⟩
theorem ev_all {bs : List Bool} (h : EvL tl σ H (bs.map V.bl)) : Ev (tCB (rAll K) (tCons tl tNil)) σ H (.bl (bs.all id)) := fun H1 e Q q => h H1 e _ fun p H2 np e2 hp => ⟨p, bs, rfl, sq_of hp, q H2 e2⟩
theorem rc_lenS {z : Str} (h : z.length ≤ 100000) : RC (fun xs H Q => ∃ z, xs = [.str z] ∧ z.length ≤ sizeLine ∧ Q (.int z.length) H) [.str z] H (.int (z.length : Int)) := fun H1 _ Q q => ⟨z, rfl, sz_of h, q H1 (Ex.refl H1)⟩
theorem rc_ordS {x : Str} {n : Nat} (h : x.length = 1) (hn : x.cps.getD 0 0 = n) : RC (fun xs H Q => ∃ x : Str, xs = [.str x] ∧ x.length = 1 ∧ Q (.int (x.cps.getD 0 0 : Nat)) H) [.str x] H (.int (n : Int)) := fun H1 _ Q q => ⟨x, rfl, h, by rw [hn]; exact q H1 (Ex.refl H1)⟩
theorem rc_ord {c : Nat} : RC (fun xs H Q => ∃ x : Str, xs = [.str x] ∧ x.length = 1 ∧ Q (.int (x.cps.getD 0 0 : Nat)) H) [.str ⟨#[c]⟩] H (.int (c : Int)) := fun H1 _ Q q => ⟨⟨#[c]⟩, rfl, rfl, q H1 (Ex.refl H1)⟩
theorem all_given (z : Str) (f : Nat → Bool) : ∃ bs : List Bool, given z.cps.size (fun _ => true) (fun i => V.bl (f (z.cps.getD i 0))) = bs.map V.bl ∧ bs.all id = z.cps.toList.all f := by
  refine ⟨z.cps.toList.map f, ?_, by rw [List.all_map]; rfl⟩
  unfold given
  rw [List.filter_eq_self.mpr (fun _ _ => rfl)]
  refine List.ext_getElem (by simp) (fun i h1 h2 => ?_)
  have h1 : i < z.cps.size := by simpa using h1
  simp [Array.getD, h1]
end
section
variable {K : PySem.W.Frag} {σ : L2.St} {H : Hp} {te tl : TE} {t : TT}
/-- [e for x in a tuple] -/
theorem el_lcT {a : Addr} {xs : List V} {j : Nat} {vs : List Nat} (v : Nat → V) (h : Ev tl σ H (.ref a)) (hx : SqT K H a xs) (hz : xs.length ≤ 40000) (hw : ∀ x, wipe ((wipe σ vs).set j (some x)) vs = wipe σ vs) (ht : ∀ (x : V) H1, Ex H H1 → EvT t ((wipe σ vs).set j (some x)) H1 true)
    (he : ∀ (i : Nat) (x : V) H1, Ex H H1 → xs[i]? = some x → Ev te ((wipe σ vs).set j (some x)) H1 (v i)) : EvL (tLc (iTup K tl) (gName j) t te vs) σ H (given xs.length (fun _ => true) v) := fun H0 e Q q => h H0 e _ fun H1 e1 => ⟨a, rfl, ⟨xs, ex_t (e.trans e1) hx⟩, fun Dl hD =>
  lc_it (walk_tup (xs := xs)) (Cw H1 (fun _ => true) v Dl) ⟨hD, Ex.new hD, upd_same⟩ (fun _ _ _ p => ex_t ((e.trans e1).trans p.2.1) hx) (fun i x H2 H' hi p y => by
    obtain ⟨rfl, hxi⟩ := y
    exact ⟨hw _, cw_turn p (by omega) (ht x H1 (e.trans e1)) (fun _ => he i x H1 (e.trans e1) hxi)⟩) (fun H' p => q Dl H' (fresh_back e1 p.1) (e1.trans p.2.1) p.2.2)⟩
theorem q_forTn {D : Ends} {tz tu : TS} {a : Addr} {xs : List V} {j : Nat} (h : Ev tl σ H (.ref a)) (hx : SqT K H a xs) (Pv : Nat → L2.St → Hp → Prop) (h0 : ∀ H1, Ex H H1 → Pv 0 σ H1) (hl : ∀ i σ' H', i ≤ xs.length → Pv i σ' H' → SqT K H' a xs)
    (hs : ∀ i x σ' H', xs[i]? = some x → Pv i σ' H' → tu { D with nx := Pv (i + 1), ct := Pv (i + 1), bk := tz D } (σ'.set j (some x)) H') (hd : ∀ σ' H', Pv xs.length σ' H' → tz D σ' H') : tSeq (tFor (iTup K tl) (gName j) tu) tz D σ H := q_forT h hx Pv h0 hl hs hd
theorem given_map (ds : List PyData) (g : PyData → Bool) : given ds.length (fun _ => true) (fun i => V.bl (g (ds.getD i .none))) = (ds.map g).map V.bl := by
  unfold given
  rw [List.filter_eq_self.mpr (fun _ _ => rfl)]
  refine List.ext_getElem (by simp) (fun i h1 h2 => ?_)
  have h1 : i < ds.length := by simpa using h1
  simp [h1]
theorem fn_false {P : Program} {w : World} {K : PySem.W.Frag} {mg : Str → Option Value} {base : Heap} {CX : CXT} {k : Nat} {f : Addr} {fd : FuncData} {ps : List Str} : FnOk P w K mg base CX k f fd ps (fun _ _ _ _ => False) := ⟨fun _ _ _ _ h => h.elim, fun _ _ _ _ _ _ _ _ _ _ _ _ _ h => h.elim⟩
end
def neS : PyData → Bool
  | .str x => !decide (V.str x = V.str "")
  | _ => false
def isDeed : PyData → Bool
  | .tuple ds => ((decide (1 ≤ (ds.length : Int)) && decide ((ds.length : Int) ≤ 4)) && (isT (ds.getD 0 .none) && neS (ds.getD 0 .none))) && ds.all isP
  | _ => false
def geB (k : Int) : PyData → Bool
  | .int i => decide (i ≥ k)
  | _ => false
def isRec : PyData → Bool
  | .tuple ds => decide (ds.length = 3) && (isN (ds.getD 0 .none) && (isN (ds.getD 1 .none) && (geB 1 (ds.getD 1 .none) && isDeed (ds.getD 2 .none))))
  | _ => false
end Ap

set_option Elab.async false
set_option linter.all false
set_option maxRecDepth 100000
namespace Ap
open PySem PySem.Spec PyProof.Rows L2 Evl ClX
/-! ### C.m(..), m a static method of the class at C, that may raise -/
structure SMet (K : PySem.W.Frag) (C : Addr) (mc : Value) (m : Str) (p g : Addr) : Prop where
  at_ : PySem.W.findCls K (.ref C) mc m = some (.get (.builtin "staticmethod.__get__") (.ref p) .none (.ref C))
  rc : ∃ rest, PySem.W.recIn K p "staticmethod" = some (.ref g :: rest)
  kp : PySem.W.keepIn K (.ref g) = true
def tSX (C : Addr) (sp : Sp) (E : L2.St → XK) (ta : TE) (t : TA) : TE := fun σ H Q => ta σ H fun x G => x = .ref C ∧ t σ G fun vs G2 => sp vs G2 Q (E σ)
section
variable {X : Cx} {pins : List (Addr × Obj)} {σ : L2.St} {H : Hp} {s : Shared} {A : Around} {E : Value → Shared → Prop}
theorem getsmet_ok {C p g : Addr} {mc : Value} {m : Str} {pl : Sem Bool} {Q : Value × List Value → Shared → Prop} (I : L2.Inv X pins σ H s) (r : CRead X.K C mc) (k : SMet X.K C mc m p g) (h : ∀ s', L2.Inv X pins σ H s' → Q (.ref g, []) s') : wpAny (model X.prog X.w) A (getMethod (.ref C) m pl) Q E s := by
  obtain ⟨rest, hp⟩ := k.rc
  refine PySem.W.method_cls I.kIn r.ga (PySem.W.cls_bind I.kIn r.rd k.at_ ?_)
  refine wpAny_call (PySem.W.sm_get (s := { s with toks := s.toks + 1 }) I.kIn hp (PySem.W.handed_on rfl ?_))
  exact h _ (I.tok _)
theorem pe_smx {CX : CXT} {k : Nat} {C p g : Addr} {mc : Value} {fd : FuncData} {ps : List Str} {sp : Sp} {E : L2.St → XK} {m : Str} {pos apos : Pos} {e o : Expr} {es : List Expr} {ta : TE} {t : TA} {pl : Sem Bool}
    (he : PE X o ta) (r : CRead X.K C mc) (hm : SMet X.K C mc m p g) (F : FnOk X.prog X.w X.K X.mg X.base CX k g fd ps sp) (hr : Room k X.A) (hb : Binds X.K fd ps []) (hx : ∀ σ, PassesAt CX X σ (E σ)) (ha : PA X (e :: es) t)
    (z1 : starEach (e :: es) X.env = (false, eval e X.env) :: starEach es X.env := by rfl) (z2 : (backTo pos (starEach es X.env)).any (·.1) = false := by rfl)
    (z3 : eval (.Call (.Attribute o m apos) (e :: es) [] pos) X.env = (do { let ov ← eval o X.env; standAt apos.atName; let (f, first) ← holding [ov] (getMethod ov m pl); callWith pos f first (backTo pos (starEach (e :: es) X.env)) (backToKw pos (keywordEach [] X.env)) }) := by rfl) :
    PE X (.Call (.Attribute o m apos) (e :: es) [] pos) (tSX C sp E ta t) := ⟨fun pins s σ H Q I h => PySem.W.methodCall_KW (pl := pl) (thn (he.run pins s σ H _ I h) fun u s1 hh => by
  obtain ⟨x, G, J, rx, ex, q⟩ := hh
  subst ex
  cases (show u = Value.ref C from rx)
  exact getsmet_ok J r hm fun s' J' => (PySem.W.callWith_K (first := []) (h₀ := X.base) J'.ok.mod.kin hm.kp (thn (ha.run pos pins s' σ G _ J' q) fun us s2 ⟨vs, G2, J2, rv, q2⟩ => ⟨J2.kIn, run_fnS (us := us) (vs := vs) F hr hb (hx σ) J2 rv q2⟩) z1 z2)) z3⟩
end
structure Sm (K : PySem.W.Frag) (C : Addr) (mc : Value) (x qual : Str) (st : Stmt) (ps : List Str) (p f : Addr) (fd : FuncData) : Prop where
  F : Fun K x qual st f fd
  b : L2.Binds K fd ps []
  m : SMet K C mc x p f
theorem sm_mk {K : PySem.W.Frag} {h : Heap} (X : K.In h) {C p : Addr} {mc : Value} {x qual : Str} {st : Stmt} {ps : List Str} {f : Addr} {rest : List Value} {oc : Value} {od an : Option Addr} {sl : Array (Option Value)} {kV dc pm cd ct : Value}
    (a : PySem.W.findCls K (.ref C) mc x = some (.get (.builtin "staticmethod.__get__") (.ref p) .none (.ref C))) (r : PySem.W.recIn K p "staticmethod" = some (.ref f :: rest)) (l : K.lookup f = some ⟨oc, od, .func (PySem.W.fnOf x qual (defArgs st) (defBody st) (defScope st) .none kV dc pm an cd ct), sl⟩) (c : PySem.W.codeIn K cd qual = true) (k : PySem.W.keepIn K (.ref f) = true)
    (hb : ∀ (kV doc pm : Value) (an : Option Addr) (cdv ct : Value) (us : List Value), us.length = ps.length → bindArgs (PySem.W.fnOf x qual (defArgs st) (defBody st) (defScope st) .none kV doc pm an cdv ct) ⟨us, []⟩ = pure (ps.zip us)) :
    ∃ p f fd, Sm K C mc x qual st ps p f fd := ⟨_, _, _, fun_mk l c k, (fun_mk l c k).binds hb, ⟨a, ⟨rest, r⟩, k⟩⟩
theorem Okd.mono {n m : Nat} {d : PyData} (h : Okd n d) : n ≤ m → Okd m d := by
  induction h generalizing m with
  | non => exact fun _ => .non
  | bl b => exact fun _ => .bl b
  | int i => exact fun _ => .int i
  | str h => exact fun _ => .str h
  | dic => exact fun _ => .dic
  | lst h hs ih =>
    intro hl
    obtain ⟨k, rfl⟩ : ∃ k, m = k + 1 := ⟨m - 1, by omega⟩
    exact .lst h fun d hd => ih d hd (by omega)
  | tup h hs ih =>
    intro hl
    obtain ⟨k, rfl⟩ : ∃ k, m = k + 1 := ⟨m - 1, by omega⟩
    exact .tup h fun d hd => ih d hd (by omega)
theorem op_mulS {X : Cx} : OpR X (binaryOp .Mult) (fun x y H Q => ∃ (z : Str) (n : Int), x = .str z ∧ y = .int n ∧ PySem.MulOk z n ∧ Q (.str (Txt.mul z n)) H) := by
  intro pins s σ H x y v u Q I rx ry h
  obtain ⟨z, n, rfl, rfl, hok, q⟩ := h
  obtain ⟨t, rfl⟩ := rx
  obtain ⟨t2, rfl⟩ := ry
  exact PySem.SB.mul hok fun t' k => ⟨.str (Txt.mul z n), H, I.tok _, ⟨t', rfl⟩, q⟩
theorem isV_sd {n : Nat} {d : PyData} (h : Okd n d) : isV d = true → Sd n d := by
  induction h with
  | non => exact fun h => absurd h (by simp [isV, isP, isI, isT])
  | bl b => exact fun h => absurd h (by simp [isV, isP, isI, isT])
  | int i => exact fun _ => sd_int
  | @str n x hx =>
    intro h
    have h : isT (.str x) = true := by simpa [isV, isP, isI] using h
    have h2 := (Bool.and_eq_true_iff.mp (show (decide (x.length ≤ 200) && x.cps.toList.all chOk) = true from h)).2
    refine sd_str ?_
    show x.cps.all (· < 0x110000) = true
    rw [← Array.all_toList]
    refine List.all_eq_true.mpr fun c hc => ?_
    have h3 := List.all_eq_true.mp h2 c hc
    have h4 := of_decide_eq_true (Bool.and_eq_true_iff.mp (Bool.and_eq_true_iff.mp h3).1).2
    exact decide_eq_true (by omega)
  | dic => exact fun h => absurd h (by simp [isV, isP, isI, isT])
  | lst h hs ih => exact fun h => absurd h (by simp [isV, isP, isI, isT])
  | @tup n ds h hs ih =>
    intro hv
    have hv : isVs ds = true := hv
    rw [isVs_iff] at hv
    exact sd_tuple fun d hd => ih d hd (List.all_eq_true.mp hv d hd)
theorem isP_V {d : PyData} (h : isP d = true) : isV d = true := by
  cases d <;> simp_all [isV, isP, isI, isT]
theorem isN_V {d : PyData} (h : isN d = true) : isV d = true := by
  unfold isN at h
  exact isP_V (by unfold isP; rw [(Bool.and_eq_true_iff.mp h).1]; rfl)
theorem isDeed_V {d : PyData} (h : isDeed d = true) : isV d = true := by
  cases d with
  | tuple ds =>
    have h2 := (Bool.and_eq_true_iff.mp (show (_ && ds.all isP) = true from h)).2
    show isVs ds = true
    rw [isVs_iff]
    exact List.all_eq_true.mpr fun d hd => isP_V (List.all_eq_true.mp h2 d hd)
  | _ => cases h
theorem isRec_V {d : PyData} (h : isRec d = true) : isV d = true := by
  cases d with
  | tuple ds =>
    have h : (decide (ds.length = 3) && (isN (ds.getD 0 .none) && (isN (ds.getD 1 .none) && (geB 1 (ds.getD 1 .none) && isDeed (ds.getD 2 .none))))) = true := h
    obtain ⟨h1, h2⟩ := Bool.and_eq_true_iff.mp h
    obtain ⟨h2, h3⟩ := Bool.and_eq_true_iff.mp h2
    obtain ⟨h3, h4⟩ := Bool.and_eq_true_iff.mp h3
    obtain ⟨_, h5⟩ := Bool.and_eq_true_iff.mp h4
    have h1 := of_decide_eq_true h1
    match ds, h1 with
    | [a, b, c], _ =>
      show isVs [a, b, c] = true
      rw [isVs_iff]
      refine List.all_eq_true.mpr fun d hd => ?_
      rcases List.mem_cons.mp hd with rfl | hd
      · exact isN_V h2
      · rcases List.mem_cons.mp hd with rfl | hd
        · exact isN_V h3
        · rw [List.mem_singleton.mp hd]
          exact isDeed_V h5
  | _ => cases h
def isRecs : PyData → Bool
  | .tuple ds => ds.all isRec
  | _ => false
def isLogD : PyData → Bool
  | .tuple ds => decide (ds.length = 3) && (isN (ds.getD 0 .none) && (isV (ds.getD 1 .none) && isRecs (ds.getD 2 .none)))
  | _ => false
theorem isLog_of {d : PyData} (h : isLogD d = true) : ∃ (b : Int) (im : PyData) (rs : List PyData), d = .tuple [.int b, im, .tuple rs] ∧ isV d = true := by
  cases d with
  | tuple ds =>
    have h : (decide (ds.length = 3) && (isN (ds.getD 0 .none) && (isV (ds.getD 1 .none) && isRecs (ds.getD 2 .none)))) = true := h
    obtain ⟨h1, h2⟩ := Bool.and_eq_true_iff.mp h
    obtain ⟨h2, h3⟩ := Bool.and_eq_true_iff.mp h2
    obtain ⟨h3, h4⟩ := Bool.and_eq_true_iff.mp h3
    have h1 := of_decide_eq_true h1
    match ds, h1 with
    | [a, b, c], _ =>
      have h2 : isN a = true := h2
      have h3 : isV b = true := h3
      have h4 : isRecs c = true := h4
      obtain ⟨i, rfl⟩ : ∃ i, a = .int i := by
        cases a <;> simp_all [isN, isI]
      obtain ⟨rs, rfl⟩ : ∃ rs, c = .tuple rs := by
        cases c <;> simp_all [isRecs]
      refine ⟨i, b, rs, rfl, ?_⟩
      show isVs [.int i, b, .tuple rs] = true
      rw [isVs_iff]
      refine List.all_eq_true.mpr fun d hd => ?_
      rcases List.mem_cons.mp hd with rfl | hd
      · exact isN_V h2
      · rcases List.mem_cons.mp hd with rfl | hd
        · exact h3
        · rw [List.mem_singleton.mp hd]
          show isVs rs = true
          rw [isVs_iff]
          exact List.all_eq_true.mpr fun d hd => isRec_V (List.all_eq_true.mp h4 d hd)
  | _ => cases h
theorem cr_mk {K : PySem.W.Frag} {h : Heap} {C : Addr} {mc : Value} (X : K.In h) (rd : PySem.W.readsIn K C mc = true) (ga : PySem.W.specialIn K (.ref C) "__getattribute__" = some (some (.builtin "type.__getattribute__"))) : ClX.CRead K C mc := ⟨rd, ga⟩
theorem big_lit {mg : Str → Option Value} {t : Tok} (h : mg "NUMBER_MOST" = some (.int 1000000000000000000 t)) : mg "NUMBER_MOST" = some (.int (10 ^ 18) t) := by
  rw [h, show ((10 : Int) ^ 18) = 1000000000000000000 by decide]
end Ap

set_option Elab.async false
set_option linter.all false
set_option maxRecDepth 100000
namespace Ap
open PySem PySem.Spec PyProof PyProof.Rows L2
/-! ### a slice of a tuple, backwards -/
theorem revApplied {prog : Program} {w : World} {A : Around} {E : Value → Shared → Prop} {s : Shared} {sl : Addr} {vs : Value} {n : Nat} {Q : Int × Int × Nat → Shared → Prop} (hs : s.heap.IsSliceOf sl .none .none vs) (pv : IsPart vs (some (-1)))
    (h : Q ((n : Int) - 1, -1, n) s) : wpAny (model prog w) A (Builtin.Slice.sliceApplied (.ref sl) (pure (n : Int))) Q E s := by
  obtain ⟨os, hos, hcs, hds⟩ := id hs
  unfold Builtin.Slice.sliceApplied Builtin.Slice.sliceFields
  refine wpAny_bind (wpAny_bind (wpAny_field hos hds (x := .none) rfl (wpAny_bind (wpAny_field hos hds (x := .none) rfl (wpAny_bind (wpAny_field hos hds (x := vs) rfl (wpAny_pure ?_)))))))
  refine wpAny_bind (HT.slicePart_ pv ?_)
  show wpAny _ _ (if ((-1 : Int) == 0) = true then _ else _) _ _ s
  rw [if_neg (by decide)]
  refine wpAny_bind (HT.slicePart_ .none (wpAny_bind (HT.slicePart_ .none (wpAny_bind (wpAny_pure ?_)))))
  have e1 : Builtin.Slice.sliceAdjust none none (-1) (n : Int) = ((n : Int) - 1, -1) := rfl
  have e2 : Builtin.Slice.slicePlaces ((n : Int) - 1) (-1) (-1) = n := by
    unfold Builtin.Slice.slicePlaces
    rw [if_neg (by decide)]
    split
    · rw [show (n : Int) - 1 - -1 - 1 = (n : Int) - 1 by omega, show -(-1 : Int) = 1 by decide, Int.ediv_one]
      omega
    · omega
  show wpAny _ _ (match Builtin.Slice.sliceAdjust none none (-1) (n : Int) with | (lo, hi) => pure (lo, (-1 : Int), Builtin.Slice.slicePlaces lo hi (-1))) _ _ s
  rw [e1]
  show wpAny _ _ (pure ((n : Int) - 1, (-1 : Int), Builtin.Slice.slicePlaces ((n : Int) - 1) (-1) (-1))) _ _ s
  rw [e2]
  exact wpAny_pure h
theorem fm_congr {α β : Type} {f g : α → Option β} : ∀ {l : List α}, (∀ m ∈ l, f m = g m) → l.filterMap f = l.filterMap g
  | [], _ => rfl
  | x :: r, h => by
    rw [List.filterMap_cons, List.filterMap_cons, h x List.mem_cons_self, fm_congr fun m hm => h m (List.mem_cons_of_mem _ hm)]
theorem rev_pick (xs : Array Value) : ((List.range xs.size).filterMap fun (m : Nat) => xs[(((xs.size : Nat) : Int) - 1 + (m : Int) * (-1)).toNat]?).toArray = xs.toList.reverse.toArray := by
  congr 1
  rw [← PySem.W.krv_all xs, ← List.filterMap_reverse, ← PySem.W.krv_range, List.filterMap_map]
  refine fm_congr fun m hm => ?_
  show xs[(((xs.size : Nat) : Int) - 1 + (m : Int) * (-1)).toNat]? = xs[xs.size - 1 - m]?
  congr 1
  omega
theorem getItem_tuple_rev {prog : Program} {w : World} {A : Around} {E : Value → Shared → Prop} {s : Shared} {t sl : Addr} {items : Array Value} {vs : Value} {Q : Value → Shared → Prop} (ht : IsTup s.heap t items) (hs : s.heap.IsSliceOf sl .none .none vs) (pv : IsPart vs (some (-1)))
    (h : Q (.ref s.heap.objs.size) { s with heap := s.heap.push { cls := .type "tuple", data := .seq items.toList.reverse.toArray } }) (hsz : items.size ≤ sizeLine) : wpAny (model prog w) A (getItem (.ref t) (.ref sl)) Q E s := by
  have htake : sizeOk (.seq items.toList.reverse.toArray) := by
    show items.toList.reverse.toArray.size ≤ sizeLine
    rw [List.size_toArray, List.length_reverse, Array.length_toList]
    exact hsz
  obtain ⟨os, hos, hcs, hds⟩ := id hs
  have hTs : s.TypeIs (.ref sl) "slice" := ⟨os, hos, hcs⟩
  unfold getItem
  try with_reducible refine wpAny_holding ?_
  first | refine wpAny_bind (wpAny_pure ?_) | skip
  refine wpAny_bind (wpAny_sequenceKey ht.typeIs (by decide) ?_)
  refine wpAny_bind (wpAny_callSpecial?_slot (name := Str.ofString "__getitem__") ht.typeIs PyProof.Rows.slot_tuple_getitem
    (wpAny_call_entry PyProof.Rows.slot_tuple_getitem ht.typeIs entry_tuple_getitem ?_ (args_tuple_getitem _ _)))
  show wpAny _ _ (Builtin.Tuple.tupleItemsOf (.ref t) >>= _) _ _ s
  refine wpAny_bind (tupleItemsOf_ ht ?_)
  refine wpAny_bind (wpAny_typeOf hTs ?_)
  rw [if_pos (by decide)]
  refine wpAny_bind (revApplied hs pv ?_)
  have hno : ¬ (((((items.size : Nat) : Int) - 1) == 0 && (-1 : Int) == 1 && items.size == items.size) = true) := by
    intro q
    rw [Bool.and_eq_true, Bool.and_eq_true] at q
    exact absurd (eq_of_beq q.1.2) (by decide)
  show wpAny _ _ (if ((((items.size : Nat) : Int) - 1) == 0 && (-1 : Int) == 1 && items.size == items.size) = true then _ else _) _ _ s
  rw [if_neg hno, rev_pick]
  first
    | exact wpAny_bind (m := Builtin.Tuple.tupleExact _) (wpAny_newObj_type (wpAny_pure ⟨_, rfl, wpAny_pure h⟩) htake)
    | exact wpAny_bind (m := Builtin.Tuple.tupleExact _) (wpAny_newObj_type (wpAny_bind (wpAny_pure (wpAny_pure ⟨_, rfl, wpAny_pure h⟩))) htake)
    | exact wpAny_bind (wpAny_bind (m := Builtin.Tuple.tupleExact _) (wpAny_newObj_type (wpAny_pure (wpAny_pure ⟨_, rfl, wpAny_pure h⟩)) htake))
    | exact wpAny_bind (wpAny_bind (m := Builtin.Tuple.tupleExact _) (wpAny_newObj_type (wpAny_pure ⟨_, rfl, wpAny_pure h⟩) htake))
section
variable {X : Cx}
def tRevT (K : PySem.W.Frag) (te : TE) : TE := fun σ H Q => te σ H fun x H1 => ∃ a xs, x = .ref a ∧ SqT K H1 a xs ∧ ∀ p, H1 p = none → Q (.ref p) (upd H1 p (.tup xs.reverse))
theorem pe_revT {e : Expr} {te : TE} {k : Nat} {p1 p2 p3 pos : Pos} (he : PE X e te) : PE X (.Subscript e (.Slice none none (some (.UnaryOp .USub (.Constant (.int 1) k p1) p2)) p3) pos) (tRevT X.K te) := by
  refine ⟨fun pins s σ H Q I h => ?_⟩
  refine Subscript_ (thn (he.run pins s σ H _ I h) fun v s1 ⟨x, H1, I1, r1, q1⟩ => ?_)
  obtain ⟨a, xs, ex, hx, q⟩ := q1
  subst ex
  cases r1
  have hst : PO X (some (.UnaryOp .USub (.Constant (.int 1) k p1) p2)) (tPart (tUn (rU fun i => .int (-i)) (tC (.int 1)))) := po_some (pe_un un_neg pe_int)
  refine wpAny_Slice (thn (po_none.run pins s1 σ H1 (fun o H2 => o = none ∧ H2 = H1) I1 ⟨rfl, rfl⟩) fun vl s2 ⟨l, H2, I2, pl, el, e2⟩ => ?_)
  subst el e2
  refine thn (po_none.run pins s2 σ H2 (fun o H3 => o = none ∧ H3 = H2) I2 ⟨rfl, rfl⟩) fun vu s3 ⟨u, H3, I3, pu, eu, e3⟩ => ?_
  subst eu e3
  refine thn (hst.run pins s3 σ H3 (fun o H4 => o = some (-1) ∧ H4 = H3) I3 ⟨1, rfl, -1, rfl, rfl, rfl⟩) fun vs s4 ⟨o, H4, I4, ps, eo, e4⟩ => ?_
  subst eo e4
  have I5 : Inv X pins σ H4 { s4 with heap := s4.heap.push { cls := .type "slice", data := .fields #[vl, vu, vs] } } := I4.kept (t' := s4.toks) fun b ob q => Heap.get?_push_of_some _ q
  obtain ⟨its, r, ht, hz⟩ := I5.tuple hx
  have hlen := r.length
  cases pl
  cases pu
  show wpAny (model X.prog X.w) X.A (subscriptTail e (.Slice none none (some (.UnaryOp .USub (.Constant (.int 1) k p1) p2)) p3) (.ref a) (.ref s4.heap.objs.size)) (EP X pins σ Q) X.xe { s4 with heap := s4.heap.push { cls := .type "slice", data := .fields #[.none, .none, vs] } }
  refine tail_any (ops := [.ref a, .ref s4.heap.objs.size]) ht.typeIs (PyProof.Rows.slot_tuple_getitem.lookup) ?_ (by with_unfolding_all rfl)
  refine getItem_tuple_rev ht (Heap.IsSliceOf.new _ .none .none vs) ps ?_ (by rw [List.size_toArray]; omega)
  refine ⟨.ref _, _, I5.laid (t' := s4.toks) (o := .tup xs.reverse) (fun b ob q => Heap.get?_push_of_some _ q) (Nat.le_refl _) ?_, rfl, q _ (I5.hok.fresh (Nat.le_refl _))⟩
  exact ⟨by rw [List.length_reverse]; exact hz, _, r.reverse, IsTup.new _ _⟩
/-! ### xs.extend(a tuple) -/
set_option maxRecDepth 8000 in
theorem extend_tupW (l : Addr) (items : Array Value) (n : Nat) (b : Addr) (items2 : Array Value) (n2 : Nat) (dd2 : Option Addr) (sl2 : Array (Option Value)) (hs0 : ¬(!items.isEmpty && Builtin.List.listTooLong (items.size + items2.size)) = true) (hs1 : items.size ≤ sizeLine) (hs2 : items.size + items2.size ≤ sizeLine + 1 := by seq_fits) :
    Meets (Builtin.«list.extend» ⟨[.ref l, .ref b], []⟩) (fun _ R s => s.heap.get? l = some { cls := .type "list", dict := none, data := .seq items n, slots := #[] } ∧ s.heap.get? b = some { cls := .type "tuple", dict := dd2, data := .seq items2 n2, slots := sl2 } ∧ R (.ok (.ret Value.none)) { s with heap := s.heap.update l (Obj.mapSeq fun x => x ++ items2), toks := s.toks }) :=
  .of_wp fun prog w A R s h => by
    obtain ⟨hp, g, d, tk, os⟩ := s; obtain ⟨hl, hb, h⟩ := h; have f1 := AutoSeq1.idx_int; have f2 := AutoSeq1.sub_tuple_tuple; have f3 := AutoSeq1.sub_list_list; have f4 := AutoSeq1.sub_tuple_list; have f5 := AutoSeq1.sub_list_tuple;
    have hz' : (items ++ items2).size ≤ sizeLine + 1 := by rw [Array.size_append]; exact hs2
    wp_walk using (wpAny_updateSeq hl rfl (hz := hs1) (_hz' := hz')), AutoSeq1.wpAny_loadPart' hl, AutoSeq1.wpAny_loadPart' hb; exact ⟨_, rfl, h⟩
def rExtT (K : PySem.W.Frag) : V → List V → Hp → VK → Prop := fun x vs H Q => ∃ l b xs zs, x = .ref l ∧ vs = [.ref b] ∧ H l = some (.lst xs) ∧ SqT K H b zs ∧ xs.length + zs.length ≤ sizeLine ∧ Q .non (upd H l (.lst (xs ++ zs)))
theorem mt_extT : MtM X "list.extend" (rExtT X.K) := by
  intro pins s σ H x vs v us Q I rx rv h
  obtain ⟨l, b, xs, zs, rfl, rfl, hH, hB, hz, q⟩ := h
  cases rx
  obtain ⟨u, rfl, ru⟩ := rv.one
  cases ru
  obtain ⟨z, its, n, r, hl, e⟩ := I.lstM hH
  obtain ⟨its2, r2, ht2, hz2⟩ := I.tuple hB
  have hl2 := r2.length
  obtain ⟨⟨cls2, dd2, data2, sl2⟩, ho2, hc2, n2, hd2⟩ := id ht2
  simp only at hc2 hd2
  subst hc2 hd2
  have hsz : its.toArray.size + its2.toArray.size ≤ sizeLine := by rw [List.size_toArray, List.size_toArray]; omega
  have hlong : ¬ (!its.toArray.isEmpty && Builtin.List.listTooLong (its.toArray.size + its2.toArray.size)) = true := by
    rw [notLongL hsz, Bool.and_false]
    exact Bool.false_ne_true
  refine call_meets F.slot_list_extend ⟨_, e, rfl⟩ F.entry_list_extend (F.args_list_extend_2 _ _)
    (extend_tupW l its.toArray n b its2.toArray n2 dd2 sl2 hlong (by rw [List.size_toArray]; omega) (by omega)) ⟨e, ho2, ?_⟩
  refine ⟨.non, _, I.lset (its' := its ++ its2) hH e (by simp) (r.append r2) ?_, rfl, q⟩
  rw [List.length_append]
  omega
end
end Ap

set_option Elab.async false
set_option linter.all false
set_option maxRecDepth 100000
namespace Ap
open PySem PySem.Spec PyProof.Rows L2 Evl
section
variable {K : PySem.W.Frag} {σ : L2.St} {H H' : Hp} {ta tb tc te : TE} {t u : TT} {x y z v w : V}
theorem et_orF (h1 : EvT t σ H false) (h2 : EvT u σ H false) : EvT (tOr t u) σ H false := et_or (a := false) (b := false) h1 (fun _ => h2)
theorem et_orL (h1 : EvT t σ H true) : EvT (tOr t u) σ H true := fun H1 e Q q => h1 H1 e _ fun H2 e2 => (q H2 e2 : Q true H2)
theorem et_orR (h1 : EvT t σ H false) (h2 : EvT u σ H true) : EvT (tOr t u) σ H true := et_or (a := false) (b := true) h1 (fun _ => h2)
theorem et_andT (h1 : EvT t σ H true) (h2 : EvT u σ H true) : EvT (tAnd t u) σ H true := et_and (a := true) (b := true) h1 (fun _ => h2)
theorem et_andL (h1 : EvT t σ H false) : EvT (tAnd t u) σ H false := fun H1 e Q q => h1 H1 e _ fun H2 e2 => (q H2 e2 : Q false H2)
theorem et_andR (h1 : EvT t σ H true) (h2 : EvT u σ H false) : EvT (tAnd t u) σ H false := et_and (a := true) (b := false) h1 (fun _ => h2)
theorem et_nt (h : EvT t σ H true) : EvT (tNot t) σ H false := et_not h
theorem et_nf (h : EvT t σ H false) : EvT (tNot t) σ H true := et_not h
theorem ev_andT (h1 : Ev ta σ H (.bl true)) (h2 : Ev tb σ H (.bl true)) : Ev (tAndV ta tb) σ H (.bl true) := ev_andV (a := true) (b := true) h1 (fun _ => h2)
theorem ev_andL (h1 : Ev ta σ H (.bl false)) : Ev (tAndV ta tb) σ H (.bl false) := fun H1 e Q q => h1 H1 e _ fun H2 e2 => ⟨false, rfl, (q H2 e2 : Q (.bl false) H2)⟩
theorem ev_andR {b : Bool} (h1 : Ev ta σ H (.bl true)) (h2 : Ev tb σ H (.bl b)) : Ev (tAndV ta tb) σ H (.bl b) := by
  have h := ev_andV (a := true) (b := b) h1 (fun _ => h2)
  rwa [Bool.true_and] at h
theorem ev_orF (h1 : Ev ta σ H (.bl false)) (h2 : Ev tb σ H (.bl false)) : Ev (tOrV ta tb) σ H (.bl false) := ev_orV (a := false) (b := false) h1 (fun _ => h2)
theorem ev_nt (h : Ev ta σ H (.bl true)) : Ev (tNotV ta) σ H (.bl false) := ev_notV h
theorem ev_nf (h : Ev ta σ H (.bl false)) : Ev (tNotV ta) σ H (.bl true) := ev_notV h
theorem rc_isiI : RC (rIsi K) [.int x', .ty "int"] H (.bl true) := rc_isi (X := "int") (fun _ => .base (.int _)) (by decide +kernel)
theorem rc_isiIB : RC (rIsi K) [.int x', .ty "bool"] H (.bl false) := rc_isi (X := "int") (fun _ => .base (.int _)) (by decide +kernel)
theorem rc_isiB : RC (rIsi K) [.bl x', .ty "bool"] H (.bl true) := rc_isi (X := "bool") (fun _ => .base (.bl _)) (by decide +kernel)
theorem rc_isiBI : RC (rIsi K) [.bl x', .ty "int"] H (.bl true) := rc_isi (X := "bool") (fun _ => .base (.bl _)) (by decide +kernel)
theorem rv_eqI {i j : Int} : RV rEq (.int i) (.int j) H (.bl (decide (i = j))) := by
  have h := rv_eq (x := .int i) (y := .int j) (H := H) rfl
  have e : decide (V.int i = V.int j) = decide (i = j) := by
    by_cases q : i = j
    · rw [decide_eq_true q, decide_eq_true (by rw [q])]
    · rw [decide_eq_false q, decide_eq_false (fun h => q (V.int.inj h))]
  rwa [e] at h
theorem rv_neI {i j : Int} : RV rNe (.int i) (.int j) H (.bl (!decide (i = j))) := by
  have h := rv_ne (x := .int i) (y := .int j) (H := H) rfl
  have e : decide (V.int i = V.int j) = decide (i = j) := by
    by_cases q : i = j
    · rw [decide_eq_true q, decide_eq_true (by rw [q])]
    · rw [decide_eq_false q, decide_eq_false (fun h => q (V.int.inj h))]
  rwa [e] at h
end
end Ap

set_option Elab.async false
set_option linter.all false
set_option maxRecDepth 100000
namespace Ap
open PySem PySem.Spec PyProof.Rows L2 Evl
/-! ### parts of a heap that stand apart -/
structure MP where
  p : Hp → Hp → Prop
  m : ∀ B B' H H', Ex B B' → Ex H H' → p B H → p B' H'
def cutIn (S : Addr → Bool) (H : Hp) : Hp := fun a => if S a = true then H a else none
theorem cutIn_ex {S : Addr → Bool} {H H' : Hp} (e : Ex H H') : Ex (cutIn S H) (cutIn S H') := fun a o h => by
  unfold cutIn at h ⊢
  split at h
  · rename_i q
    rw [if_pos q]
    exact e a o h
  · cases h
theorem cutIn_sub {S : Addr → Bool} {H : Hp} : Ex (cutIn S H) H := fun a o h => by
  unfold cutIn at h
  split at h
  · exact h
  · cases h
theorem cutIn_at {S : Addr → Bool} {H : Hp} {a : Addr} {o : HO} (h : cutIn S H a = some o) : S a = true ∧ H a = some o := by
  unfold cutIn at h
  split at h
  · rename_i q
    exact ⟨q, h⟩
  · cases h
theorem cutIn_yes {S : Addr → Bool} {H : Hp} {a : Addr} (h : S a = true) : cutIn S H a = H a := by
  unfold cutIn
  rw [if_pos h]
theorem cutIn_no {S : Addr → Bool} {H : Hp} {a : Addr} (h : S a = false) : cutIn S H a = none := by
  unfold cutIn
  rw [if_neg (by rw [h]; decide)]
def Emp : MP := ⟨fun _ _ => True, fun _ _ _ _ _ _ _ => trivial⟩
def Pt (a : Addr) (o : HO) : MP := ⟨fun _ H => H a = some o, fun _ _ _ _ _ e h => e _ _ h⟩
def Star (P Q : MP) : MP := ⟨fun B H => ∃ S : Addr → Bool, P.p B (cutIn S H) ∧ Q.p B (cutIn (fun a => !S a) H), fun _ _ _ _ b e ⟨S, h1, h2⟩ => ⟨S, P.m _ _ _ _ b (cutIn_ex e) h1, Q.m _ _ _ _ b (cutIn_ex e) h2⟩⟩
def Stars : List MP → MP
  | [] => Emp
  | P :: l => Star P (Stars l)
def Each {α : Type} (xs : List α) (f : α → MP) : MP := Stars (xs.map f)
def ExM {α : Type} (f : α → MP) : MP := ⟨fun B H => ∃ x, (f x).p B H, fun _ _ _ _ b e ⟨x, h⟩ => ⟨x, (f x).m _ _ _ _ b e h⟩⟩
def AndM (φ : Prop) (P : MP) : MP := ⟨fun B H => φ ∧ P.p B H, fun _ _ _ _ b e ⟨a, h⟩ => ⟨a, P.m _ _ _ _ b e h⟩⟩
/-- what is known of the base besides -/
def DpM (K : PySem.W.Frag) (vs : List V) (ds : List PyData) (P : MP) : MP := ⟨fun B H => DpAll K B vs ds ∧ P.p B H, fun _ _ _ _ b e ⟨a, h⟩ => ⟨dpa_mono b _ _ a, P.m _ _ _ _ b e h⟩⟩
theorem cut_cut {S T : Addr → Bool} {H : Hp} : cutIn S (cutIn T H) = cutIn (fun a => T a && S a) H := by
  funext a
  unfold cutIn
  cases hs : S a <;> cases ht : T a <;> simp [hs, ht]
theorem cut_all {H : Hp} : cutIn (fun _ => true) H = H := funext fun a => cutIn_yes rfl
theorem cut_all' {H : Hp} : cutIn (fun a => !((fun _ => false) a)) H = H := funext fun a => cutIn_yes rfl
theorem star_comm {P Q : MP} {B H : Hp} (h : (Star P Q).p B H) : (Star Q P).p B H := by
  obtain ⟨S, h1, h2⟩ := h
  refine ⟨fun a => !S a, h2, ?_⟩
  have e : (fun a => !!S a) = S := by
    funext a
    exact Bool.not_not _
  show P.p B (cutIn (fun a => !!S a) H)
  rw [e]
  exact h1
theorem star_l {P Q : MP} {B H : Hp} (h : (Star P Q).p B H) : P.p B H := by
  obtain ⟨S, h1, h2⟩ := h
  exact P.m _ _ _ _ (Ex.refl B) cutIn_sub h1
theorem star_r {P Q : MP} {B H : Hp} (h : (Star P Q).p B H) : Q.p B H := by
  obtain ⟨S, h1, h2⟩ := h
  exact Q.m _ _ _ _ (Ex.refl B) cutIn_sub h2
theorem star_mono {P P' Q Q' : MP} {B H : Hp} (hp : ∀ H, P.p B H → P'.p B H) (hq : ∀ H, Q.p B H → Q'.p B H) (h : (Star P Q).p B H) : (Star P' Q').p B H := by
  obtain ⟨S, h1, h2⟩ := h
  exact ⟨S, hp _ h1, hq _ h2⟩
theorem star_swap {P Q R : MP} {B H : Hp} (h : (Star P (Star Q R)).p B H) : (Star Q (Star P R)).p B H := by
  obtain ⟨S, h1, T, h2, h3⟩ := h
  rw [cut_cut] at h2 h3
  refine ⟨fun a => !S a && T a, h2, fun a => S a, ?_, ?_⟩
  · rw [cut_cut]
    refine P.m _ _ _ _ (Ex.refl B) (fun a o h => ?_) h1
    obtain ⟨q, h⟩ := cutIn_at h
    rw [cutIn_yes (by show (!(!S a && T a) && S a) = true; rw [q]; rfl)]
    exact h
  · rw [cut_cut]
    refine R.m _ _ _ _ (Ex.refl B) (fun a o h => ?_) h3
    obtain ⟨q, h⟩ := cutIn_at h
    have q : (!S a && !T a) = true := q
    rw [cutIn_yes (by
      show (!(!S a && T a) && !S a) = true
      cases hs : S a <;> cases ht : T a <;> rw [hs, ht] at q <;> first | rfl | cases q)]
    exact h
theorem star_assoc {P Q R : MP} {B H : Hp} (h : (Star (Star P Q) R).p B H) : (Star P (Star Q R)).p B H := star_mono (fun _ h => h) (fun _ h => star_comm h) (star_swap (star_mono (P' := R) (fun _ h => h) (fun _ h => h) (star_comm h)) |> star_mono (fun _ h => h) (fun _ h => h))
theorem star_assoc' {P Q R : MP} {B H : Hp} (h : (Star P (Star Q R)).p B H) : (Star (Star P Q) R).p B H := by
  have h1 : (Star R (Star P Q)).p B H := by
    have h2 : (Star P (Star R Q)).p B H := star_mono (fun _ h => h) (fun _ h => star_comm h) h
    exact star_swap h2
  exact star_comm h1
theorem stars_app : ∀ {l k : List MP} {B H : Hp}, (Star (Stars l) (Stars k)).p B H → (Stars (l ++ k)).p B H
  | [], _, _, _, h => star_r h
  | P :: l, k, _, _, h => star_mono (fun _ h => h) (fun _ h => stars_app h) (star_assoc h)
theorem stars_app' : ∀ {l k : List MP} {B H : Hp}, (Stars (l ++ k)).p B H → (Star (Stars l) (Stars k)).p B H
  | [], _, _, _, h => ⟨fun _ => false, trivial, by
    rw [cut_all']
    exact h⟩
  | P :: l, k, _, _, h => star_assoc' (star_mono (fun _ h => h) (fun _ h => stars_app' h) h)
theorem stars_pull : ∀ (l : List MP) (i : Nat) {B H : Hp} {P : MP}, l[i]? = some P → (Stars l).p B H → (Stars (P :: l.eraseIdx i)).p B H
  | [], i, _, _, _, e, _ => by simp at e
  | Q :: l, 0, _, _, _, e, h => by
    cases (show some Q = some _ from e)
    exact h
  | Q :: l, i + 1, _, _, P, e, h => star_swap (star_mono (P := Q) (Q := Stars l) (Q' := Stars (P :: l.eraseIdx i)) (fun _ h => h) (fun _ h => stars_pull l i (by simpa using e) h) h)
theorem stars_put : ∀ (l : List MP) (i : Nat) {B H : Hp} {P P' : MP}, l[i]? = some P → (Stars (P' :: l.eraseIdx i)).p B H → (Stars (l.set i P')).p B H
  | [], i, _, _, _, _, e, _ => by simp at e
  | Q :: l, 0, _, _, _, _, e, h => h
  | Q :: l, i + 1, _, _, P, P', e, h => star_mono (P := Q) (Q := Stars (P' :: l.eraseIdx i)) (Q' := Stars (l.set i P')) (fun _ h => h) (fun _ h => stars_put l i (P := P) (by simpa using e) h) (star_swap h)
theorem stars_at {l : List MP} {i : Nat} {B H : Hp} {P : MP} (e : l[i]? = some P) (h : (Stars l).p B H) : P.p B H := star_l (stars_pull l i e h)
/-- the base (what never changes), and what stands apart from it -/
def At (B : Hp) (l : List MP) (H : Hp) : Prop := ∃ S : Addr → Bool, Ex B (cutIn S H) ∧ (Stars l).p B (cutIn (fun a => !S a) H)
section
variable {K : PySem.W.Frag} {B H H1 : Hp} {l l' : List MP} {P Q : MP} {i : Nat} {a p : Addr} {o u : HO}
theorem at_map (f : ∀ H, (Stars l).p B H → (Stars l').p B H) (h : At B l H) : At B l' H := by
  obtain ⟨S, h1, h2⟩ := h
  exact ⟨S, h1, f _ h2⟩
theorem at_base (h : At B l H) : Ex B H := by
  obtain ⟨S, h1, h2⟩ := h
  exact h1.trans cutIn_sub
theorem at_ex (h : At B l H) (e : Ex H H1) : At B l H1 := by
  obtain ⟨S, h1, h2⟩ := h
  exact ⟨S, h1.trans (cutIn_ex e), (Stars l).m _ _ _ _ (Ex.refl B) (cutIn_ex e) h2⟩
theorem at_p (i : Nat) (e : l[i]? = some P) (h : At B l H) : P.p B H := by
  obtain ⟨S, h1, h2⟩ := h
  exact P.m _ _ _ _ (Ex.refl B) cutIn_sub (stars_at e h2)
theorem at_get (i : Nat) (e : l[i]? = some (Pt a o)) (h : At B l H) : H a = some o := at_p i e h
theorem at_start : At H [] H := ⟨fun _ => true, by
  rw [cut_all]
  exact Ex.refl H, trivial⟩
/-- what stands apart may become something else -/
theorem at_to (i : Nat) (e : l[i]? = some P) (hq : ∀ H, P.p B H → Q.p B H) (h : At B l H) : At B (l.set i Q) H := at_map (fun _ h => stars_put l i e (star_mono (P := P) (P' := Q) hq (fun _ h => h) (stars_pull l i e h))) h
theorem at_drop (h : At B (P :: l) H) : At B l H := at_map (l := P :: l) (fun _ h => star_r h) h
theorem at_pull (i : Nat) (e : l[i]? = some P) (h : At B l H) : At B (P :: l.eraseIdx i) H := at_map (fun _ h => stars_pull l i e h) h
theorem at_put (i : Nat) (e : l[i]? = some P) (h : At B (Q :: l.eraseIdx i) H) : At B (l.set i Q) H := at_map (fun _ h => stars_put l i e h) h
theorem at_swap {R : MP} (h : At B (P :: R :: l) H) : At B (R :: P :: l) H := at_map (l := P :: R :: l) (l' := R :: P :: l) (fun _ h => star_swap h) h
theorem at_join {R : MP} (h : At B (P :: R :: l) H) : At B (Star P R :: l) H := at_map (l := P :: R :: l) (l' := Star P R :: l) (fun _ h => star_assoc' h) h
theorem at_split {R : MP} (h : At B (Star P R :: l) H) : At B (P :: R :: l) H := at_map (l := Star P R :: l) (l' := P :: R :: l) (fun _ h => star_assoc h) h
theorem at_stars {k : List MP} (h : At B (Stars k :: l) H) : At B (k ++ l) H := at_map (l := Stars k :: l) (fun _ h => stars_app h) h
theorem at_stars' (k : List MP) (h : At B (k ++ l) H) : At B (Stars k :: l) H := at_map (l' := Stars k :: l) (fun _ h => stars_app' h) h
theorem at_exm {α : Type} {f : α → MP} (h : At B (ExM f :: l) H) : ∃ x, At B (f x :: l) H := by
  obtain ⟨S, h1, T, ⟨x, h2⟩, h3⟩ := h
  exact ⟨x, S, h1, T, h2, h3⟩
theorem at_exm' {α : Type} {f : α → MP} (x : α) (h : At B (f x :: l) H) : At B (ExM f :: l) H := by
  obtain ⟨S, h1, T, h2, h3⟩ := h
  exact ⟨S, h1, T, ⟨x, h2⟩, h3⟩
theorem at_and {φ : Prop} (h : At B (AndM φ P :: l) H) : φ ∧ At B (P :: l) H := by
  obtain ⟨S, h1, T, ⟨x, h2⟩, h3⟩ := h
  exact ⟨x, S, h1, T, h2, h3⟩
theorem at_and' {φ : Prop} (x : φ) (h : At B (P :: l) H) : At B (AndM φ P :: l) H := by
  obtain ⟨S, h1, T, h2, h3⟩ := h
  exact ⟨S, h1, T, ⟨x, h2⟩, h3⟩
theorem at_dpm {vs : List V} {ds : List PyData} (h : At B (DpM K vs ds P :: l) H) : DpAll K B vs ds ∧ At B (P :: l) H := by
  obtain ⟨S, h1, T, ⟨x, h2⟩, h3⟩ := h
  exact ⟨x, S, h1, T, h2, h3⟩
theorem at_dpm' {vs : List V} {ds : List PyData} (x : DpAll K B vs ds) (h : At B (P :: l) H) : At B (DpM K vs ds P :: l) H := by
  obtain ⟨S, h1, T, h2, h3⟩ := h
  exact ⟨S, h1, T, ⟨x, h2⟩, h3⟩
theorem upd_cut {S : Addr → Bool} (hS : S a = false) : cutIn S (upd H a o) = cutIn S H := by
  funext b
  by_cases q : b = a
  · rw [q, cutIn_no hS, cutIn_no hS]
  · unfold cutIn
    rw [upd_ne q]
/-- what stands at one of the places is written -/
theorem star_upd (h : (Star (Pt a o) P).p B H) : (Star (Pt a u) P).p B (upd H a u) := by
  obtain ⟨S, h1, h2⟩ := h
  have hs := (cutIn_at (show cutIn S H a = some o from h1)).1
  refine ⟨S, ?_, ?_⟩
  · show cutIn S (upd H a u) a = some u
    rw [cutIn_yes hs, upd_same]
  · rw [upd_cut (S := fun b => !S b) (by rw [hs]; rfl)]
    exact h2
theorem cut_upd {S : Addr → Bool} (hS : S a = true) : cutIn S (upd H a o) = upd (cutIn S H) a o := by
  funext b
  by_cases q : b = a
  · rw [q, cutIn_yes hS, upd_same, upd_same]
  · rw [upd_ne q]
    unfold cutIn
    rw [upd_ne q]
theorem at_upd (i : Nat) (e : l[i]? = some (Pt a o)) (h : At B l H) : At B (l.set i (Pt a u)) (upd H a u) := by
  obtain ⟨S, h1, h2⟩ := h
  have hs : (!S a) = true := (cutIn_at (show cutIn (fun a => !S a) H a = some o from stars_at e h2)).1
  have hs' : S a = false := by
    cases q : S a
    · rfl
    · rw [q] at hs; cases hs
  refine ⟨S, by rw [upd_cut hs']; exact h1, ?_⟩
  rw [cut_upd hs]
  exact stars_put l i e (star_upd (stars_pull l i e h2))
/-- something new -/
theorem star_new (h : P.p B H) (np : H p = none) (e : Ex H H1) (hp : H1 p = some o) : (Star (Pt p o) P).p B H1 := by
  refine ⟨fun a => decide (a = p), ?_, P.m _ _ _ _ (Ex.refl B) (fun a u h => ?_) h⟩
  · show cutIn (fun a => decide (a = p)) H1 p = some o
    rw [cutIn_yes (decide_eq_true rfl)]
    exact hp
  · have ne : a ≠ p := ne_of_none h np
    rw [cutIn_yes (by show (!decide (a = p)) = true; rw [decide_eq_false ne]; rfl)]
    exact e a u h
theorem at_new (h : At B l H) (np : H p = none) (e : Ex H H1) (hp : H1 p = some o) : At B (Pt p o :: l) H1 := by
  obtain ⟨S, h1, h2⟩ := h
  refine ⟨fun a => S a && !decide (a = p), fun a u ha => ?_, ?_⟩
  · obtain ⟨q, hh⟩ := cutIn_at (h1 a u ha)
    rw [cutIn_yes (by show (S a && !decide (a = p)) = true; rw [q, decide_eq_false (ne_of_none hh np)]; rfl)]
    exact e a u hh
  · refine star_new (P := Stars l) (H := cutIn (fun a => !S a) H) h2 ?_ (fun a u ha => ?_) ?_
    · unfold cutIn
      split
      · exact np
      · rfl
    · obtain ⟨q, hh⟩ := cutIn_at ha
      rw [cutIn_yes (by
        show (!(S a && !decide (a = p))) = true
        cases hs : S a
        · rfl
        · rw [hs] at q; cases q)]
      exact e a u hh
    · rw [cutIn_yes (by show (!(S p && !decide (p = p))) = true; rw [decide_eq_true rfl]; simp)]
      exact hp
/-- a new thing that belongs to the base from now on: all that is new does -/
theorem at_grow (h : At B l H) (e : Ex H H1) : At (ov B H H1) l H1 := by
  obtain ⟨S, h1, h2⟩ := h
  refine ⟨fun a => S a || (H a).isNone, ?_, (Stars l).m _ _ _ _ ov_base (fun a o ha => ?_) h2⟩
  · intro a o ha
    unfold ov at ha
    cases hb : B a with
    | some o' =>
      rw [hb] at ha
      have hc := h1 a o' hb
      obtain ⟨q, hh⟩ := cutIn_at hc
      rw [cutIn_yes (by show (S a || (H a).isNone) = true; rw [q]; rfl), ← ha]
      exact e a o' hh
    | none =>
      rw [hb] at ha
      cases h0 : H a with
      | some o' => rw [h0] at ha; cases ha
      | none =>
        rw [h0] at ha
        rw [cutIn_yes (by show (S a || (H a).isNone) = true; rw [h0]; simp)]
        exact ha
  · obtain ⟨q, hh⟩ := cutIn_at ha
    rw [cutIn_yes (by
      show (!(S a || (H a).isNone)) = true
      rw [hh]
      cases hs : S a
      · rfl
      · rw [hs] at q; cases q)]
    exact e a o hh
/-- what stood apart belongs to the base from now on -/
theorem at_freeze (h : At B (Pt p o :: l) H) : Ex B (upd B p o) ∧ At (upd B p o) l H := by
  obtain ⟨S, h1, T, h2, h3⟩ := h
  rw [cut_cut] at h2 h3
  have hq := cutIn_at (show cutIn (fun a => !S a && T a) H p = some o from h2)
  have hs : S p = false := by
    have := hq.1
    cases hs : S p
    · rfl
    · rw [hs] at this; cases this
  have hn : B p = none := by
    cases hb : B p with
    | none => rfl
    | some o' =>
      have hc := (cutIn_at (h1 p o' hb)).1
      rw [hs] at hc
      cases hc
  refine ⟨Ex.new hn, fun a => S a || decide (a = p), ?_, (Stars l).m _ _ _ _ (Ex.new hn) (fun a u ha => ?_) h3⟩
  · intro a u ha
    by_cases q : a = p
    · rw [q, upd_same] at ha
      rw [q, cutIn_yes (by show (S p || decide (p = p)) = true; rw [decide_eq_true rfl]; simp)]
      rw [hq.2]
      exact ha
    · rw [upd_ne q] at ha
      obtain ⟨k, hh⟩ := cutIn_at (h1 a u ha)
      rw [cutIn_yes (by show (S a || decide (a = p)) = true; rw [k]; rfl)]
      exact hh
  · obtain ⟨k, hh⟩ := cutIn_at ha
    have k : (!S a && !T a) = true := k
    have ne : a ≠ p := fun e => by
      have k2 := hq.1
      rw [e] at k
      cases hs2 : S p <;> cases ht : T p <;> simp [hs2, ht] at k k2
    rw [cutIn_yes (by
      show (!(S a || decide (a = p))) = true
      rw [decide_eq_false ne]
      cases hs : S a
      · rfl
      · rw [hs] at k; cases k)]
    exact hh
end
/-! ### rows of things that stand apart -/
theorem map_erase {α β : Type} (f : α → β) : ∀ (xs : List α) (i : Nat), (xs.map f).eraseIdx i = (xs.eraseIdx i).map f
  | [], _ => rfl
  | x :: xs, 0 => rfl
  | x :: xs, i + 1 => by
    show f x :: (xs.map f).eraseIdx i = _
    rw [map_erase f xs i]
    rfl
section
variable {α : Type} {B H : Hp} {l : List MP} {xs : List α} {f : α → MP} {i : Nat} {x x' : α}
theorem each_at (h : At B (Each xs f :: l) H) (e : xs[i]? = some x) : At B (f x :: Each (xs.eraseIdx i) f :: l) H := by
  have h1 : At B (Stars (f x :: (xs.map f).eraseIdx i) :: l) H := at_map (l := Each xs f :: l) (l' := Stars (f x :: (xs.map f).eraseIdx i) :: l) (fun _ h => star_mono (P := Stars (xs.map f)) (fun _ h => stars_pull (xs.map f) i (by rw [List.getElem?_map, e]; rfl) h) (fun _ h => h) h) h
  rw [map_erase f xs i] at h1
  exact at_split h1
theorem each_set (hi : i < xs.length) (h : At B (f x' :: Each (xs.eraseIdx i) f :: l) H) : At B (Each (xs.set i x') f :: l) H := by
  have h1 := at_join h
  have e2 : Each (xs.set i x') f = Stars ((xs.map f).set i (f x')) := by
    unfold Each
    rw [List.map_set]
  rw [e2]
  refine at_map (l := Star (f x') (Each (xs.eraseIdx i) f) :: l) (l' := Stars ((xs.map f).set i (f x')) :: l) (fun _ h => star_mono (P := Star (f x') (Each (xs.eraseIdx i) f)) (fun _ h => stars_put (xs.map f) i (P := f xs[i]) (by rw [List.getElem?_map, List.getElem?_eq_getElem hi]; rfl) ?_) (fun _ h => h) h) h1
  rw [map_erase]
  exact h
theorem each_nil (h : At B l H) : At B (Each ([] : List α) f :: l) H := by
  refine at_map (l := l) (l' := Each ([] : List α) f :: l) (fun _ h => ?_) h
  exact ⟨fun _ => false, trivial, by
    rw [cut_all']
    exact h⟩
end
/-! ### another order -/
theorem stars_perm {l l' : List MP} (h : l.Perm l') : ∀ {B H : Hp}, (Stars l).p B H → (Stars l').p B H := by
  induction h with
  | nil => exact fun h => h
  | cons x _ ih => exact fun h => star_mono (P := x) (fun _ h => h) (fun _ h => ih h) h
  | swap x y l => exact fun h => star_swap h
  | trans _ _ ih1 ih2 => exact fun h => ih2 (ih1 h)
theorem at_perm {B H : Hp} {l l' : List MP} (p : l.Perm l') (h : At B l H) : At B l' H := at_map (fun _ h => stars_perm p h) h
theorem range_get {α : Type} (d : α) : ∀ l : List α, (List.range l.length).map (fun i => l.getD i d) = l := fun l => by
  refine List.ext_getElem (by simp) fun i h1 h2 => ?_
  simp [List.getD_eq_getElem?_getD, List.getElem?_eq_getElem h2]
theorem at_ix {B H : Hp} {l : List MP} (n : Nat) (is : List Nat) (h : At B l H) (hp : is.isPerm (List.range n) = true := by decide) (hn : n ≤ l.length := by simp) : At B (is.map (fun i => l.getD i Emp) ++ l.drop n) H := by
  refine at_perm ?_ h
  have p := List.isPerm_iff.mp hp
  have e : (List.range n).map (fun i => l.getD i Emp) = l.take n := by
    have e1 := range_get Emp (l.take n)
    rw [List.length_take, Nat.min_eq_left hn] at e1
    refine Eq.trans (List.map_congr_left fun i hi => ?_) e1
    have hi := List.mem_range.mp hi
    rw [List.getD_eq_getElem?_getD, List.getD_eq_getElem?_getD, List.getElem?_take_of_lt hi]
  have q := (p.map (fun i => l.getD i Emp)).append_right (l.drop n)
  rw [e, List.take_append_drop] at q
  exact q.symm
theorem each_app {α : Type} {B H : Hp} {l : List MP} {xs : List α} {f : α → MP} {x : α} (h : At B (f x :: Each xs f :: l) H) : At B (Each (xs ++ [x]) f :: l) H := by
  have h1 := at_join h
  have e : (f x :: xs.map f).Perm ((xs ++ [x]).map f) := by
    rw [List.map_append]
    exact (List.perm_append_singleton (f x) (xs.map f)).symm
  exact at_map (l := Star (f x) (Each xs f) :: l) (l' := Each (xs ++ [x]) f :: l) (fun _ h => star_mono (P := Stars (f x :: xs.map f)) (fun _ h => stars_perm e h) (fun _ h => h) h) h1
/-- an empty row, at the n-th place -/
theorem each_nil_at {α : Type} {B H : Hp} {l : List MP} {f : α → MP} (n : Nat) (h : At B l H) : At B (l.take n ++ Each ([] : List α) f :: l.drop n) H := by
  refine at_perm ?_ (each_nil (f := f) h)
  have := (List.perm_middle (a := Each ([] : List α) f) (l₁ := l.take n) (l₂ := l.drop n)).symm
  rwa [List.take_append_drop] at this
end Ap

set_option Elab.async false
set_option linter.all false
set_option maxRecDepth 100000
namespace Ap
open PySem PySem.Spec PyProof.Rows L2 Evl
/-! ### what evaluates to what where some things stand apart from a base: the base may grow, the rest stays -/
structure Rr where
  r : V → Hp → Prop
  m : ∀ {v : V} {B B' : Hp}, Ex B B' → r v B → r v B'
def rV (x : V) : Rr := ⟨fun v _ => v = x, fun _ h => h⟩
def rD (K : PySem.W.Frag) (d : PyData) : Rr := ⟨fun v B => Dp K B v d, fun e h => dp_mono e _ _ h⟩
def rN (φ : Int → Prop) : Rr := ⟨fun v _ => ∃ i, v = .int i ∧ φ i, fun _ h => h⟩
def rBo : Rr := ⟨fun v _ => ∃ b, v = .bl b, fun _ h => h⟩
def Wv (te : TE) (σ : L2.St) (B : Hp) (l : List MP) (R : Rr) : Prop := ∀ B1 H, Ex B B1 → At B1 l H → ∀ Q : VK, (∀ v B2 H2, Ex B1 B2 → At B2 l H2 → R.r v B2 → Q v H2) → te σ H Q
def Wa (K : PySem.W.Frag) (ta : TA) (σ : L2.St) (B : Hp) (l : List MP) (ds : List PyData) : Prop := ∀ B1 H, Ex B B1 → At B1 l H → ∀ Q : List V → Hp → Prop, (∀ vs B2 H2, Ex B1 B2 → At B2 l H2 → DpAll K B2 vs ds → Q vs H2) → ta σ H Q
section
variable {K : PySem.W.Frag} {σ : L2.St} {B B' H H' : Hp} {l l' : List MP} {ta tb te : TE} {t : TT} {x y v : V} {d : PyData} {ds : List PyData} {R R' : Rr} {P : MP} {i j : Nat} {a p : Addr} {o u : HO}
theorem Wv.up (e : Ex B B') (h : Wv te σ B l R) : Wv te σ B' l R := fun B1 H1 e1 hA Q q => h B1 H1 (e.trans e1) hA Q q
theorem Wv.to (hr : ∀ v B, R.r v B → R'.r v B) (h : Wv te σ B l R) : Wv te σ B l R' := fun B1 H1 e1 hA Q q => h B1 H1 e1 hA Q fun v B2 H2 e2 hA2 hv => q v B2 H2 e2 hA2 (hr v B2 hv)
/-- what is known without the base growing -/
theorem wv_of (h : ∀ B1 H, Ex B B1 → At B1 l H → Ev te σ H x) : Wv te σ B l (rV x) := fun B1 H1 e1 hA Q q => h B1 H1 e1 hA H1 (Ex.refl H1) Q fun H2 e2 => q x B1 H2 (Ex.refl B1) (at_ex hA e2) rfl
theorem wv_dp (h : Wv te σ B l (rV x)) (hd : Dp K B x d) : Wv te σ B l (rD K d) := fun B1 H1 e1 hA Q q => h B1 H1 e1 hA Q fun v B2 H2 e2 hA2 hv => q v B2 H2 e2 hA2 (by
  have hv : v = x := hv
  rw [hv]
  exact dp_mono (e1.trans e2) _ _ hd)
theorem wv_var (h : σ[i]? = some (some v)) (hd : Dp K B v d) : Wv (tVar i) σ B l (rD K d) := wv_dp (wv_of fun _ _ _ _ => ev_var h) hd
theorem wv_int {n : Int} (h : Wv te σ B l (rV (.int n))) : Wv te σ B l (rD K (.int n)) := wv_dp h (.int n)
theorem wv_str {z : Str} : Wv (tC (.str z)) σ B l (rD K (.str z)) := wv_dp (wv_of fun _ _ _ _ => ev_c) (.str z)
/-- data over the whole heap of now, told over the base -/
theorem wv_ed (h : ∀ B1, Ex B B1 → EvD K te σ B1 d) : Wv te σ B l (rD K d) := fun B1 H1 e1 hA Q q => h B1 e1 H1 (at_base hA) Q fun v H2 e2 hv => q v (ov B1 H1 H2) H2 ov_base (at_grow hA e2) hv
theorem wa_nil : Wa K tNil σ B l [] := fun B1 H1 _ hA Q q => q [] B1 H1 (Ex.refl B1) hA .nil
theorem wa_cons {tr : TA} (h : Wv te σ B l (rD K d)) (hr : Wa K tr σ B l ds) : Wa K (tCons te tr) σ B l (d :: ds) := fun B1 H1 e1 hA Q q =>
  h B1 H1 e1 hA _ fun v B2 H2 e2 hA2 hv => hr B2 H2 (e1.trans e2) hA2 _ fun vs B3 H3 e3 hA3 hs => q (v :: vs) B3 H3 (e2.trans e3) hA3 (.cons (dp_mono e3 _ _ hv) hs)
theorem at_tup {vs : List V} (hA : At B l H) (hp : H p = none) : Ex B (ov B H (upd H p (.tup vs))) ∧ At (ov B H (upd H p (.tup vs))) l (upd H p (.tup vs)) ∧ ov B H (upd H p (.tup vs)) p = some (.tup vs) :=
  ⟨ov_base, at_grow hA (Ex.new hp), ov_new (at_base hA) (Ex.refl H) hp⟩
theorem wv_tup {ta : TA} (h : Wa K ta σ B l ds) (hl : ds.length ≤ 100000) : Wv (tTup ta) σ B l (rD K (.tuple ds)) := fun B1 H1 e1 hA Q q =>
  h B1 H1 e1 hA _ fun vs B2 H2 e2 hA2 hs => ⟨by rw [dpa_len hs]; exact sz_of hl, fun p hp => by
    obtain ⟨k1, k2, k3⟩ := at_tup (vs := vs) hA2 hp
    exact q _ _ _ (e2.trans k1) k2 (.tup (st_of k3) (dpa_mono k1 _ _ hs))⟩
/-- a new list -/
def Wl (K : PySem.W.Frag) (te : TE) (σ : L2.St) (B : Hp) (l : List MP) (ds : List PyData) : Prop := ∀ B1 H, Ex B B1 → At B1 l H → ∀ Q : VK, (∀ p xs B2 H2, Ex B1 B2 → At B2 (Pt p (.lst xs) :: l) H2 → DpAll K B2 xs ds → Q (.ref p) H2) → te σ H Q
theorem wl_lst {ta : TA} (h : Wa K ta σ B l ds) (hl : ds.length ≤ 100000) : Wl K (tLst ta) σ B l ds := fun B1 H1 e1 hA Q q =>
  h B1 H1 e1 hA _ fun vs B2 H2 e2 hA2 hs => ⟨by rw [dpa_len hs]; exact sz_of hl, fun p hp => q p vs B2 _ e2 (at_new hA2 hp (Ex.new hp) upd_same) hs⟩
/-! ### statements -/
variable {D : Ends} {tz tu tw : TS}
theorem qe_asg (hA : At B l H) (h : Ev te σ H x) (k : ∀ H1, At B l H1 → tz D (σ.set i (some x)) H1) : tSeq (tAsg te (gName i)) tz D σ H := q_asg h fun H1 e => k H1 (at_ex hA e)
theorem se_asg (hA : At B l H) (h : Ev te σ H x) (k : ∀ H1, At B l H1 → D.nx (σ.set i (some x)) H1) : tAsg te (gName i) D σ H := s_asg h fun H1 e => k H1 (at_ex hA e)
theorem qw_asg (hA : At B l H) (h : Wv te σ B l R) (k : ∀ v B1 H1, Ex B B1 → At B1 l H1 → R.r v B1 → tz D (σ.set i (some v)) H1) : tSeq (tAsg te (gName i)) tz D σ H := h B H (Ex.refl B) hA _ fun v B1 H1 e1 hA1 hv => k v B1 H1 e1 hA1 hv
theorem sw_asg (hA : At B l H) (h : Wv te σ B l R) (k : ∀ v B1 H1, Ex B B1 → At B1 l H1 → R.r v B1 → D.nx (σ.set i (some v)) H1) : tAsg te (gName i) D σ H := h B H (Ex.refl B) hA _ fun v B1 H1 e1 hA1 hv => k v B1 H1 e1 hA1 hv
theorem qw_lst (hA : At B l H) (h : Wl K te σ B l ds) (k : ∀ p xs B1 H1, Ex B B1 → At B1 (Pt p (.lst xs) :: l) H1 → DpAll K B1 xs ds → tz D (σ.set i (some (.ref p))) H1) : tSeq (tAsg te (gName i)) tz D σ H := h B H (Ex.refl B) hA _ fun p xs B1 H1 e1 hA1 hv => k p xs B1 H1 e1 hA1 hv
theorem qe_lst {xs : List V} (hA : At B l H) (h : EvL te σ H xs) (k : ∀ p H1, At B (Pt p (.lst xs) :: l) H1 → tz D (σ.set i (some (.ref p))) H1) : tSeq (tAsg te (gName i)) tz D σ H := q_asgL h fun p H1 np e hp => k p H1 (at_new hA np e hp)
theorem sw_ret (hA : At B l H) (h : Wv te σ B l R) (k : ∀ v B1 H1, Ex B B1 → At B1 l H1 → R.r v B1 → D.rt v H1) : tRet te D σ H := h B H (Ex.refl B) hA _ fun v B1 H1 e1 hA1 hv => k v B1 H1 e1 hA1 hv
theorem se_ret (hA : At B l H) (h : Ev te σ H x) (k : ∀ H1, At B l H1 → D.rt x H1) : tRet te D σ H := s_ret h fun H1 e => k H1 (at_ex hA e)
theorem qe_when {b : Bool} (hA : At B l H) (h : EvT t σ H b) (h1 : b = true → ∀ H1, At B l H1 → tu { D with nx := tz D } σ H1) (h2 : b = false → ∀ H1, At B l H1 → tz D σ H1) : tSeq (tIfS t tu tNext) tz D σ H := q_when h (fun hb H1 e => h1 hb H1 (at_ex hA e)) (fun hb H1 e => h2 hb H1 (at_ex hA e))
theorem se_when {b : Bool} (hA : At B l H) (h : EvT t σ H b) (h1 : b = true → ∀ H1, At B l H1 → tu D σ H1) (h2 : b = false → ∀ H1, At B l H1 → D.nx σ H1) : tIfS t tu tNext D σ H := s_when h (fun hb H1 e => h1 hb H1 (at_ex hA e)) (fun hb H1 e => h2 hb H1 (at_ex hA e))
theorem qe_if {b : Bool} (hA : At B l H) (h : EvT t σ H b) (h1 : b = true → ∀ H1, At B l H1 → tu { D with nx := tz D } σ H1) (h2 : b = false → ∀ H1, At B l H1 → tw { D with nx := tz D } σ H1) : tSeq (tIfS t tu tw) tz D σ H := q_if h (fun hb H1 e => h1 hb H1 (at_ex hA e)) (fun hb H1 e => h2 hb H1 (at_ex hA e))
theorem se_if {b : Bool} (hA : At B l H) (h : EvT t σ H b) (h1 : b = true → ∀ H1, At B l H1 → tu D σ H1) (h2 : b = false → ∀ H1, At B l H1 → tw D σ H1) : tIfS t tu tw D σ H := s_if h (fun hb H1 e => h1 hb H1 (at_ex hA e)) (fun hb H1 e => h2 hb H1 (at_ex hA e))
/-- l.append(e) -/
theorem qe_app {q : Addr} {xs : List V} (k : Nat) (hk : l[k]? = some (Pt q (.lst xs))) (hA : At B l H) (ha : Ev ta σ H (.ref q)) (h : Ev te σ H v) (hz : xs.length < 100000) (c : ∀ H1, At B (l.set k (Pt q (.lst (xs ++ [v])))) H1 → tz D σ H1) : tSeq (tDrop (tBM K "list" rAppend ta (tCons te tNil))) tz D σ H :=
  q_app (at_get k hk hA) ha h hz fun H1 e => c _ (at_upd k hk (at_ex hA e))
theorem se_app {q : Addr} {xs : List V} (k : Nat) (hk : l[k]? = some (Pt q (.lst xs))) (hA : At B l H) (ha : Ev ta σ H (.ref q)) (h : Ev te σ H v) (hz : xs.length < 100000) (c : ∀ H1, At B (l.set k (Pt q (.lst (xs ++ [v])))) H1 → D.nx σ H1) : tDrop (tBM K "list" rAppend ta (tCons te tNil)) D σ H :=
  s_app (at_get k hk hA) ha h hz fun H1 e => c _ (at_upd k hk (at_ex hA e))
theorem sw_app {q : Addr} {xs : List V} (k : Nat) (hk : l[k]? = some (Pt q (.lst xs))) (hA : At B l H) (ha : ∀ H1, Ev ta σ H1 (.ref q)) (h : Wv te σ B l R) (hz : xs.length < 100000) (c : ∀ v B1 H1, Ex B B1 → R.r v B1 → At B1 (l.set k (Pt q (.lst (xs ++ [v])))) H1 → D.nx σ H1) : tDrop (tBM K "list" rAppend ta (tCons te tNil)) D σ H :=
  ha H H (Ex.refl H) _ fun H1 e1 => ⟨.inl ⟨rfl, xs, sq_of (at_get k hk (at_ex hA e1))⟩, h B H1 (Ex.refl B) (at_ex hA e1) _ fun v B2 H2 e2 hA2 hv => ⟨q, xs, v, rfl, rfl, at_get k hk hA2, sz_lt hz, c v B2 _ e2 hv (at_upd k hk hA2)⟩⟩
theorem qw_app {q : Addr} {xs : List V} (k : Nat) (hk : l[k]? = some (Pt q (.lst xs))) (hA : At B l H) (ha : ∀ H1, Ev ta σ H1 (.ref q)) (h : Wv te σ B l R) (hz : xs.length < 100000) (c : ∀ v B1 H1, Ex B B1 → R.r v B1 → At B1 (l.set k (Pt q (.lst (xs ++ [v])))) H1 → tz D σ H1) : tSeq (tDrop (tBM K "list" rAppend ta (tCons te tNil))) tz D σ H :=
  sw_app (D := { D with nx := tz D }) k hk hA ha h hz c
/-! ### objects and dicts -/
theorem ev_fld {C dx : Addr} {fs : List (Str × V)} {f : Str} (h : Ev ta σ H (.ref a)) (ha : H a = some (.ins C dx fs)) (c : Cls K C) (n : NoAttr K C f) (hl : fs.lookup f = some v) : Ev (tFld K ta f) σ H v := fun H1 e Q q => h H1 e _ fun H2 e2 => ⟨a, C, dx, fs, v, rfl, (e.trans e2) _ _ ha, c, n, hl, q H2 e2⟩
theorem ev_din {ty td : TE} {kvs : List (Key × V)} {k : Key} (hk : Ev ty σ H (kV k)) (hd : Ev td σ H (.ref a)) (h : H a = some (.dK kvs)) : Ev (tDIn ty td) σ H (.bl (valV kvs k).isSome) := fun H1 e Q q => hk H1 e _ fun H2 e2 => hd H2 (e.trans e2) _ fun H3 e3 => ⟨a, valV kvs k, rfl, .inl ⟨kvs, k, .inl (((e.trans e2).trans e3) _ _ h), rfl, rfl⟩, q H3 (e2.trans e3)⟩
theorem ev_dni {ty td : TE} {kvs : List (Key × V)} {k : Key} (hk : Ev ty σ H (kV k)) (hd : Ev td σ H (.ref a)) (h : H a = some (.dK kvs)) : Ev (tDNotIn ty td) σ H (.bl (!(valV kvs k).isSome)) := fun H1 e Q q => hk H1 e _ fun H2 e2 => hd H2 (e.trans e2) _ fun H3 e3 => ⟨a, valV kvs k, rfl, .inl ⟨kvs, k, .inl (((e.trans e2).trans e3) _ _ h), rfl, rfl⟩, q H3 (e2.trans e3)⟩
theorem qe_fld {C dx : Addr} {fs : List (Str × V)} {f : Str} (k : Nat) (hk : l[k]? = some (Pt a (.ins C dx fs))) (hA : At B l H) (hv : Ev tb σ H y) (ho : ∀ H1, Ev ta σ H1 (.ref a)) (c : Cls K C) (n : NoAttr K C f) (hl : fs.length < 1000) (g : ∀ H1, At B (l.set k (Pt a (.ins C dx (putF f y fs)))) H1 → tz D σ H1) : tSeq (sFld K ta tb f) tz D σ H :=
  hv H (Ex.refl H) _ fun H1 e1 => ho H1 H1 (Ex.refl H1) _ fun H2 e2 => ⟨a, C, dx, fs, rfl, at_get k hk (at_ex hA (e1.trans e2)), c, n, hl, g _ (at_upd k hk (at_ex hA (e1.trans e2)))⟩
theorem se_fld {C dx : Addr} {fs : List (Str × V)} {f : Str} (k : Nat) (hk : l[k]? = some (Pt a (.ins C dx fs))) (hA : At B l H) (hv : Ev tb σ H y) (ho : ∀ H1, Ev ta σ H1 (.ref a)) (c : Cls K C) (n : NoAttr K C f) (hl : fs.length < 1000) (g : ∀ H1, At B (l.set k (Pt a (.ins C dx (putF f y fs)))) H1 → D.nx σ H1) : sFld K ta tb f D σ H :=
  hv H (Ex.refl H) _ fun H1 e1 => ho H1 H1 (Ex.refl H1) _ fun H2 e2 => ⟨a, C, dx, fs, rfl, at_get k hk (at_ex hA (e1.trans e2)), c, n, hl, g _ (at_upd k hk (at_ex hA (e1.trans e2)))⟩
/-- o.f = {} -/
theorem qe_fldD {C dx : Addr} {fs : List (Str × V)} {f : Str} (k : Nat) (hk : l[k]? = some (Pt a (.ins C dx fs))) (hA : At B l H) (ho : ∀ H1, Ev ta σ H1 (.ref a)) (c : Cls K C) (n : NoAttr K C f) (hl : fs.length < 1000) (g : ∀ p H1, At B (Pt p (.dK []) :: l.set k (Pt a (.ins C dx (putF f (.ref p) fs)))) H1 → tz D σ H1) : tSeq (sFld K ta tDNewK f) tz D σ H := fun p hp =>
  have hA1 := at_new hA hp (Ex.new hp) upd_same
  ho _ _ (Ex.refl _) _ fun H2 e2 => ⟨a, C, dx, fs, rfl, at_get (k + 1) (by simpa using hk) (at_ex hA1 e2), c, n, hl, g p _ (by
    have h := at_upd (u := .ins C dx (putF f (.ref p) fs)) (k + 1) (by simpa using hk) (at_ex hA1 e2)
    simpa using h)⟩
theorem se_fldD {C dx : Addr} {fs : List (Str × V)} {f : Str} (k : Nat) (hk : l[k]? = some (Pt a (.ins C dx fs))) (hA : At B l H) (ho : ∀ H1, Ev ta σ H1 (.ref a)) (c : Cls K C) (n : NoAttr K C f) (hl : fs.length < 1000) (g : ∀ p H1, At B (Pt p (.dK []) :: l.set k (Pt a (.ins C dx (putF f (.ref p) fs)))) H1 → D.nx σ H1) : sFld K ta tDNewK f D σ H :=
  qe_fldD (tz := fun D => D.nx) k hk hA ho c n hl g
/-- C(..) -/
theorem make_at {C : Addr} {sp : Sp} {E : XK} {ta : TA} {vs : List V} {Q : VK} (hA : At B l H) (h : EvA ta σ H vs) (k : ∀ x dx H1, At B (Pt x (.ins C dx []) :: l) H1 → sp (.ref x :: (vs ++ [])) H1 (fun v H2 => v = .non ∧ Q (.ref x) H2) E) : tMake C sp [] E ta σ H Q := h H (Ex.refl H) _ fun H1 e1 x dx nx ndx ne => by
  have h1 := at_new (at_ex hA e1) ndx (Ex.new ndx) (upd_same (o := .own x))
  have nx' : upd H1 dx (.own x) x = none := by rw [upd_ne (Ne.symm ne)]; exact nx
  have h2 := at_new h1 nx' (Ex.new nx') (upd_same (o := .ins C dx []))
  exact k x dx _ (at_drop (at_swap h2))
end
mutual
theorem dp_dx {K : PySem.W.Frag} {H : Hp} : ∀ (d : PyData) (v : V), Dp K H v d → Dx K H v d
  | .none, _, h => by cases h; exact .non
  | .bool b, _, h => by cases h; exact .bl b
  | .int i, _, h => by cases h; exact .int i
  | .str x, _, h => by cases h; exact .str x
  | .list ds, _, h => by
    cases h with
    | lst hs ha => exact .lst hs (dpa_dxa ds _ ha)
  | .tuple ds, _, h => by
    cases h with
    | tup hs ha => exact .tup hs (dpa_dxa ds _ ha)
  | .dict _, _, h => by cases h
theorem dpa_dxa {K : PySem.W.Frag} {H : Hp} : ∀ (ds : List PyData) (vs : List V), DpAll K H vs ds → DxAll K H vs ds
  | [], _, h => by cases h; exact .nil
  | d :: ds, _, h => by
    cases h with
    | cons h1 h2 => exact .cons (dp_dx d _ h1) (dpa_dxa ds _ h2)
end
def isLst : PyData → Bool
  | .list _ => true
  | _ => false
theorem kit_lst : ∀ d : PyData, kitB (tyN d) "list" = some (isLst d)
  | .none => (by decide +kernel : kitB "NoneType" "list" = some false)
  | .bool _ => (by decide +kernel : kitB "bool" "list" = some false)
  | .int _ => (by decide +kernel : kitB "int" "list" = some false)
  | .str _ => (by decide +kernel : kitB "str" "list" = some false)
  | .list _ => (by decide +kernel : kitB "list" "list" = some true)
  | .tuple _ => (by decide +kernel : kitB "tuple" "list" = some false)
  | .dict _ => (by decide +kernel : kitB "dict" "list" = some false)
theorem kitAny2 {K : PySem.W.Frag} {X T1 T2 : String} {b1 b2 : Bool} (h1 : kitB X T1 = some b1) (h2 : kitB X T2 = some b2) : PySem.W.kitAny K (.type X) [.type T1, .type T2] = some (b1 || b2) := by
  refine kitAny_cons (kit_ty h1) (fun e => ?_) (fun e => by rw [e]; rfl)
  rw [e, Bool.false_or]
  exact kitAny_cons (kit_ty h2) (fun e => by rw [e]; exact kitAny_nil) (fun e => e)
section
variable {K : PySem.W.Frag} {σ : L2.St} {H : Hp} {te ta tb : TE} {d : PyData} {ds : List PyData} {T T1 T2 : String} {b b1 b2 : Bool}
/-- isinstance(x, (T1, T2)) -/
theorem ev_isiT2 (h : EvX K te σ H d) (h1 : kitB (tyN d) T1 = some b1) (h2 : kitB (tyN d) T2 = some b2) : Ev (tCB (rIsiT K) (tCons te (tCons (tTup (tCons (tC (.ty T1)) (tCons (tC (.ty T2)) tNil))) tNil))) σ H (.bl (b1 || b2)) := fun H1 e Q q => h H1 e _ fun v H2 e2 hv => ⟨sz_of (by decide : 2 ≤ 100000), fun p hp =>
  ⟨v, p, [.ty T1, .ty T2], .type (tyN d), [.type T1, .type T2], b1 || b2, rfl, upd_same, .cons (.ty T1) (.cons (.ty T2) .nil), tyx_dx (dx_mono ((ov_ex e e2).trans (Ex.new hp)) d v hv), kitAny2 h1 h2, q _ (e2.trans (Ex.new hp))⟩⟩
theorem ev_lenX2 (h : d = .list ds ∨ d = .tuple ds) (ha : EvX K ta σ H d) : Ev (tCB (fun xs H Q => ∃ p ys, xs = [.ref p] ∧ (SqL K H p ys ∨ SqT K H p ys) ∧ Q (.int ys.length) H) (tCons ta tNil)) σ H (.int (ds.length : Int)) := by
  rcases h with rfl | rfl
  · exact ev_lenX ha
  · exact ev_lenXT ha
theorem ex_ix2 {i : Int} {e : PyData} (h : d = .list ds ∨ d = .tuple ds) (ha : EvX K ta σ H d) (hb : Ev tb σ H (.int i)) (hi : atI ds i = some e) : EvX K (tOp (rIx K) ta tb) σ H e := fun H1 e1 Q q =>
  ha H1 e1 _ fun v H2 e2 hv => hb H2 (e1.trans e2) _ fun H3 e3 => by
    rcases h with rfl | rfl
    · cases hv with
      | lst hs hd =>
        obtain ⟨j, hj, hx⟩ := atI_len (dxa_len hd) hi
        obtain ⟨x, ex, dx⟩ := dxa_at hd hj
        exact .inl ⟨_, _, i, x, rfl, rfl, Evl.ex_l ((ov_ex e1 e2).trans e3) hs, hx x ex, q x H3 (e2.trans e3) (dx_mono (ov_grow e3) _ x dx)⟩
    · cases hv with
      | tup hs hd =>
        obtain ⟨j, hj, hx⟩ := atI_len (dxa_len hd) hi
        obtain ⟨x, ex, dx⟩ := dxa_at hd hj
        exact .inr (.inl ⟨_, _, i, x, rfl, rfl, ex_t ((ov_ex e1 e2).trans e3) hs, hx x ex, q x H3 (e2.trans e3) (dx_mono (ov_grow e3) _ x dx)⟩)
/-- a call on data: its arguments known as data alone -/
theorem ev_callD {sp : Sp} {E : XK} {ta : TA} {x : V} (h : EvXs K ta σ H ds) (hs : ∀ vs H1, Ex H H1 → DxAll K H1 vs ds → ∀ Q : VK, (∀ H2, Ex H1 H2 → Q x H2) → sp (vs ++ []) H1 Q E) : Ev (tCall sp [] E ta) σ H x := fun H1 e Q q => h H1 e _ fun vs H2 e2 hv => hs vs H2 (e.trans e2) (dxa_mono (ov_ex e e2) _ _ hv) Q fun H3 e3 => q H3 (e2.trans e3)
end
/-- bounded, and no dict within -/
inductive Okn : Nat → PyData → Prop
  | non {n : Nat} : Okn n .none
  | bl {n : Nat} (b : Bool) : Okn n (.bool b)
  | int {n : Nat} (i : Int) : Okn n (.int i)
  | str {n : Nat} (x : Str) : Okn n (.str x)
  | lst {n : Nat} {ds : List PyData} (h : ds.length ≤ 50000) (hs : ∀ d, d ∈ ds → Okn n d) : Okn (n + 1) (.list ds)
  | tup {n : Nat} {ds : List PyData} (h : ds.length ≤ 50000) (hs : ∀ d, d ∈ ds → Okn n d) : Okn (n + 1) (.tuple ds)
theorem Okn.mono {n m : Nat} {d : PyData} (h : Okn n d) : n ≤ m → Okn m d := by
  induction h generalizing m with
  | non => exact fun _ => .non
  | bl b => exact fun _ => .bl b
  | int i => exact fun _ => .int i
  | str x => exact fun _ => .str x
  | lst h hs ih =>
    intro hl
    obtain ⟨k, rfl⟩ : ∃ k, m = k + 1 := ⟨m - 1, by omega⟩
    exact .lst h fun d hd => ih d hd (by omega)
  | tup h hs ih =>
    intro hl
    obtain ⟨k, rfl⟩ : ∃ k, m = k + 1 := ⟨m - 1, by omega⟩
    exact .tup h fun d hd => ih d hd (by omega)
theorem okn_nil {n : Nat} : ∀ d, d ∈ ([] : List PyData) → Okn n d := fun _ h => nomatch h
theorem okn_cons {n : Nat} {e : PyData} {ds : List PyData} (h : Okn n e) (hs : ∀ d, d ∈ ds → Okn n d) : ∀ d, d ∈ e :: ds → Okn n d := fun d hd => by
  rcases List.mem_cons.mp hd with rfl | hd
  · exact h
  · exact hs d hd
def spSame (K : PySem.W.Frag) (n : Nat) : Sp := fun vs H Q _ => ∃ (x y : V) (d : PyData), vs = [x, y] ∧ Dx K H x d ∧ Dx K H y d ∧ Okn n d ∧ RetV (.bl true) H Q
theorem spSame_v {K : PySem.W.Frag} {n : Nat} {H : Hp} {x y : V} {d : PyData} (hx : Dx K H x d) (hy : Dx K H y d) (ok : Okn n d) : SpV (spSame K n) [x, y] H (.bl true) := fun H1 e Q q _ => ⟨x, y, d, rfl, dx_mono e _ _ hx, dx_mono e _ _ hy, ok, fun H2 e2 => q H2 e2⟩
theorem et_isN {σ : L2.St} {H : Hp} {ta : TE} {x : V} (h : Ev ta σ H x) : EvT (tTest (tOp (fun x y H Q => y = .non ∧ Q (.bl (decide (x = .non))) H) ta (tC .non))) σ H (decide (x = .non)) := et_test (ev_op h ev_c (fun G _ _ q => ⟨rfl, q G (Ex.refl G)⟩))
theorem ev_isN {σ : L2.St} {H : Hp} {ta : TE} {x : V} (h : Ev ta σ H x) : Ev (tOp (fun x y H Q => y = .non ∧ Q (.bl (decide (x = .non))) H) ta (tC .non)) σ H (.bl (decide (x = .non))) := ev_op h ev_c (fun G _ _ q => ⟨rfl, q G (Ex.refl G)⟩)
theorem rv_eqT {H : Hp} {x : V} (h : scal x x = true) : RV rEq x x H (.bl true) := by
  have := rv_eq (H := H) h
  rwa [decide_eq_true rfl] at this
/-! ### dicts whose keys are integers -/
def dI {α : Type} (kf : α → Int) (vf : α → V) (os : List α) : List (Key × V) := os.map fun o => (Sum.inl (kf o), vf o)
section
variable {α : Type} {kf : α → Int} {vf : α → V} {os : List α} {i : Nat} {o o' : α} {t : Int}
theorem dI_len : (dI kf vf os).length = os.length := List.length_map _
theorem dI_app {a b : List α} : dI kf vf (a ++ b) = dI kf vf a ++ dI kf vf b := List.map_append
theorem dI_keys : (dI kf vf os).map (·.1) = (os.map kf).map Sum.inl := by
  unfold dI
  rw [List.map_map, List.map_map]
  rfl
theorem dI_none : ∀ {os : List α}, (∀ o ∈ os, kf o ≠ t) → valV (dI kf vf os) (Sum.inl t) = none
  | [], _ => rfl
  | o :: r, h => by
    show valV ((Sum.inl (kf o), vf o) :: dI kf vf r) (Sum.inl t : Key) = none
    rw [valV_neg (fun e => h o List.mem_cons_self (Sum.inl.inj e))]
    exact dI_none fun p hp => h p (List.mem_cons_of_mem _ hp)
theorem dI_put (h : ∀ o ∈ os, kf o ≠ kf o') : putK (dI kf vf os) (Sum.inl (kf o')) (vf o') = dI kf vf (os ++ [o']) := (putK_new _ (dI_none h)).trans (dI_app (kf := kf) (vf := vf) (a := os) (b := [o'])).symm
theorem nd_ne {p : α} {r : List α} (nd : ((p :: r).map kf).Nodup) (h : r[i]? = some o) : ¬ (Sum.inl (kf p) : Key) = Sum.inl (kf o) := fun e => (List.nodup_cons.mp nd).1 (by
  rw [Sum.inl.inj e]
  exact List.mem_map.mpr ⟨o, List.mem_of_getElem? h, rfl⟩)
theorem dI_some : ∀ {os : List α} {i : Nat}, (os.map kf).Nodup → os[i]? = some o → valV (dI kf vf os) (Sum.inl (kf o)) = some (vf o)
  | [], i, _, h => by simp at h
  | p :: r, 0, _, h => by
    have e : p = o := by simpa using h
    subst e
    exact valV_pos (p := ((Sum.inl (kf p) : Key), vf p)) rfl
  | p :: r, i + 1, nd, h => by
    have h' : r[i]? = some o := by simpa using h
    show valV ((Sum.inl (kf p), vf p) :: dI kf vf r) (Sum.inl (kf o) : Key) = _
    rw [valV_neg (nd_ne nd h')]
    exact dI_some (List.nodup_cons.mp nd).2 h'
theorem dI_drop : ∀ {os : List α} {i : Nat}, (os.map kf).Nodup → os[i]? = some o → dropK (dI kf vf os) (Sum.inl (kf o)) = dI kf vf (os.eraseIdx i)
  | [], i, _, h => by simp at h
  | p :: r, 0, nd, h => by
    have e : p = o := by simpa using h
    subst e
    show dropK ((Sum.inl (kf p), vf p) :: dI kf vf r) (Sum.inl (kf p) : Key) = dI kf vf r
    rw [dropK_pos (κ := Key) (p := ((Sum.inl (kf p) : Key), vf p)) rfl]
    refine dropK_no fun hm => (List.nodup_cons.mp nd).1 ?_
    rw [dI_keys] at hm
    obtain ⟨y, hy, e⟩ := List.mem_map.mp hm
    rwa [Sum.inl.inj e] at hy
  | p :: r, i + 1, nd, h => by
    have h' : r[i]? = some o := by simpa using h
    show dropK ((Sum.inl (kf p), vf p) :: dI kf vf r) (Sum.inl (kf o) : Key) = (Sum.inl (kf p), vf p) :: dI kf vf (r.eraseIdx i)
    rw [dropK_neg (κ := Key) (p := ((Sum.inl (kf p) : Key), vf p)) (nd_ne nd h'), dI_drop (List.nodup_cons.mp nd).2 h']
theorem dI_set (nd : (os.map kf).Nodup) (h : os[i]? = some o) (hk : kf o' = kf o) : putK (dI kf vf os) (Sum.inl (kf o)) (vf o') = dI kf vf (os.set i o') := by
  unfold putK
  rw [valV_any, dI_some nd h, if_pos (by rfl)]
  induction os generalizing i with
  | nil => simp at h
  | cons p r ih =>
    have hn := List.nodup_cons.mp nd
    cases i with
    | zero =>
      have e : p = o := by simpa using h
      subst e
      show (if (Sum.inl (kf p) : Key) = Sum.inl (kf p) then (Sum.inl (kf p), vf o') else (Sum.inl (kf p), vf p)) :: (dI kf vf r).map _ = (Sum.inl (kf o'), vf o') :: dI kf vf r
      rw [if_pos rfl, hk]
      congr 1
      have hid : ∀ x ∈ dI kf vf r, (fun kv : Key × V => if kv.1 = Sum.inl (kf p) then (kv.1, vf o') else kv) x = x := fun x hx => by
        obtain ⟨y, hy, rfl⟩ := List.mem_map.mp hx
        refine if_neg fun e => hn.1 ?_
        rw [← Sum.inl.inj e]
        exact List.mem_map.mpr ⟨y, hy, rfl⟩
      rw [List.map_congr_left hid, List.map_id']
    | succ i =>
      have h' : r[i]? = some o := by simpa using h
      show (if (Sum.inl (kf p) : Key) = Sum.inl (kf o) then (Sum.inl (kf p), vf o') else (Sum.inl (kf p), vf p)) :: (dI kf vf r).map _ = (Sum.inl (kf p), vf p) :: dI kf vf (r.set i o')
      rw [if_neg (nd_ne nd h')]
      congr 1
      exact ih hn.2 h'
end
section
variable {K : PySem.W.Frag} {σ : L2.St} {B H : Hp} {l : List MP} {ta td ty tv : TE} {x y v : V} {R : Rr} {a : Addr} {D : Ends} {tz : TS}
/-- o.f += e -/
theorem qe_faug {C dx : Addr} {fs : List (Str × V)} {f : Str} {i j : Int} (k : Nat) (hk : l[k]? = some (Pt a (.ins C dx fs))) (hA : At B l H) (ho : Ev ta σ H (.ref a)) (hv : ∀ H1, Ev tv σ H1 (.int j)) (c : Cls K C) (n : NoAttr K C f) (hf : fs.lookup f = some (.int i)) (hl : fs.length < 1000)
    (g : ∀ H1, At B (l.set k (Pt a (.ins C dx (putF f (.int (i + j)) fs)))) H1 → tz D σ H1) : tSeq (sFldAug K ta tv rAdd f) tz D σ H :=
  ho H (Ex.refl H) _ fun H1 e1 => ⟨a, C, dx, fs, .int i, rfl, at_get k hk (at_ex hA e1), c, n, hf, hv H1 H1 (Ex.refl H1) _ fun H2 e2 => ⟨i, j, rfl, rfl, dx, fs, at_get k hk (at_ex hA (e1.trans e2)), hl, g _ (at_upd k hk (at_ex hA (e1.trans e2)))⟩⟩
/-- d[k] = e -/
theorem qw_put {kvs : List (Key × V)} {key : Key} (k : Nat) (hk : l[k]? = some (Pt a (.dK kvs))) (hA : At B l H) (hv : Wv tv σ B l R) (hd : ∀ B1 H1, Ex B B1 → At B1 l H1 → Ev td σ H1 (.ref a)) (hy : ∀ B1 H1, Ex B B1 → At B1 l H1 → Ev ty σ H1 (kV key)) (hz : kvs.length < 100000)
    (g : ∀ v B1 H1, Ex B B1 → R.r v B1 → At B1 (l.set k (Pt a (.dK (putK kvs key v)))) H1 → tz D σ H1) : tSeq (sDPut td ty tv) tz D σ H :=
  hv B H (Ex.refl B) hA _ fun v B1 H1 b1 hA1 hr => hd B1 H1 b1 hA1 H1 (Ex.refl H1) _ fun H2 e2 => hy B1 H2 b1 (at_ex hA1 e2) H2 (Ex.refl H2) _ fun H3 e3 => ⟨a, _, rfl, DPut.k (at_get k hk (at_ex hA1 (e2.trans e3))) (sz_lt hz), g v B1 _ b1 hr (at_upd k hk (at_ex hA1 (e2.trans e3)))⟩
/-- d[k] = a new list -/
theorem qe_putL {kvs : List (Key × V)} {key : Key} {xs : List V} (k : Nat) (hk : l[k]? = some (Pt a (.dK kvs))) (hA : At B l H) (hv : EvL tv σ H xs) (hd : ∀ p H1, At B (Pt p (.lst xs) :: l) H1 → Ev td σ H1 (.ref a)) (hy : ∀ p H1, At B (Pt p (.lst xs) :: l) H1 → Ev ty σ H1 (kV key)) (hz : kvs.length < 100000)
    (g : ∀ p H1, At B (Pt p (.lst xs) :: l.set k (Pt a (.dK (putK kvs key (.ref p))))) H1 → tz D σ H1) : tSeq (sDPut td ty tv) tz D σ H :=
  hv H (Ex.refl H) _ fun p H1 np e1 hp => by
    have hA1 := at_new hA np e1 hp
    refine hd p H1 hA1 H1 (Ex.refl H1) _ fun H2 e2 => hy p H2 (at_ex hA1 e2) H2 (Ex.refl H2) _ fun H3 e3 => ?_
    have hA3 := at_ex hA1 (e2.trans e3)
    refine ⟨a, _, rfl, DPut.k (at_get (k + 1) (by simpa using hk) hA3) (sz_lt hz), g p _ ?_⟩
    have h := at_upd (u := .dK (putK kvs key (.ref p))) (k + 1) (by simpa using hk) hA3
    simpa using h
/-- del d[k] -/
theorem qe_ddel {kvs : List (Key × V)} {key : Key} (k : Nat) (hk : l[k]? = some (Pt a (.dK kvs))) (hA : At B l H) (hd : Ev td σ H (.ref a)) (hy : ∀ H1, Ev ty σ H1 (kV key)) (hs : valV kvs key = some v)
    (g : ∀ H1, At B (l.set k (Pt a (.dK (dropK kvs key)))) H1 → tz D σ H1) : tSeq (sDDel td ty) tz D σ H :=
  hd H (Ex.refl H) _ fun H1 e1 => hy H1 H1 (Ex.refl H1) _ fun H2 e2 => ⟨a, kvs, key, rfl, at_get k hk (at_ex hA (e1.trans e2)), rfl, by rw [hs]; rfl, g _ (at_upd k hk (at_ex hA (e1.trans e2)))⟩
/-- return d.pop(k) -/
theorem se_retpop {kvs : List (Key × V)} {key : Key} (k : Nat) (hk : l[k]? = some (Pt a (.dK kvs))) (hA : At B l H) (hd : Ev td σ H (.ref a)) (hy : ∀ H1, Ev ty σ H1 (kV key)) (hs : valV kvs key = some v)
    (g : ∀ H1, At B (l.set k (Pt a (.dK (dropK kvs key)))) H1 → D.rt v H1) : tRet (tDPop1 td ty) D σ H :=
  hd H (Ex.refl H) _ fun H1 e1 => ⟨a, rfl, .inl ⟨kvs, .inl (at_get k hk (at_ex hA e1))⟩, hy H1 H1 (Ex.refl H1) _ fun H2 e2 => ⟨kvs, key, v, at_get k hk (at_ex hA (e1.trans e2)), rfl, hs, g _ (at_upd k hk (at_ex hA (e1.trans e2)))⟩⟩
end
theorem List.set_getElem?_self' {α : Type} : ∀ {l : List α} {i : Nat} {x : α}, l[i]? = some x → l.set i x = l
  | [], _, _, _ => rfl
  | y :: r, 0, x, h => by
    have e : y = x := by simpa using h
    rw [e, List.set_cons_zero]
  | y :: r, i + 1, x, h => by rw [List.set_cons_succ, List.set_getElem?_self' (by simpa using h)]
theorem perm_sorted : ∀ {xs ys : List Int}, xs.Perm ys → xs.Pairwise (· ≤ ·) → ys.Pairwise (· ≤ ·) → xs = ys
  | [], ys, p, _, _ => (List.nil_perm.mp p).symm ▸ rfl
  | x :: r, ys, p, hx, hy => by
    cases ys with
    | nil => exact absurd p.length_eq (by simp)
    | cons y t =>
      have h1 := List.pairwise_cons.mp hx
      have h2 := List.pairwise_cons.mp hy
      have e : x = y := by
        have m1 : x ∈ y :: t := p.subset List.mem_cons_self
        have m2 : y ∈ x :: r := p.symm.subset List.mem_cons_self
        rcases List.mem_cons.mp m1 with q | q
        · exact q
        · rcases List.mem_cons.mp m2 with q2 | q2
          · exact q2.symm
          · have := h1.1 y q2
            have := h2.1 x q
            omega
      subst e
      rw [perm_sorted (List.Perm.cons_inv p) h1.2 h2.2]
section
variable {K : PySem.W.Frag} {σ : L2.St} {B H : Hp} {l : List MP} {ta td te tl : TE} {t : TT} {x y v : V} {R : Rr} {a : Addr} {D : Ends} {tz tu : TS} {ds : List PyData}
/-- sorted(d), the keys of d ascending already -/
theorem el_sortedD {kvs : List (Key × V)} {ks : List Int} (hd : Ev td σ H (.ref a)) (h : H a = some (.dK kvs)) (hk : kvs.map (·.1) = ks.map Sum.inl) (h64 : ks.length < 64) (hs : ks.Pairwise (· ≤ ·)) :
    EvL (tCB (fun xs H Q => ∃ (a : Addr) (kvs : List (Key × V)) (ks : List Int), xs = [.ref a] ∧ Rd H a (.dK kvs) ∧ kvs.map (·.1) = ks.map Sum.inl ∧ ks.length < 64 ∧ ∀ (ys : List Int) (p : Addr), ys.Perm ks → ys.Pairwise (· ≤ ·) → H p = none → Q (.ref p) (upd H p (.lst (ys.map V.int)))) (tCons td tNil)) σ H (ks.map V.int) := fun H1 e Q q =>
  hd H1 e _ fun H2 e2 => ⟨a, kvs, ks, rfl, .inl ((e.trans e2) _ _ h), hk, h64, fun ys p hp hso np => by
    rw [perm_sorted hp hso hs]
    exact q p _ (fresh_back e2 np) (e2.trans (Ex.new np)) upd_same⟩
/-- for x in a new list -/
theorem qe_forNL {xs : List V} {j : Nat} (hA : At B l H) (h : EvL tl σ H xs) (Pv : Addr → Nat → L2.St → Hp → Prop) (h0 : ∀ p H1, At B (Pt p (.lst xs) :: l) H1 → Pv p 0 σ H1) (hl : ∀ p i σ' H', i ≤ xs.length → Pv p i σ' H' → H' p = some (.lst xs))
    (hs : ∀ p i x σ' H', xs[i]? = some x → Pv p i σ' H' → tu { D with nx := Pv p (i + 1), ct := Pv p (i + 1), bk := tz D } (σ'.set j (some x)) H') (hd : ∀ p σ' H', Pv p xs.length σ' H' → tz D σ' H') : tSeq (tFor (iList K tl) (gName j) tu) tz D σ H :=
  q_forNLn h Pv (fun p H1 np e hp => h0 p H1 (at_new hA np e hp)) (fun p i σ' H' hi hp => sq_of (hl p i σ' H' hi hp)) hs hd
/-- [e for j in range(n) if t], its items data -/
theorem wl_lcR1 {tr : TA} {j : Nat} {vs : List Nat} {n : Int} (f : Nat → Bool) (g : Nat → PyData) (hn : 0 ≤ n ∧ n ≤ 40000) (h : ∀ B1 H, Ex B B1 → At B1 l H → EvA tr σ H [.int n]) (hw : ∀ x, wipe ((wipe σ vs).set j (some x)) vs = wipe σ vs)
    (ht : ∀ i : Nat, (i : Int) < n → ∀ B1 H p xs, Ex B B1 → At B1 (Pt p (.lst xs) :: l) H → EvT t ((wipe σ vs).set j (some (.int (i : Int)))) H (f i)) (he : ∀ i : Nat, (i : Int) < n → f i = true → ∀ p xs, Wv te ((wipe σ vs).set j (some (.int (i : Int)))) B (Pt p (.lst xs) :: l) (rD K (g i))) :
    Wl K (tLc (iRng1 tr) (gName j) t te vs) σ B l (givenD n.toNat f g) := fun B1 H0 e0 hA Q q => h B1 H0 e0 hA H0 (Ex.refl H0) _ fun H1 e1 => ⟨n, rfl, by omega, by omega, fun Dl hD =>
  lc_range (lo := 0) (n := n.toNat) (fun i H' => ∃ B' acc, Ex B1 B' ∧ At B' (Pt Dl (.lst acc) :: l) H' ∧ DpAll K B' acc (givenD i f g)) ⟨B1, [], Ex.refl B1, at_new (at_ex hA e1) hD (Ex.new hD) upd_same, .nil⟩ (fun i H' hi p => by
    have e0' : (0 : Int) + (i : Int) = (i : Int) := Int.zero_add _
    show wipe ((wipe σ vs).set j (some (.int ((0 : Int) + (i : Int))))) vs = wipe σ vs ∧ t ((wipe σ vs).set j (some (.int ((0 : Int) + (i : Int))))) H' fun b H3 => if b = true then te ((wipe σ vs).set j (some (.int ((0 : Int) + (i : Int))))) H3 fun y H4 => ∃ acc, H4 Dl = some (.lst acc) ∧ acc.length < sizeLine ∧ (∃ B' acc', Ex B1 B' ∧ At B' (Pt Dl (.lst acc') :: l) (upd H4 Dl (.lst (acc ++ [y]))) ∧ DpAll K B' acc' (givenD (i + 1) f g)) else ∃ B' acc, Ex B1 B' ∧ At B' (Pt Dl (.lst acc) :: l) H3 ∧ DpAll K B' acc (givenD (i + 1) f g)
    rw [e0']
    obtain ⟨B', acc, b1, hA', hd⟩ := p
    refine ⟨hw _, ht i (by omega) B' H' Dl acc (e0.trans b1) hA' H' (Ex.refl H') _ fun H3 e3 => ?_⟩
    have hA3 := at_ex hA' e3
    cases hf : f i with
    | true =>
      rw [if_pos rfl]
      refine he i (by omega) hf Dl acc B' H3 (e0.trans b1) hA3 _ fun y B4 H4 e4 hA4 hy => ⟨acc, at_get 0 rfl hA4, sz_lt (by rw [dpa_len hd]; have := givenD_len i f g; omega), B4, acc ++ [y], b1.trans e4, at_upd (u := .lst (acc ++ [y])) 0 rfl hA4, ?_⟩
      rw [givenD_yes hf]
      exact dpa_app (dpa_mono e4 _ _ hd) (dpa_one hy)
    | false =>
      rw [if_neg (by decide)]
      refine ⟨B', acc, b1, hA3, ?_⟩
      rw [givenD_no hf]
      exact hd) (fun H' p => by
    obtain ⟨B', acc, b1, hA', hd⟩ := p
    exact q Dl acc B' H' b1 hA' hd)⟩
/-- l.extend(a new list of data) -/
theorem sw_ext {q : Addr} {xs : List V} (k : Nat) (hk : l[k]? = some (Pt q (.lst xs))) (hA : At B l H) (ha : ∀ H1, Ev ta σ H1 (.ref q)) (h : Wl K te σ B l ds) (hz : xs.length + ds.length ≤ 100000) (c : ∀ p zs B1 H1, Ex B B1 → DpAll K B1 zs ds → At B1 (Pt p (.lst zs) :: l.set k (Pt q (.lst (xs ++ zs)))) H1 → D.nx σ H1) :
    tDrop (tBM K "list" rExtend ta (tCons te tNil)) D σ H :=
  ha H H (Ex.refl H) _ fun H1 e1 => ⟨.inl ⟨rfl, xs, sq_of (at_get k hk (at_ex hA e1))⟩, h B H1 (Ex.refl B) (at_ex hA e1) _ fun p zs B2 H2 e2 hA2 hv => ⟨q, p, xs, zs, rfl, rfl, at_get (k + 1) (by simpa using hk) hA2, at_get 0 rfl hA2, sz_of (by rw [dpa_len hv]; exact hz), c p zs B2 _ e2 hv (by
    have h := at_upd (u := .lst (xs ++ zs)) (k + 1) (by simpa using hk) hA2
    simpa using h)⟩⟩
end
section
variable {K : PySem.W.Frag} {σ : L2.St} {B H : Hp} {l : List MP} {ta tb te : TE} {D : Ends} {tz tu : TS} {d : PyData} {ds : List PyData} {n : Nat}
/-- if not same(a, b): .. -/
theorem q_same {tr : TA} {E : XK} {C : Hp → Prop} (hC : ∀ H H', Ex H H' → C H → C H') (h : ∀ Q : List V → Hp → Prop, (∀ x y d H1, Dx K H1 x d → Dx K H1 y d → Okn n d → C H1 → Q [x, y] H1) → tr σ H Q) (k : ∀ H1, C H1 → tz D σ H1) :
    tSeq (tIfS (tNot (tB (tCall (spSame K n) [] E tr))) tu tNext) tz D σ H := h _ fun x y d H1 hx hy ok hc => ⟨x, y, d, rfl, hx, hy, ok, fun H2 e2 => ⟨true, rfl, by
  show tz D σ H2
  exact k H2 (hC H1 H2 e2 hc)⟩⟩
theorem s_same {tr : TA} {E : XK} {C : Hp → Prop} (hC : ∀ H H', Ex H H' → C H → C H') (h : ∀ Q : List V → Hp → Prop, (∀ x y d H1, Dx K H1 x d → Dx K H1 y d → Okn n d → C H1 → Q [x, y] H1) → tr σ H Q) (k : ∀ H1, C H1 → D.nx σ H1) :
    tIfS (tNot (tB (tCall (spSame K n) [] E tr))) tu tNext D σ H := q_same (tz := fun D => D.nx) hC h k
theorem r_same {tr : TA} {E : XK} {C : Hp → Prop} (hC : ∀ H H', Ex H H' → C H → C H') (h : ∀ Q : List V → Hp → Prop, (∀ x y d H1, Dx K H1 x d → Dx K H1 y d → Okn n d → C H1 → Q [x, y] H1) → tr σ H Q) (k : ∀ H1, C H1 → D.rt (.bl true) H1) :
    tRet (tCall (spSame K n) [] E tr) D σ H := h _ fun x y d H1 hx hy ok hc => ⟨x, y, d, rfl, hx, hy, ok, fun H2 e2 => k H2 (hC H1 H2 e2 hc)⟩
/-- data of the base, seen in the heap of now -/
theorem at_dx (hA : At B l H) {v : V} (h : Dp K B v d) : Dx K H v d := dp_dx _ _ (dp_mono (at_base hA) _ _ h)
theorem at_dxL {p : Addr} {xs : List V} (i : Nat) (hi : l[i]? = some (Pt p (.lst xs))) (hA : At B l H) (h : DpAll K B xs ds) : Dx K H (.ref p) (.list ds) := .lst (sq_of (at_get i hi hA)) (dpa_dxa _ _ (dpa_mono (at_base hA) _ _ h))
theorem wv_ixT {i : Int} (hv : ∀ B1, Ex B B1 → EvD K ta σ B1 (.tuple ds)) (hb : ∀ H, Ev tb σ H (.int i)) (h : atI ds i = some d) : Wv (tOp (rIxT K) ta tb) σ B l (rD K d) := wv_ed fun B1 b1 => ed_ixT (hv B1 b1) (hb B1) h
end
theorem qe_make {σ : L2.St} {B H : Hp} {l : List MP} {D : Ends} {tz : TS} {C : Addr} {sp : Sp} {E : XK} {ta : TA} {vs : List V} {i : Nat} (hA : At B l H) (h : EvA ta σ H vs) (k : ∀ x dx H1, At B (Pt x (.ins C dx []) :: l) H1 → sp (.ref x :: (vs ++ [])) H1 (fun v H2 => v = .non ∧ tz D (σ.set i (some (.ref x))) H2) E) : tSeq (tAsg (tMake C sp [] E ta) (gName i)) tz D σ H :=
  make_at (Q := fun v H2 => tz D (σ.set i (some v)) H2) hA h k
/-- what an expression does, its value set to a name | dropped | tested -/
theorem q_do {σ : L2.St} {H : Hp} {D : Ends} {tz : TS} {te : TE} {i : Nat} (h : te σ H (fun v H' => tz D (σ.set i (some v)) H')) : tSeq (tAsg te (gName i)) tz D σ H := h
theorem s_do {σ : L2.St} {H : Hp} {D : Ends} {te : TE} {i : Nat} (h : te σ H (fun v H' => D.nx (σ.set i (some v)) H')) : tAsg te (gName i) D σ H := h
theorem q_doT {σ : L2.St} {H : Hp} {D : Ends} {tz tu tw : TS} {t : TT} (h : t σ H (fun b H' => if b = true then tu { D with nx := tz D } σ H' else tw { D with nx := tz D } σ H')) : tSeq (tIfS t tu tw) tz D σ H := h
section
variable {K : PySem.W.Frag} {σ : L2.St} {H : Hp} {te ta tb : TE} {tr : TA} {v : V} {D : Ends} {tz : TS} {E : XK} {sp : Sp} {r : R2}
theorem go_cons {Q : List V → Hp → Prop} (h : Ev te σ H v) (k : ∀ H1, Ex H H1 → tr σ H1 fun xs H2 => Q (v :: xs) H2) : tCons te tr σ H Q := h H (Ex.refl H) _ k
theorem go_cons' {Q : List V → Hp → Prop} (h : te σ H fun v H1 => tr σ H1 fun xs H2 => Q (v :: xs) H2) : tCons te tr σ H Q := h
theorem go_nil {Q : List V → Hp → Prop} (h : Q [] H) : tNil σ H Q := h
theorem go_lst {Q : VK} (h : tr σ H fun xs H1 => xs.length ≤ sizeLine ∧ ∀ p, H1 p = none → Q (.ref p) (upd H1 p (.lst xs))) : tLst tr σ H Q := h
theorem go_tup {Q : VK} (h : tr σ H fun xs H1 => xs.length ≤ sizeLine ∧ ∀ p, H1 p = none → Q (.ref p) (upd H1 p (.tup xs))) : tTup tr σ H Q := h
theorem go_call {Q : VK} (h : tr σ H fun vs H1 => sp (vs ++ []) H1 Q E) : tCall sp [] E tr σ H Q := h
theorem go_op {Q : VK} (h : ta σ H fun x H1 => tb σ H1 fun y H2 => r x y H2 Q) : tOp r ta tb σ H Q := h
theorem go_ev {Q : VK} (h : Ev te σ H v) (k : ∀ H1, Ex H H1 → Q v H1) : te σ H Q := h H (Ex.refl H) Q k
theorem q_drop0 (h : te σ H fun _ H1 => tz D σ H1) : tSeq (tDrop te) tz D σ H := h
theorem s_drop0 (h : te σ H fun _ H1 => D.nx σ H1) : tDrop te D σ H := h
theorem el_catR {b : Addr} {xs ys : List V} (ha : EvL ta σ H xs) (hb : Ev tb σ H (.ref b)) (h : H b = some (.lst ys)) (hl : xs.length + ys.length ≤ 100000) : EvL (tOp rCat ta tb) σ H (xs ++ ys) := fun H1 e Q q =>
  ha H1 e _ fun p H2 np e2 hp => hb H2 (e.trans e2) _ fun H3 e3 => ⟨p, b, xs, ys, rfl, rfl, e3 _ _ hp, ((e.trans e2).trans e3) _ _ h, sz_of hl, fun o ho => q o _ (fresh_back (e2.trans e3) ho) ((e2.trans e3).trans (Ex.new ho)) upd_same⟩
end
end Ap

set_option Elab.async false
set_option linter.all false
set_option maxRecDepth 100000
namespace Ap
open PySem PySem.Spec PyProof.Rows L2 Evl PySem.W
theorem ints_reads {h : Heap} : ∀ {vs : List Value} {ns : List Int}, IntsAre vs ns → ReadsAll h vs (ns.map PyData.int) []
  | _, _, .nil => .nil
  | _, _, .cons n t hr => .cons (as := []) (bs := []) (.int n t) (ints_reads hr)
def mxD (d : Int) : List Int → Int
  | [] => d
  | n :: r => r.foldl max n
/-- max(xs, default=d) of ints -/
def rMaxDef (K : PySem.W.Frag) : List V → List V → Hp → VK → Prop := fun vs zs H Q => ∃ (a : Addr) (ns : List Int) (d : Int), vs = [V.ref a] ∧ zs = [.int d] ∧ SqL K H a (ns.map V.int) ∧ Q (.int (mxD d ns)) H
theorem alike_ints (ns : List Int) : AlikeAll (ns.map PyData.int) := by
  refine ⟨fun x hx y hy => ?_, fun x hx => ?_⟩
  · obtain ⟨a, _, rfl⟩ := List.mem_map.mp hx
    obtain ⟨b, _, rfl⟩ := List.mem_map.mp hy
    simp [alike]
  · obtain ⟨a, _, rfl⟩ := List.mem_map.mp hx
    exact fun h => nomatch h
theorem depth_ints : ∀ ns : List Int, PyData.depthAll (ns.map PyData.int) = 0
  | [] => by simp [PyData.depthAll]
  | n :: r => by simp [PyData.depthAll, PyData.depth, depth_ints r]
theorem cr_maxDef {X : Cx} (hc : X.calm = true) (hu : X.A.units + 1 < cLine) : CallRK X (.builtin "max") [Str.ofString "default"] (rMaxDef X.K) := by
  intro pins s σ H vs zs us ws Q I r rz h
  obtain ⟨a, ns, d, rfl, rfl, hs, q⟩ := h
  obtain ⟨its, rv, hl, _⟩ := I.list hs
  rw [Vals.ref1 r]
  obtain ⟨w1, rfl, e1⟩ := vals1 rz
  obtain ⟨t, rfl⟩ : ∃ t, w1 = Value.int d t := e1
  refine max_list_default (I.ok.hd hc) hl.isList (ints_reads rv.ints) (alike_ints ns) (by rw [depth_ints]; exact hu) (fun h0 h' tk hk => ?_) (fun y ys i v h' tk bs hxs hv hr hk => ?_)
  · have : ns = [] := by simpa using h0
    subst this
    exact ⟨.int d, H, I.kept hk, ⟨_, rfl⟩, q⟩
  · cases ns with
    | nil => cases hxs
    | cons n r =>
      have e := List.cons.inj hxs
      rw [← e.1, ← e.2, maxD_ints] at hr
      cases hr
      exact ⟨.int _, H, I.kept hk, ⟨_, rfl⟩, q⟩
theorem mxD_mem : ∀ (d n : Int) (r : List Int), mxD d (n :: r) ∈ n :: r ∧ ∀ y ∈ n :: r, y ≤ mxD d (n :: r) := fun d n r => by
  show r.foldl max n ∈ n :: r ∧ ∀ y ∈ n :: r, y ≤ r.foldl max n
  induction r generalizing n with
  | nil => exact ⟨List.mem_cons_self, fun y hy => by rw [List.mem_singleton.mp hy]; exact Int.le_refl _⟩
  | cons m r ih =>
    obtain ⟨h1, h2⟩ := ih (max n m)
    refine ⟨?_, fun y hy => ?_⟩
    · rcases List.mem_cons.mp h1 with h | h
      · show r.foldl max (max n m) ∈ _
        rw [h]
        rcases Int.le_total n m with k | k
        · rw [Int.max_eq_right k]
          exact List.mem_cons_of_mem _ List.mem_cons_self
        · rw [Int.max_eq_left k]
          exact List.mem_cons_self
      · exact List.mem_cons_of_mem _ (List.mem_cons_of_mem _ h)
    · have h3 := h2 (max n m) List.mem_cons_self
      rcases List.mem_cons.mp hy with rfl | hy
      · exact Int.le_trans (Int.le_max_left _ _) h3
      · rcases List.mem_cons.mp hy with rfl | hy
        · exact Int.le_trans (Int.le_max_right _ _) h3
        · exact h2 y (List.mem_cons_of_mem _ hy)
/-! ### lists and dicts of data, that may change -/
/-- a list whose items stand for these data -/
def LstM (K : PySem.W.Frag) (a : Addr) (ds : List PyData) : MP := ExM fun xs : List V => DpM K xs ds (Pt a (.lst xs))
abbrev DI := List (Int × PyData)
def kvD (l : DI) (vs : List V) : List (Key × V) := (l.zip vs).map fun p => (Sum.inl p.1.1, p.2)
/-- a dict from integers to data -/
def DctM (K : PySem.W.Frag) (a : Addr) (l : DI) : MP := ExM fun vs : List V => DpM K vs (l.map (·.2)) (Pt a (.dK (kvD l vs)))
def look (l : DI) (k : Int) : Option PyData := (l.find? fun p => decide (p.1 = k)).map (·.2)
def putL (l : DI) (k : Int) (d : PyData) : DI := if (l.any fun p => decide (p.1 = k)) = true then l.map (fun p => if p.1 = k then (p.1, d) else p) else l ++ [(k, d)]
def dropL (l : DI) (k : Int) : DI := l.filter fun p => decide (p.1 ≠ k)
section
variable {K : PySem.W.Frag} {B H : Hp}
theorem look_cons (p : Int × PyData) (r : DI) (k : Int) : look (p :: r) k = if p.1 = k then some p.2 else look r k := by
  unfold look
  rw [List.find?_cons]
  by_cases h : p.1 = k
  · rw [decide_eq_true h, if_pos h]
    rfl
  · rw [decide_eq_false h, if_neg h]
theorem kvD_cons (p : Int × PyData) (r : DI) (v : V) (vs : List V) : kvD (p :: r) (v :: vs) = (Sum.inl p.1, v) :: kvD r vs := rfl
/-- looking up: in the dict and in what it stands for -/
theorem kv_look : ∀ {l : DI} {vs : List V} (k : Int), DpAll K B vs (l.map (·.2)) → (look l k = none ∧ valV (kvD l vs) (Sum.inl k) = none) ∨ ∃ v d, look l k = some d ∧ valV (kvD l vs) (Sum.inl k) = some v ∧ Dp K B v d
  | [], [], k, _ => .inl ⟨rfl, rfl⟩
  | p :: r, v :: vs, k, h => by
    cases h with
    | cons h1 h2 =>
      rw [look_cons, kvD_cons]
      by_cases e : p.1 = k
      · rw [if_pos e]
        exact .inr ⟨v, p.2, rfl, by rw [valV_pos (p := ((Sum.inl p.1 : Key), v)) (by show (Sum.inl p.1 : Key) = Sum.inl k; rw [e])], h1⟩
      · rw [if_neg e, valV_neg (p := ((Sum.inl p.1 : Key), v)) (fun h => e (Sum.inl.inj h))]
        exact kv_look k h2
theorem kv_any : ∀ {l : DI} {vs : List V} (k : Int), DpAll K B vs (l.map (·.2)) → ((kvD l vs).any fun kv => decide (kv.1 = Sum.inl k)) = l.any fun p => decide (p.1 = k)
  | [], [], _, _ => rfl
  | p :: r, v :: vs, k, h => by
    cases h with
    | cons h1 h2 =>
      rw [kvD_cons, List.any_cons, List.any_cons, kv_any k h2]
      congr 1
      by_cases e : p.1 = k
      · rw [decide_eq_true e, decide_eq_true (by show (Sum.inl p.1 : Key) = _; rw [e])]
      · rw [decide_eq_false e, decide_eq_false (fun h => e (Sum.inl.inj h))]
theorem kv_len {l : DI} {vs : List V} (h : DpAll K B vs (l.map (·.2))) : (kvD l vs).length = l.length := by
  have := dpa_len h
  rw [List.length_map] at this
  unfold kvD
  rw [List.length_map, List.length_zip, this, Nat.min_self]
theorem kv_keys : ∀ {l : DI} {vs : List V}, DpAll K B vs (l.map (·.2)) → (kvD l vs).map (·.1) = (l.map (·.1)).map Sum.inl
  | [], [], _ => rfl
  | p :: r, v :: vs, h => by
    cases h with
    | cons h1 h2 =>
      rw [kvD_cons, List.map_cons, List.map_cons, List.map_cons, kv_keys h2]
theorem kv_at : ∀ {l : DI} {vs : List V} {i : Nat} {k : Key} {x : V}, DpAll K B vs (l.map (·.2)) → (kvD l vs)[i]? = some (k, x) → ∃ p, l[i]? = some p ∧ k = Sum.inl p.1 ∧ Dp K B x p.2
  | [], [], i, _, _, _, e => by simp [kvD] at e
  | p :: r, v :: vs, 0, k, x, h, e => by
    cases h with
    | cons h1 h2 =>
      rw [kvD_cons] at e
      have e := Option.some.inj (show some _ = some (k, x) from e)
      have e1 := congrArg Prod.fst e
      have e2 := congrArg Prod.snd e
      exact ⟨p, rfl, e1.symm, (show v = x from e2) ▸ h1⟩
  | p :: r, v :: vs, i + 1, k, x, h, e => by
    cases h with
    | cons h1 h2 =>
      rw [kvD_cons] at e
      obtain ⟨q, a, b, c⟩ := kv_at h2 (show (kvD r vs)[i]? = some (k, x) by simpa using e)
      exact ⟨q, by simpa using a, b, c⟩
/-- one more, or one in its place -/
theorem kv_put {l : DI} {vs : List V} {k : Int} {v : V} {d : PyData} (h : DpAll K B vs (l.map (·.2))) (hv : Dp K B v d) : ∃ vs', putK (kvD l vs) (Sum.inl k) v = kvD (putL l k d) vs' ∧ DpAll K B vs' ((putL l k d).map (·.2)) := by
  unfold putK putL
  rw [kv_any k h]
  by_cases e : (l.any fun p => decide (p.1 = k)) = true
  · rw [if_pos e, if_pos e]
    clear e
    induction l generalizing vs with
    | nil => cases h; exact ⟨[], rfl, .nil⟩
    | cons p r ih =>
      cases h with
      | @cons w ws _ _ h1 h2 =>
        obtain ⟨vs', a, b⟩ := ih h2
        rw [kvD_cons, List.map_cons, List.map_cons, a]
        by_cases q : p.1 = k
        · rw [if_pos q, if_pos (by show (Sum.inl p.1 : Key) = _; rw [q])]
          exact ⟨v :: vs', rfl, .cons hv b⟩
        · rw [if_neg q, if_neg (fun h => q (Sum.inl.inj h))]
          exact ⟨w :: vs', rfl, .cons h1 b⟩
  · rw [if_neg e, if_neg e]
    refine ⟨vs ++ [v], ?_, ?_⟩
    · have hl := dpa_len h
      rw [List.length_map] at hl
      unfold kvD
      rw [List.zip_append hl.symm, List.map_append]
      rfl
    · rw [List.map_append]
      exact dpa_app h (dpa_one hv)
theorem kv_drop {l : DI} {vs : List V} {k : Int} (h : DpAll K B vs (l.map (·.2))) : ∃ vs', dropK (kvD l vs) (Sum.inl k) = kvD (dropL l k) vs' ∧ DpAll K B vs' ((dropL l k).map (·.2)) := by
  unfold dropK dropL
  induction l generalizing vs with
  | nil => cases h; exact ⟨[], rfl, .nil⟩
  | cons p r ih =>
    cases h with
    | @cons w ws _ _ h1 h2 =>
      obtain ⟨vs', a, b⟩ := ih h2
      rw [kvD_cons, List.filter_cons, List.filter_cons, a]
      by_cases q : p.1 = k
      · rw [if_neg (by simp [q]), if_neg (by simp [q])]
        exact ⟨vs', rfl, b⟩
      · rw [if_pos (by simp [q]), if_pos (by simp [q])]
        exact ⟨w :: vs', rfl, .cons h1 b⟩
end
end Ap

set_option Elab.async false
set_option linter.all false
set_option maxRecDepth 100000
namespace Ap
open PySem PySem.Spec PyProof.Rows L2 Evl PySem.W
section
variable {K : PySem.W.Frag} {σ : L2.St} {B B' H H' H1 : Hp} {l : List MP} {ta tb tc te td ty tv : TE} {t : TT} {x y v : V} {d : PyData} {ds es : List PyData} {R : Rr} {a p : Addr} {xs vs : List V} {m : DI} {D : Ends} {tz tu : TS} {i j n : Nat} {k : Int}
theorem lst_at (n : Nat) (e : l[n]? = some (LstM K a ds)) (h : At B l H) : ∃ xs, DpAll K B xs ds ∧ H a = some (.lst xs) := at_p n e h
theorem dct_at (n : Nat) (e : l[n]? = some (DctM K a m)) (h : At B l H) : ∃ vs, DpAll K B vs (m.map (·.2)) ∧ H a = some (.dK (kvD m vs)) := at_p n e h
theorem lst_new (h : At B l H) (np : H p = none) (e : Ex H H1) (hp : H1 p = some (.lst xs)) (hd : DpAll K B xs ds) : At B (LstM K p ds :: l) H1 := at_exm' xs (at_dpm' hd (at_new h np e hp))
theorem dct_new (h : At B l H) (np : H p = none) (e : Ex H H1) (hp : H1 p = some (.dK (kvD m vs))) (hd : DpAll K B vs (m.map (·.2))) : At B (DctM K p m :: l) H1 := at_exm' vs (at_dpm' hd (at_new h np e hp))
theorem lst_upd {xs' : List V} (n : Nat) (e : l[n]? = some (LstM K a ds)) (h : At B l H) (hd : DpAll K B xs' es) : At B (l.set n (LstM K a es)) (upd H a (.lst xs')) := by
  obtain ⟨xs, h1⟩ := at_exm (at_pull n e h)
  obtain ⟨_, h2⟩ := at_dpm h1
  exact at_put n e (at_exm' xs' (at_dpm' hd (at_upd 0 rfl h2)))
theorem dct_upd {vs' : List V} {m' : DI} (n : Nat) (e : l[n]? = some (DctM K a m)) (h : At B l H) (hd : DpAll K B vs' (m'.map (·.2))) : At B (l.set n (DctM K a m')) (upd H a (.dK (kvD m' vs'))) := by
  obtain ⟨xs, h1⟩ := at_exm (at_pull n e h)
  obtain ⟨_, h2⟩ := at_dpm h1
  exact at_put n e (at_exm' vs' (at_dpm' hd (at_upd 0 rfl h2)))
/-! ### what evaluates to what -/
theorem ev_lenM (n : Nat) (e : l[n]? = some (LstM K a ds)) (hA : At B l H) (ha : Ev ta σ H (.ref a)) : Ev (tCB (fun xs H Q => ∃ p ys, xs = [.ref p] ∧ (SqL K H p ys ∨ SqT K H p ys) ∧ Q (.int ys.length) H) (tCons ta tNil)) σ H (.int (ds.length : Int)) := by
  obtain ⟨xs, h1, h2⟩ := lst_at n e hA
  rw [← dpa_len h1]
  exact ev_len ha (sq_of h2)
theorem wv_ixM {i : Int} (n : Nat) (e : l[n]? = some (LstM K a ds)) (ha : ∀ B1 H, Ex B B1 → At B1 l H → Ev ta σ H (.ref a)) (hb : ∀ B1 H, Ex B B1 → At B1 l H → Ev tb σ H (.int i)) (h : atI ds i = some d) : Wv (tOp (rIxL K) ta tb) σ B l (rD K d) := fun B1 H e1 hA Q q =>
  ha B1 H e1 hA H (Ex.refl H) _ fun H2 e2 => hb B1 H2 e1 (at_ex hA e2) H2 (Ex.refl H2) _ fun H3 e3 => by
    have hA3 := at_ex hA (e2.trans e3)
    obtain ⟨xs, h1, h2⟩ := lst_at n e hA3
    obtain ⟨j, hj, hx⟩ := atI_len (dpa_len h1) h
    obtain ⟨x, ex, dx⟩ := dpa_at h1 hj
    exact ⟨a, xs, i, x, rfl, rfl, sq_of h2, hx x ex, q x B1 H3 (Ex.refl B1) hA3 dx⟩
theorem ev_dinM (n : Nat) (e : l[n]? = some (DctM K a m)) (hA : At B l H) (hk : Ev ty σ H (.int k)) (hd : Ev td σ H (.ref a)) : Ev (tDIn ty td) σ H (.bl (look m k).isSome) := by
  obtain ⟨vs, h1, h2⟩ := dct_at n e hA
  have h3 := ev_din (k := Sum.inl k) hk hd h2
  rcases kv_look k h1 with ⟨a1, a2⟩ | ⟨v, d, a1, a2, _⟩
  · rw [a2] at h3
    rw [a1]
    exact h3
  · rw [a2] at h3
    rw [a1]
    exact h3
theorem ev_dniM (n : Nat) (e : l[n]? = some (DctM K a m)) (hA : At B l H) (hk : Ev ty σ H (.int k)) (hd : Ev td σ H (.ref a)) : Ev (tDNotIn ty td) σ H (.bl (!(look m k).isSome)) := by
  obtain ⟨vs, h1, h2⟩ := dct_at n e hA
  have h3 := ev_dni (k := Sum.inl k) hk hd h2
  rcases kv_look k h1 with ⟨a1, a2⟩ | ⟨v, d, a1, a2, _⟩
  · rw [a2] at h3
    rw [a1]
    exact h3
  · rw [a2] at h3
    rw [a1]
    exact h3
/-- m[k], there -/
theorem wv_dgetM (n : Nat) (e : l[n]? = some (DctM K a m)) (hd : ∀ B1 H, Ex B B1 → At B1 l H → Ev td σ H (.ref a)) (hy : ∀ B1 H, Ex B B1 → At B1 l H → Ev ty σ H (.int k)) (h : look m k = some d) : Wv (tDGet td ty) σ B l (rD K d) := fun B1 H e1 hA Q q =>
  hd B1 H e1 hA H (Ex.refl H) _ fun H2 e2 => hy B1 H2 e1 (at_ex hA e2) H2 (Ex.refl H2) _ fun H3 e3 => by
    have hA3 := at_ex hA (e2.trans e3)
    obtain ⟨vs, h1, h2⟩ := dct_at n e hA3
    rcases kv_look k h1 with ⟨a1, a2⟩ | ⟨v, d', a1, a2, a3⟩
    · rw [a1] at h; cases h
    · rw [a1] at h
      cases h
      exact ⟨a, v, rfl, .inl ⟨_, Sum.inl k, .inl h2, rfl, a2.symm⟩, q v B1 H3 (Ex.refl B1) hA3 a3⟩
/-- m.get(k), m.get(k, x) -/
theorem wv_get1M (n : Nat) (e : l[n]? = some (DctM K a m)) (hd : ∀ B1 H, Ex B B1 → At B1 l H → Ev td σ H (.ref a)) (hy : ∀ B1 H, Ex B B1 → At B1 l H → Ev ty σ H (.int k)) : Wv (tDGet1 td ty) σ B l (rD K ((look m k).getD .none)) := fun B1 H e1 hA Q q =>
  hd B1 H e1 hA H (Ex.refl H) _ fun H2 e2 => by
    obtain ⟨vs0, _, h20⟩ := dct_at n e (at_ex hA e2)
    refine ⟨a, rfl, .inl ⟨_, .inl h20⟩, hy B1 H2 e1 (at_ex hA e2) H2 (Ex.refl H2) _ fun H3 e3 => ?_⟩
    have hA3 := at_ex hA (e2.trans e3)
    obtain ⟨vs, h1, h2⟩ := dct_at n e hA3
    rcases kv_look k h1 with ⟨a1, a2⟩ | ⟨v, d', a1, a2, a3⟩
    · exact ⟨none, .inl ⟨_, Sum.inl k, .inl h2, rfl, a2.symm⟩, q .non B1 H3 (Ex.refl B1) hA3 (by rw [a1]; exact .non)⟩
    · exact ⟨some v, .inl ⟨_, Sum.inl k, .inl h2, rfl, a2.symm⟩, q v B1 H3 (Ex.refl B1) hA3 (by rw [a1]; exact a3)⟩
theorem wv_get2M {tx : TE} {e0 : PyData} (n : Nat) (e : l[n]? = some (DctM K a m)) (hd : ∀ B1 H, Ex B B1 → At B1 l H → Ev td σ H (.ref a)) (hy : ∀ B1 H, Ex B B1 → At B1 l H → Ev ty σ H (.int k)) (hx : Wv tx σ B l (rD K e0)) : Wv (tDGet2 td ty tx) σ B l (rD K ((look m k).getD e0)) := fun B1 H e1 hA Q q =>
  hd B1 H e1 hA H (Ex.refl H) _ fun H2 e2 => by
    obtain ⟨vs0, _, h20⟩ := dct_at n e (at_ex hA e2)
    refine ⟨a, rfl, .inl ⟨_, .inl h20⟩, hy B1 H2 e1 (at_ex hA e2) H2 (Ex.refl H2) _ fun H3 e3 => hx B1 H3 e1 (at_ex hA (e2.trans e3)) _ fun z B4 H4 e4 hA4 hz => ?_⟩
    obtain ⟨vs, h1, h2⟩ := dct_at n e hA4
    rcases kv_look k h1 with ⟨a1, a2⟩ | ⟨v, d', a1, a2, a3⟩
    · exact ⟨none, .inl ⟨_, Sum.inl k, .inl h2, rfl, a2.symm⟩, q z B4 H4 e4 hA4 (by rw [a1]; exact hz)⟩
    · exact ⟨some v, .inl ⟨_, Sum.inl k, .inl h2, rfl, a2.symm⟩, q v B4 H4 e4 hA4 (by rw [a1]; exact a3)⟩
/-! ### statements -/
theorem qm_nil {ta : TA} (hA : At B l H) (k : ∀ p H1, At B (LstM K p [] :: l) H1 → tz D (σ.set i (some (.ref p))) H1) : tSeq (tAsg (tLst tNil) (gName i)) tz D σ H := qe_lst (xs := []) hA (el_lst ea_nil (by decide)) fun p H1 h => k p H1 (at_exm' [] (at_dpm' .nil h))
theorem qm_dnew (hA : At B l H) (k : ∀ p H1, At B (DctM K p [] :: l) H1 → tz D (σ.set i (some (.ref p))) H1) : tSeq (tAsg tDNewK (gName i)) tz D σ H := fun p hp => k p _ (at_exm' [] (at_dpm' .nil (at_new hA hp (Ex.new hp) upd_same)))
theorem qm_lst {ta : TA} (hA : At B l H) (h : Wa K ta σ B l ds) (hl : ds.length ≤ 100000) (k : ∀ p B1 H1, Ex B B1 → At B1 (LstM K p ds :: l) H1 → tz D (σ.set i (some (.ref p))) H1) : tSeq (tAsg (tLst ta) (gName i)) tz D σ H := qw_lst hA (wl_lst h hl) fun p xs B1 H1 b hA1 hd => k p B1 H1 b (at_exm' xs (at_dpm' hd hA1))
theorem sm_app (n : Nat) (e : l[n]? = some (LstM K a ds)) (hA : At B l H) (ha : ∀ H1, Ev ta σ H1 (.ref a)) (h : Wv te σ B l (rD K d)) (hz : ds.length < 100000) (c : ∀ B1 H1, Ex B B1 → At B1 (l.set n (LstM K a (ds ++ [d]))) H1 → D.nx σ H1) : tDrop (tBM K "list" rAppend ta (tCons te tNil)) D σ H :=
  ha H H (Ex.refl H) _ fun H1 e1 => by
    have hA1 := at_ex hA e1
    obtain ⟨xs, h1, h2⟩ := lst_at n e hA1
    refine ⟨.inl ⟨rfl, xs, sq_of h2⟩, h B H1 (Ex.refl B) hA1 _ fun v B2 H2 b2 hA2 hv => ?_⟩
    obtain ⟨xs, h1, h2⟩ := lst_at n e hA2
    exact ⟨a, xs, v, rfl, rfl, h2, sz_lt (by rw [dpa_len h1]; exact hz), c B2 _ b2 (lst_upd n e hA2 (dpa_app h1 (dpa_one hv)))⟩
theorem qm_app (n : Nat) (e : l[n]? = some (LstM K a ds)) (hA : At B l H) (ha : ∀ H1, Ev ta σ H1 (.ref a)) (h : Wv te σ B l (rD K d)) (hz : ds.length < 100000) (c : ∀ B1 H1, Ex B B1 → At B1 (l.set n (LstM K a (ds ++ [d]))) H1 → tz D σ H1) : tSeq (tDrop (tBM K "list" rAppend ta (tCons te tNil))) tz D σ H :=
  sm_app (D := { D with nx := tz D }) n e hA ha h hz c
theorem sm_put (n : Nat) (e : l[n]? = some (DctM K a m)) (hA : At B l H) (hv : Wv tv σ B l (rD K d)) (hd : ∀ B1 H1, Ex B B1 → At B1 l H1 → Ev td σ H1 (.ref a)) (hy : ∀ B1 H1, Ex B B1 → At B1 l H1 → Ev ty σ H1 (.int k)) (hz : m.length < 100000)
    (g : ∀ B1 H1, Ex B B1 → At B1 (l.set n (DctM K a (putL m k d))) H1 → D.nx σ H1) : sDPut td ty tv D σ H :=
  hv B H (Ex.refl B) hA _ fun v B1 H1 b1 hA1 hr => hd B1 H1 b1 hA1 H1 (Ex.refl H1) _ fun H2 e2 => hy B1 H2 b1 (at_ex hA1 e2) H2 (Ex.refl H2) _ fun H3 e3 => by
    have hA3 := at_ex hA1 (e2.trans e3)
    obtain ⟨vs, h1, h2⟩ := dct_at n e hA3
    obtain ⟨vs', a1, a2⟩ := kv_put (k := k) h1 hr
    refine ⟨a, _, rfl, DPut.k (k := Sum.inl k) h2 (sz_lt (by rw [kv_len h1]; exact hz)), ?_⟩
    rw [a1]
    exact g B1 _ b1 (dct_upd n e hA3 a2)
theorem qm_put (n : Nat) (e : l[n]? = some (DctM K a m)) (hA : At B l H) (hv : Wv tv σ B l (rD K d)) (hd : ∀ B1 H1, Ex B B1 → At B1 l H1 → Ev td σ H1 (.ref a)) (hy : ∀ B1 H1, Ex B B1 → At B1 l H1 → Ev ty σ H1 (.int k)) (hz : m.length < 100000)
    (g : ∀ B1 H1, Ex B B1 → At B1 (l.set n (DctM K a (putL m k d))) H1 → tz D σ H1) : tSeq (sDPut td ty tv) tz D σ H := sm_put (D := { D with nx := tz D }) n e hA hv hd hy hz g
/-- m.pop(k, x), its value dropped -/
theorem sm_pop2 {tx : TE} (n : Nat) (e : l[n]? = some (DctM K a m)) (hA : At B l H) (hd : ∀ H1, At B l H1 → Ev td σ H1 (.ref a)) (hy : ∀ H1, Ev ty σ H1 (.int k)) (hx : ∀ H1, Ev tx σ H1 x) (g : ∀ H1, At B (l.set n (DctM K a (dropL m k))) H1 → D.nx σ H1) : tDrop (tDPop2 td ty tx) D σ H :=
  hd H hA H (Ex.refl H) _ fun H1 e1 => by
    obtain ⟨vs0, _, h20⟩ := dct_at n e (at_ex hA e1)
    refine ⟨a, rfl, .inl ⟨_, .inl h20⟩, hy H1 H1 (Ex.refl H1) _ fun H2 e2 => hx H2 H2 (Ex.refl H2) _ fun H3 e3 => ?_⟩
    have hA3 := at_ex hA ((e1.trans e2).trans e3)
    obtain ⟨vs, h1, h2⟩ := dct_at n e hA3
    obtain ⟨vs', a1, a2⟩ := kv_drop (k := k) h1
    refine ⟨_, Sum.inl k, h2, rfl, fun v _ => ?_, fun hn => ?_⟩
    · rw [a1]
      exact g _ (dct_upd n e hA3 a2)
    · rcases kv_look k h1 with ⟨b1, b2⟩ | ⟨v, d', b1, b2, b3⟩
      · have hdr : dropL m k = m := by
          unfold dropL
          refine List.filter_eq_self.mpr fun p hp => ?_
          refine decide_eq_true fun hk => ?_
          unfold look at b1
          rw [Option.map_eq_none_iff, List.find?_eq_none] at b1
          exact b1 p hp (decide_eq_true hk)
        have hh := g H3 (by rw [hdr, List.set_getElem?_self' e]; exact hA3)
        exact hh
      · rw [b2] at hn; cases hn
/-- a list opened, to walk over it, and closed -/
theorem at_openL (n : Nat) (e : l[n]? = some (LstM K a ds)) (h : At B l H) : ∃ xs, DpAll K B xs ds ∧ At B (l.set n (Pt a (.lst xs))) H := by
  obtain ⟨xs, h1⟩ := at_exm (at_pull n e h)
  obtain ⟨h2, h3⟩ := at_dpm h1
  exact ⟨xs, h2, at_put n e h3⟩
theorem at_closeL (n : Nat) (e : l[n]? = some (Pt a (.lst xs))) (hd : DpAll K B xs ds) (h : At B l H) : At B (l.set n (LstM K a ds)) H := at_put n e (at_exm' xs (at_dpm' hd (at_pull n e h)))
theorem at_openD (n : Nat) (e : l[n]? = some (DctM K a m)) (h : At B l H) : ∃ vs, DpAll K B vs (m.map (·.2)) ∧ At B (l.set n (Pt a (.dK (kvD m vs)))) H := by
  obtain ⟨xs, h1⟩ := at_exm (at_pull n e h)
  obtain ⟨h2, h3⟩ := at_dpm h1
  exact ⟨xs, h2, at_put n e h3⟩
theorem at_closeD (n : Nat) (e : l[n]? = some (Pt a (.dK (kvD m vs)))) (hd : DpAll K B vs (m.map (·.2))) (h : At B l H) : At B (l.set n (DctM K a m)) H := at_put n e (at_exm' vs (at_dpm' hd (at_pull n e h)))
end
/-- o.f = a new list -/
theorem qe_fldL {K : PySem.W.Frag} {σ : L2.St} {B H : Hp} {l : List MP} {ta te : TE} {D : Ends} {tz : TS} {a C dx : Addr} {fs : List (Str × V)} {f : Str} {xs : List V} (k : Nat) (hk : l[k]? = some (Pt a (.ins C dx fs))) (hA : At B l H) (hv : EvL te σ H xs) (ho : ∀ H1, Ev ta σ H1 (.ref a)) (c : Cls K C) (n : NoAttr K C f) (hl : fs.length < 1000) (g : ∀ p H1, At B (Pt p (.lst xs) :: l.set k (Pt a (.ins C dx (putF f (.ref p) fs)))) H1 → tz D σ H1) : tSeq (sFld K ta te f) tz D σ H :=
  hv H (Ex.refl H) _ fun p H1 np e1 hp => by
    have hA1 := at_new hA np e1 hp
    exact ho _ _ (Ex.refl _) _ fun H2 e2 => ⟨a, C, dx, fs, rfl, at_get (k + 1) (by simpa using hk) (at_ex hA1 e2), c, n, hl, g p _ (by
      have h := at_upd (u := .ins C dx (putF f (.ref p) fs)) (k + 1) (by simpa using hk) (at_ex hA1 e2)
      simpa using h)⟩
/-! ### walks over dicts and sorted keys -/
section
variable {K : PySem.W.Frag} {σ : L2.St} {B H : Hp} {l : List MP} {ta tb td te ty tl : TE} {t : TT} {D : Ends} {tz : TS} {d e : PyData} {a : Addr}
theorem ed_dget {kvs : List (Key × V)} {k : Key} {v : V} (ha : Ev td σ H (.ref a)) (hk : Ev ty σ H (kV k)) (hr : Rd H a (.dK kvs)) (hv : valV kvs k = some v) (hd : Dp K H v d) : EvD K (tDGet td ty) σ H d := ed_of (ev_dget ha hk hr hv) hd
/-- y = [e for k in d if t], d however it is told -/
theorem q_lcKeysF {dd : Addr} {kvs : List (Key × V)} {i j : Nat} {vs : List Nat} (hd : H dd = some (.dK kvs)) (hz : kvs.length ≤ 40000) (f : Nat → Bool) (v : Nat → V) (hw : ∀ x, wipe ((wipe σ vs).set j (some x)) vs = wipe σ vs) (hev : ∀ o H1, Ex (upd H dd (.frz o (.dK kvs))) H1 → Ev td σ H1 (.ref dd))
    (ht : ∀ (n : Nat) k x o H1, kvs[n]? = some (k, x) → Ex (upd H dd (.frz o (.dK kvs))) H1 → EvT t ((wipe σ vs).set j (some (kV k))) H1 (f n))
    (he : ∀ (n : Nat) k x o H1, kvs[n]? = some (k, x) → Ex (upd H dd (.frz o (.dK kvs))) H1 → f n = true → Ev te ((wipe σ vs).set j (some (kV k))) H1 (v n))
    (q : ∀ p H1, H p = none → Ex H H1 → H1 p = some (.lst (given kvs.length f v)) → tz D (σ.set i (some (.ref p))) H1) : tSeq (tLock (tAsg (tLc (iKeys td) (gName j) t te vs) (gName i))) tz D σ H := by
  refine ⟨dd, .dK kvs, hd, trivial, fun od => hev od _ (Ex.refl _) _ (Ex.refl _) _ fun H2 e2 => ⟨dd, od, rfl, .inl ⟨kvs, e2 _ _ upd_same, fun Dl hD => ?_⟩⟩⟩
  have nD : upd H dd (.frz od (.dK kvs)) Dl = none := fresh_back e2 hD
  have ne : Dl ≠ dd := fun e => by
    rw [e, upd_same] at nD
    cases nD
  refine lc_it walk_keys (fun m H' => Cw H2 f v Dl m H') ⟨hD, Ex.new hD, upd_same⟩ (fun m H' _ p => p.2.1 dd _ (e2 _ _ upd_same)) (fun m x H1 H' hm p y => ?_) (fun H' p => ?_)
  · obtain ⟨rfl, k, x', hk, rfl⟩ := y
    exact ⟨hw _, cw_turn p (by omega) (ht m k x' od H2 hk e2) (fun hf => he m k x' od H2 hk e2 hf)⟩
  · refine ⟨p.2.1 dd _ (e2 _ _ upd_same), ?_⟩
    refine q Dl _ ?_ (Ex.unlock hd (e2.trans p.2.1)) (by rw [upd_ne ne]; exact p.2.2)
    rw [upd_ne ne] at nD
    exact nD
def srt (ks : List Int) : List Int := ks.mergeSort fun a b => decide (a ≤ b)
theorem srt_perm (ks : List Int) : (srt ks).Perm ks := List.mergeSort_perm _ _
theorem srt_asc (ks : List Int) : (srt ks).Pairwise (· ≤ ·) := by
  have h := List.pairwise_mergeSort (le := fun a b : Int => decide (a ≤ b)) (fun a b c h1 h2 => by simp at *; omega) (fun a b => by simp; omega) ks
  exact List.Pairwise.imp (fun {a b} h => of_decide_eq_true h) h
theorem el_sorted {kvs : List (Key × V)} {ks : List Int} (hd : Ev td σ H (.ref a)) (h : H a = some (.dK kvs)) (hk : kvs.map (·.1) = ks.map Sum.inl) (h64 : ks.length < 64) :
    EvL (tCB (fun xs H Q => ∃ (a : Addr) (kvs : List (Key × V)) (ks : List Int), xs = [.ref a] ∧ Rd H a (.dK kvs) ∧ kvs.map (·.1) = ks.map Sum.inl ∧ ks.length < 64 ∧ ∀ (ys : List Int) (p : Addr), ys.Perm ks → ys.Pairwise (· ≤ ·) → H p = none → Q (.ref p) (upd H p (.lst (ys.map V.int)))) (tCons td tNil)) σ H ((srt ks).map V.int) := fun H1 e Q q =>
  hd H1 e _ fun H2 e2 => ⟨a, kvs, ks, rfl, .inl ((e.trans e2) _ _ h), hk, h64, fun ys p hp hso np => by
    rw [perm_sorted (hp.trans (srt_perm ks).symm) hso (srt_asc ks)]
    exact q p _ (fresh_back e2 np) (e2.trans (Ex.new np)) upd_same⟩
/-- [e for x in a new list], its items data -/
theorem wl_lcNL {xs : List V} {j : Nat} {vs : List Nat} (g : Nat → PyData) (hz : xs.length ≤ 40000) (h : ∀ B1 H, Ex B B1 → At B1 l H → EvL tl σ H xs) (hw : ∀ x, wipe ((wipe σ vs).set j (some x)) vs = wipe σ vs)
    (ht : ∀ x H, EvT t ((wipe σ vs).set j (some x)) H true) (he : ∀ (n : Nat) (x : V), xs[n]? = some x → ∀ p q acc, Wv te ((wipe σ vs).set j (some x)) B (Pt p (.lst acc) :: Pt q (.lst xs) :: l) (rD K (g n))) :
    Wl K (tLc (iList K tl) (gName j) t te vs) σ B l (givenD xs.length (fun _ => true) g) := fun B1 H0 e0 hA Q q => h B1 H0 e0 hA H0 (Ex.refl H0) _ fun a H1 na e1 hx => by
  have hA1 := at_new hA na e1 hx
  refine ⟨a, rfl, ⟨xs, sq_of hx⟩, fun Dl hD => ?_⟩
  refine lc_list (xs := xs) (fun i H' => ∃ B' acc, Ex B1 B' ∧ At B' (Pt Dl (.lst acc) :: Pt a (.lst xs) :: l) H' ∧ DpAll K B' acc (givenD i (fun _ => true) g)) ⟨B1, [], Ex.refl B1, at_new hA1 hD (Ex.new hD) upd_same, .nil⟩ (fun i H' _ p => ?_) (fun i x H' hi p => ?_) (fun H' p => ?_)
  · obtain ⟨B', acc, b1, hA', hd⟩ := p
    exact sq_of (at_get 1 rfl hA')
  · obtain ⟨B', acc, b1, hA', hd⟩ := p
    have hlt := (List.getElem?_eq_some_iff.mp hi).1
    refine ⟨hw x, ht x H' H' (Ex.refl H') _ fun H3 e3 => ?_⟩
    have hA3 := at_ex hA' e3
    rw [if_pos rfl]
    refine he i x hi Dl a acc B' H3 (e0.trans b1) hA3 _ fun y B4 H4 e4 hA4 hy => ⟨acc, at_get 0 rfl hA4, sz_lt (by rw [dpa_len hd]; have := givenD_len i (fun _ => true) g; omega), B4, acc ++ [y], b1.trans e4, at_upd (u := .lst (acc ++ [y])) 0 rfl hA4, ?_⟩
    rw [givenD_yes rfl]
    exact dpa_app (dpa_mono e4 _ _ hd) (dpa_one hy)
  · obtain ⟨B', acc, b1, hA', hd⟩ := p
    exact q Dl acc B' H' b1 (at_drop (at_swap hA')) hd
end
end Ap
namespace Ap
open PySem PySem.Spec PyProof.Rows L2
/-- o.m(), m may raise -/
theorem pe_mx0 {X : Cx} {CX : CXT} {k : Nat} {f C : Addr} {fd : FuncData} {ps : List Str} {sp : Sp} {E : L2.St → XK} {m : Str} {pos apos : Pos} {o : Expr} {ta : TE} {pl : Sem Bool}
    (he : PE X o ta) (c : Cls X.K C) (hm : Meth X.K C m f) (F : FnOk X.prog X.w X.K X.mg X.base CX k f fd ps sp) (hr : Room k X.A) (hb : Binds X.K fd ps []) (hx : ∀ σ, PassesAt CX X σ (E σ))
    (z3 : eval (.Call (.Attribute o m apos) [] [] pos) X.env = (do { let ov ← eval o X.env; standAt apos.atName; let (f, first) ← holding [ov] (getMethod ov m pl); callWith pos f first (backTo pos (starEach [] X.env)) (backToKw pos (keywordEach [] X.env)) }) := by rfl) :
    PE X (.Call (.Attribute o m apos) [] [] pos) (tMX C m sp E ta tNil) := ⟨fun pins s σ H Q I h => PySem.W.methodCall_KW (pl := pl) (thn (he.run pins s σ H _ I h) fun u s1 hh => by
  obtain ⟨x, G, J, rx, a, dx, fs, ex, ea, l, q⟩ := hh
  subst ex
  cases (show u = Value.ref a from rx)
  exact getmeth_ok J ea c hm l (PySem.W.callWith_K0 (first := [.ref a]) J.kIn hm.kp (run_fnS (us := [.ref a]) (vs := [.ref a]) F hr hb (hx σ) J (.cons rfl .nil) q))) z3⟩
/-! ### what else of the top is known -/
theorem kit_ownB {K : PySem.W.Frag} {t : Value} {B : Addr} {b : Bool} (hd : PySem.W.hasDictIn K B = true) (ht : PySem.W.typeIn K (.ref B) = some (.type "type")) (hs : PySem.W.subIn K t (.ref B) = some b) (hne : b = false → (t == Value.ref B) = false) : PySem.W.kitOne K t (.ref B) = some b := by
  obtain ⟨cd, hc, _⟩ := PySem.W.any_some hd
  unfold PySem.W.kitOne
  cases b with
  | true =>
    split
    · rfl
    · show (if ((PySem.W.clsIn K B).isSome && PySem.W.typeIn K (.ref B) == some (.type "type")) = true then PySem.W.subIn K t (.ref B) else none) = some true
      rw [hc, ht, if_pos (by rfl)]
      exact hs
  | false =>
    rw [if_neg (by rw [hne rfl]; decide)]
    show (if ((PySem.W.clsIn K B).isSome && PySem.W.typeIn K (.ref B) == some (.type "type")) = true then PySem.W.subIn K t (.ref B) else none) = some false
    rw [hc, ht, if_pos (by rfl)]
    exact hs
/-- a tuple of no items among the constants -/
structure TupG (K : PySem.W.Frag) (mg : Str → Option Value) (x : Str) (a : Addr) : Prop where
  g : mg x = some (.ref a)
  l : ∃ o n, K.lookup a = some o ∧ o.cls = .type "tuple" ∧ o.data = .seq #[] n
theorem tg_mk {K : PySem.W.Frag} {h : Heap} {mg : Str → Option Value} (X : K.In h) (G : h.Ns mainGlobals mg) {x : Str} {p : Addr} {o : Obj} {n : Nat} (a : PySem.W.nsIn K mainGlobals x = some (some (.ref p))) (l : K.lookup p = some o) (c : o.cls = .type "tuple") (d : o.data = .seq #[] n) : ∃ p, TupG K mg x p := ⟨p, PySem.W.mg_of X G a, o, n, l, c, d⟩
theorem TupG.dp {K : PySem.W.Frag} {mg : Str → Option Value} {x : Str} {a : Addr} {H : Hp} (T : TupG K mg x a) : Dp K H (.ref a) (.tuple []) := by
  obtain ⟨o, n, h1, h2, h3⟩ := T.l
  exact .tup (.inr ⟨o, #[], n, h1, h2, h3, Nat.zero_le _, .nil⟩) .nil
/-- the law's end, the ground's own word handed on -/
theorem walk_ofX {l : PySem.W.OpenLaw} {n k : Nat} {q : Program} {loose : List Str} {XP : (Str → Option Value) → Heap → Prop} {YP : World → Heap → Prop} {d : DefRec} {K : Params → PySem.W.Frag} {CX : World → CXT} {sp : World → Sp} {x : Str}
    (hn : l.most = some n) (hn2 : n ≤ sizeLine) (hdf : d.params.defaults = []) (hr : Room k callerA) (hY : ∀ (w : World) (h : Heap), YP w h → (K w.params).In h)
    (F : ∀ (w : World) (mg : Str → Option Value) (fa : Addr) (h : Heap), (K w.params).In h → h.Ns mainGlobals mg → XP mg h → mg d.name = some (.ref fa) →
      ∃ fd : FuncData, (∀ (s : Shared) (u : Value), BindsTo s fd ⟨[u], []⟩ [(x, u)]) ∧ ∀ base : Heap, (K w.params).In base → base.Ns mainGlobals mg → FnOk l.prog w (K w.params) mg base (CX w) k fa fd [x] (sp w))
    (hsp : ∀ (w : World) (H : Hp) (a : Addr) (ns : List Int), ns.length ≤ n → Only H → SqL (K w.params) H a (ns.map V.int) → sp w [.ref a] H (fun v _ => v = .bl true) fun _ _ _ => False)
    (hCX : ∀ (w : World) (H : Hp) (s : Shared) (e : Value) (s' : Shared), CX w [] H s (fun _ _ _ => False) e s' → False) :
    PySem.W.WalkO q loose XP YP l.row.toRowW d [] (fun f vs => PySem.call f vs) := by
  refine Att.attach_call hn hdf fun w s₀ s₁ mg mb fa o pm cd doc a vs ns G Y ho hd hcd hmg hobj hints hlen hg => ?_
  have KX := hY w _ Y
  obtain ⟨fd, hb, hF⟩ := F w mg fa _ KX G.T.g G.X hmg
  exact law_call KX G.T.g G.T.b G.T.builtins G.T.nolimit hg hobj hints (Nat.le_trans hlen hn2) hr hF hb (fun H hO hS => hsp w H a ns hlen hO hS) fun H e s' => hCX w H s₁ e s'
end Ap

set_option Elab.async false
set_option linter.all false
set_option maxRecDepth 100000
namespace Ap
open PySem PySem.Spec PyProof.Rows L2 Evl PySem.W
/-! ### texts that are made -/
theorem mul1_ok {c : Nat} {n : Int} (h0 : -1000 ≤ n) (h1 : n ≤ 1000) : MulOk ⟨#[c]⟩ n := by
  refine ⟨?_, fun a b => ?_, fun a b => ?_⟩
  · rw [decide_eq_false (by omega), decide_eq_false (by omega)]
    rfl
  · show ¬ (((1 : Nat) : Int) > (2 ^ 63 - 1) / n)
    have : (1 : Int) ≤ (2 ^ 63 - 1) / n := by
      refine (Int.le_ediv_iff_mul_le (by omega)).mpr ?_
      omega
    omega
  · show Builtin.Str.tooLong (1 * n.toNat) = false
    unfold Builtin.Str.tooLong
    refine decide_eq_false ?_
    have : n.toNat ≤ 1000 := by omega
    have h : (1000 : Nat) ≤ sizeLine := by decide
    omega
theorem foldrep (c : Nat) : ∀ (m : Nat) (acc : Array Nat), (List.replicate m #[c]).foldl (· ++ ·) acc = acc ++ (List.replicate m c).toArray
  | 0, acc => by simp
  | m + 1, acc => by
    rw [List.replicate_succ, List.foldl_cons, foldrep c m, List.replicate_succ]
    apply Array.ext'
    simp
theorem mul1 {c : Nat} {n : Int} : Txt.mul ⟨#[c]⟩ n = ⟨(List.replicate n.toNat c).toArray⟩ := by
  unfold Txt.mul
  by_cases h : n < 1
  · rw [if_pos h, show n.toNat = 0 by omega]
    rfl
  · rw [if_neg h]
    by_cases h2 : (n == 1 || (⟨#[c]⟩ : Str).length == 0) = true
    · rw [if_pos h2]
      have : n = 1 := by
        rcases (Bool.or_eq_true _ _).mp h2 with h | h
        · exact beq_iff_eq.mp h
        · exact absurd h (by show ¬ ((1 : Nat) == 0) = true; decide)
      subst this
      rfl
    · rw [if_neg h2, foldrep]
      simp
theorem jn1 (cs : List Nat) : Txt.join ⟨#[]⟩ (cs.map fun c => (⟨#[c]⟩ : Str)) = ⟨cs.toArray⟩ := by
  refine TL.ext_tl ?_
  rw [TL.join_eq, TL.tl_join]
  show TL.joinL [] ((cs.map fun c => (⟨#[c]⟩ : Str)).map TL.tl) = cs
  have h : ∀ cs : List Nat, TL.joinL [] ((cs.map fun c => (⟨#[c]⟩ : Str)).map TL.tl) = cs := fun cs => by
    induction cs with
    | nil => rfl
    | cons c r ih =>
      cases r with
      | nil => rfl
      | cons d r =>
        show [c] ++ ([] ++ TL.joinL [] _) = c :: d :: r
        have ih' : TL.joinL [] (((d :: r).map fun c => (⟨#[c]⟩ : Str)).map TL.tl) = d :: r := ih
        exact congrArg (c :: ·) ih'
  exact h cs
def allC (cs : List Nat) : Bool := cs.all chOk
theorem isT_of {cs : List Nat} (h : allC cs = true) (hl : cs.length ≤ 200) : isT (.str ⟨cs.toArray⟩) = true := by
  show (decide ((⟨cs.toArray⟩ : Str).length ≤ 200) && cs.toArray.toList.all chOk) = true
  rw [decide_eq_true (by show cs.toArray.size ≤ 200; simpa using hl)]
  simpa [allC] using h
/-! ### the law's stream of draws: two numbers in a list -/
def StM (s : Addr) : MP := ExM fun p : Int × Int => AndM (0 ≤ p.1 ∧ 0 ≤ p.2 ∧ p.2 < 2147483648) (Pt s (.lst [.int p.1, .int p.2]))
def spNext : Sp := fun vs H Q _ => ∃ (s : Addr) (n : Int) (B : Hp) (F : List MP), vs = [.ref s, .int n] ∧ At B (StM s :: F) H ∧ 0 < n ∧ n ≤ 10 ^ 20 ∧ ∀ r H1, 0 ≤ r → r < n → At B (StM s :: F) H1 → Q (.int r) H1
section
variable {K : PySem.W.Frag} {σ : L2.St} {B H : Hp} {l : List MP} {ta td te tn : TE} {t : TT} {x y v : V} {R : Rr} {s : Addr} {D : Ends} {tz tu : TS} {i j : Nat} {n : Int} {E : XK}
theorem wv_next (j : Nat) (hj : l[j]? = some (StM s)) (hs : σ[i]? = some (some (.ref s))) (hn : ∀ H1, Ev tn σ H1 (.int n)) (h0 : 0 < n) (h1 : n ≤ 10 ^ 20) : Wv (tCall spNext [] E (tCons (tVar i) (tCons tn tNil))) σ B l (rN fun r => 0 ≤ r ∧ r < n) := fun B1 H e1 hA Q q =>
  go_call (go_cons (ev_var hs) fun H1 e2 => go_cons (hn H1) fun H2 e3 => go_nil ⟨s, n, B1, l.eraseIdx j, rfl, at_pull j hj (at_ex hA (e2.trans e3)), h0, h1, fun r H3 a b hA3 => q _ B1 H3 (Ex.refl B1) (by
    have := at_put j hj hA3
    rwa [List.set_getElem?_self' hj] at this) ⟨r, rfl, a, b⟩⟩)
theorem et_orF' {tq tr : TT} {b : Bool} (h1 : EvT tq σ H false) (h2 : EvT tr σ H b) : EvT (tOr tq tr) σ H b := et_is (et_or (a := false) (b := b) h1 (fun _ => h2)) (Bool.false_or b)
theorem et_andT' {tq tr : TT} {b : Bool} (h1 : EvT tq σ H true) (h2 : EvT tr σ H b) : EvT (tAnd tq tr) σ H b := et_is (et_and (a := true) (b := b) h1 (fun _ => h2)) (Bool.true_and b)
theorem go_m1 {to : TE} {r : V → List V → Hp → VK → Prop} {z : Str} {Q : VK} (h : Ev to σ H (.str z)) (k : ∀ H1, Ex H H1 → te σ H1 fun y H2 => r (.str z) [y] H2 Q) : tM1 r to te σ H Q := h H (Ex.refl H) _ fun H1 e1 => ⟨⟨z, rfl⟩, k H1 e1⟩
theorem st_mk {a b : Int} (h0 : 0 ≤ a) (h1 : 0 ≤ b) (h2 : b < 2147483648) (h : At B (Pt s (.lst [.int a, .int b]) :: l) H) : At B (StM s :: l) H := at_exm' (a, b) (at_and' ⟨h0, h1, h2⟩ h)
theorem st_open (h : At B (StM s :: l) H) : ∃ a b, 0 ≤ a ∧ 0 ≤ b ∧ b < 2147483648 ∧ At B (Pt s (.lst [.int a, .int b]) :: l) H := by
  obtain ⟨⟨a, b⟩, h⟩ := at_exm h
  obtain ⟨⟨h0, h1, h2⟩, h⟩ := at_and h
  exact ⟨a, b, h0, h1, h2, h⟩
/-- return a new list -/
theorem re_lst {xs : List V} (hA : At B l H) (h : EvL te σ H xs) (k : ∀ p H1, At B (Pt p (.lst xs) :: l) H1 → D.rt (.ref p) H1) : tRet te D σ H := h H (Ex.refl H) _ fun p H1 np e1 hp => k p H1 (at_new hA np e1 hp)
/-- xs[i] = e -/
theorem qe_set {ti : TE} {q : Addr} {xs : List V} {m : Nat} (k : Nat) (hk : l[k]? = some (Pt q (.lst xs))) (hA : At B l H) (hv : Ev te σ H v) (ha : ∀ H1, Ev ta σ H1 (.ref q)) (hi : ∀ H1, Ev ti σ H1 (.int i)) (hx : ixN xs.length i = some m) (c : ∀ H1, At B (l.set k (Pt q (.lst (xs.set m v)))) H1 → tz D σ H1) : tSeq (tAsg te (gSub ta ti rSetL)) tz D σ H :=
  hv H (Ex.refl H) _ fun H1 e1 => ha H1 H1 (Ex.refl H1) _ fun H2 e2 => hi H2 H2 (Ex.refl H2) _ fun H3 e3 => ⟨q, xs, i, m, rfl, rfl, at_get k hk (at_ex hA ((e1.trans e2).trans e3)), hx, c _ (at_upd k hk (at_ex hA ((e1.trans e2).trans e3)))⟩
/-- for x in range(what is drawn) -/
theorem s_forR1W {φ : Int → Prop} (hA : At B l H) (h : Wv te σ B l (rN φ)) (hφ : ∀ n, φ n → 0 ≤ n ∧ n ≤ 100000) (Pv : Int → Nat → L2.St → Hp → Prop) (h0 : ∀ n B1 H1, φ n → Ex B B1 → At B1 l H1 → Pv n 0 σ H1)
    (hs : ∀ (n : Int) (i : Nat) σ' H', φ n → (i : Int) < n → Pv n i σ' H' → tu { D with nx := Pv n (i + 1), ct := Pv n (i + 1), bk := D.nx } (σ'.set j (some (.int (i : Int)))) H') (hd : ∀ n σ' H', φ n → Pv n n.toNat σ' H' → D.nx σ' H') : tFor (iRng1 (tCons te tNil)) (gName j) tu D σ H :=
  h B H (Ex.refl B) hA _ fun v B1 H1 e1 hA1 ⟨n, hv, hn⟩ => by
    subst hv
    exact ⟨n, rfl, by have := hφ n hn; omega, by have := hφ n hn; omega, for_range (lo := 0) (n := n.toNat) (Pv n) (h0 n B1 H1 hn e1 hA1) (fun i σ' H' hi p => by
      have e0 : (0 : Int) + (i : Int) = (i : Int) := Int.zero_add _
      show tu { D with nx := Pv n (i + 1), ct := Pv n (i + 1), bk := D.nx } (σ'.set j (some (.int ((0 : Int) + (i : Int))))) H'
      rw [e0]
      exact hs n i σ' H' hn (by omega) p) (fun σ' H' p => hd n σ' H' hn p)⟩
theorem q_forR1W {φ : Int → Prop} (hA : At B l H) (h : Wv te σ B l (rN φ)) (hφ : ∀ n, φ n → 0 ≤ n ∧ n ≤ 100000) (Pv : Int → Nat → L2.St → Hp → Prop) (h0 : ∀ n B1 H1, φ n → Ex B B1 → At B1 l H1 → Pv n 0 σ H1)
    (hs : ∀ (n : Int) (i : Nat) σ' H', φ n → (i : Int) < n → Pv n i σ' H' → tu { D with nx := Pv n (i + 1), ct := Pv n (i + 1), bk := tz D } (σ'.set j (some (.int (i : Int)))) H') (hd : ∀ n σ' H', φ n → Pv n n.toNat σ' H' → tz D σ' H') : tSeq (tFor (iRng1 (tCons te tNil)) (gName j) tu) tz D σ H :=
  s_forR1W (D := { D with nx := tz D }) hA h hφ Pv h0 hs hd
/-- [e for j in range(what is drawn)], e of a kind -/
def WlP (te : TE) (σ : L2.St) (B : Hp) (l : List MP) (m : Nat) (ψ : V → Prop) : Prop := ∀ B1 H, Ex B B1 → At B1 l H → ∀ Q : VK, (∀ p xs B2 H2, Ex B1 B2 → At B2 (Pt p (.lst xs) :: l) H2 → (∀ x ∈ xs, ψ x) → xs.length ≤ m → Q (.ref p) H2) → te σ H Q
def rP (ψ : V → Prop) : Rr := ⟨fun v _ => ψ v, fun _ h => h⟩
theorem wl_lcR1P {ψ : V → Prop} {φ : Int → Prop} {m : Nat} {vs : List Nat} (hφ : ∀ n, φ n → 0 ≤ n ∧ n ≤ (m : Int)) (hm : m ≤ 40000) (h : Wv tn σ B l (rN φ)) (hw : ∀ x, wipe ((wipe σ vs).set j (some x)) vs = wipe σ vs)
    (ht : ∀ (i : Nat) H, EvT t ((wipe σ vs).set j (some (.int (i : Int)))) H true) (he : ∀ (i : Nat) p acc, Wv te ((wipe σ vs).set j (some (.int (i : Int)))) B (Pt p (.lst acc) :: l) (rP ψ)) :
    WlP (tLc (iRng1 (tCons tn tNil)) (gName j) t te vs) σ B l m ψ := fun B1 H0 e0 hA Q q => h B1 H0 e0 hA _ fun v B2 H1 e1 hA1 ⟨n, hv, hn⟩ => by
  subst hv
  have hn := hφ n hn
  refine ⟨n, rfl, by omega, by omega, fun Dl hD => ?_⟩
  refine lc_range (lo := 0) (n := n.toNat) (fun i H' => ∃ B' acc, Ex B2 B' ∧ At B' (Pt Dl (.lst acc) :: l) H' ∧ (∀ x ∈ acc, ψ x) ∧ acc.length = i) ⟨B2, [], Ex.refl B2, at_new hA1 hD (Ex.new hD) upd_same, fun x hx => absurd hx List.not_mem_nil, rfl⟩ (fun i H' hi p => ?_) (fun H' p => ?_)
  · have e0' : (0 : Int) + (i : Int) = (i : Int) := Int.zero_add _
    rw [e0']
    obtain ⟨B', acc, b1, hA', ha, hl⟩ := p
    refine ⟨hw _, ht i H' H' (Ex.refl H') _ fun H3 e3 => ?_⟩
    rw [if_pos rfl]
    refine he i Dl acc B' H3 ((e0.trans e1).trans b1) (at_ex hA' e3) _ fun y B4 H4 e4 hA4 hy => ⟨acc, at_get 0 rfl hA4, sz_lt (by omega), B4, acc ++ [y], b1.trans e4, at_upd (u := .lst (acc ++ [y])) 0 rfl hA4, fun x hx => ?_, by rw [List.length_append, hl]; rfl⟩
    rcases List.mem_append.mp hx with hx | hx
    · exact ha x hx
    · rw [List.mem_singleton.mp hx]
      exact hy
  · obtain ⟨B', acc, b1, hA', ha, hl⟩ := p
    exact q Dl acc B' H' (e1.trans b1) hA' ha (by omega)

theorem sm_appF {K : PySem.W.Frag} {a : Addr} {ds : List PyData} {d : PyData} (n : Nat) (e : l[n]? = some (LstM K a ds)) (hA : At B l H) (ha : ∀ H1, At B l H1 → Ev ta σ H1 (.ref a)) (h : Wv te σ B l (rD K d)) (hz : ds.length < 100000) (c : ∀ B1 H1, Ex B B1 → At B1 (l.set n (LstM K a (ds ++ [d]))) H1 → D.nx σ H1) : tDrop (tBM K "list" rAppend ta (tCons te tNil)) D σ H :=
  ha H hA H (Ex.refl H) _ fun H1 e1 => by
    have hA1 := at_ex hA e1
    obtain ⟨xs, h1, h2⟩ := lst_at n e hA1
    refine ⟨.inl ⟨rfl, xs, sq_of h2⟩, h B H1 (Ex.refl B) hA1 _ fun v B2 H2 b2 hA2 hv => ?_⟩
    obtain ⟨xs, h1, h2⟩ := lst_at n e hA2
    exact ⟨a, xs, v, rfl, rfl, h2, sz_lt (by rw [dpa_len h1]; exact hz), c B2 _ b2 (lst_upd n e hA2 (dpa_app h1 (dpa_one hv)))⟩
theorem qm_appF {K : PySem.W.Frag} {a : Addr} {ds : List PyData} {d : PyData} (n : Nat) (e : l[n]? = some (LstM K a ds)) (hA : At B l H) (ha : ∀ H1, At B l H1 → Ev ta σ H1 (.ref a)) (h : Wv te σ B l (rD K d)) (hz : ds.length < 100000) (c : ∀ B1 H1, Ex B B1 → At B1 (l.set n (LstM K a (ds ++ [d]))) H1 → tz D σ H1) : tSeq (tDrop (tBM K "list" rAppend ta (tCons te tNil))) tz D σ H :=
  sm_appF (D := { D with nx := tz D }) n e hA ha h hz c
/-- if t: .., both ways to the same -/
theorem qe_whenR {l' : List MP} {b : Bool} (hA : At B l H) (h : EvT t σ H b) (h2 : b = false → ∀ H1, At B l H1 → At B l' H1) (h1 : b = true → ∀ H1, At B l H1 → ∀ Dn : Ends, (∀ H1, At B l' H1 → Dn.nx σ H1) → tu Dn σ H1) (k : ∀ H1, At B l' H1 → tz D σ H1) : tSeq (tIfS t tu tNext) tz D σ H :=
  qe_when hA h (fun hb H1 hA => h1 hb H1 hA { D with nx := tz D } k) (fun hb H1 hA => k H1 (h2 hb H1 hA))
theorem se_fsub {K : PySem.W.Frag} {a : Addr} {tv : TE} {C dx : Addr} {fs : List (Str × V)} {f : Str} {i j : Int} (k : Nat) (hk : l[k]? = some (Pt a (.ins C dx fs))) (hA : At B l H) (ho : Ev ta σ H (.ref a)) (hv : ∀ H1, Ev tv σ H1 (.int j)) (c : Cls K C) (n : NoAttr K C f) (hf : fs.lookup f = some (.int i)) (hl : fs.length < 1000)
    (g : ∀ H1, At B (l.set k (Pt a (.ins C dx (putF f (.int (i - j)) fs)))) H1 → D.nx σ H1) : sFldAug K ta tv rSub f D σ H :=
  ho H (Ex.refl H) _ fun H1 e1 => ⟨a, C, dx, fs, .int i, rfl, at_get k hk (at_ex hA e1), c, n, hf, hv H1 H1 (Ex.refl H1) _ fun H2 e2 => ⟨i, j, rfl, rfl, dx, fs, at_get k hk (at_ex hA (e1.trans e2)), hl, g _ (at_upd k hk (at_ex hA (e1.trans e2)))⟩⟩
theorem look_isSome {l : DI} {p : Int × PyData} (h : p ∈ l) : ∃ d, look l p.1 = some d := by
  induction l with
  | nil => cases h
  | cons q r ih =>
    rw [look_cons]
    by_cases e : q.1 = p.1
    · rw [if_pos e]
      exact ⟨_, rfl⟩
    · rw [if_neg e]
      rcases List.mem_cons.mp h with h | h
      · rw [h] at e
        exact absurd rfl e
      · exact ih h
theorem look_mem {l : DI} {k : Int} {d : PyData} (h : look l k = some d) : (k, d) ∈ l := by
  induction l with
  | nil => cases h
  | cons q r ih =>
    rw [look_cons] at h
    by_cases e : q.1 = k
    · rw [if_pos e] at h
      have h := Option.some.inj h
      refine List.mem_cons.mpr (.inl ?_)
      rw [← e, ← h]
    · rw [if_neg e] at h
      exact List.mem_cons_of_mem _ (ih h)
theorem given_filter (l : DI) (g : Int × PyData → Bool) : Evl.given l.length (fun n => g (l.getD n (0, .none))) (fun n => V.int (l.getD n (0, .none)).1) = ((l.filter g).map (·.1)).map V.int := by
  have e := range_get ((0, .none) : Int × PyData) l
  unfold Evl.given
  conv => rhs; rw [← e]
  rw [List.filter_map, List.map_map, List.map_map]
  rfl
/-! ### what is drawn, in expressions and tests -/
variable {φ ψ χ : Int → Prop} {tb : TE} {tw : TS}
theorem wv_i {m : Int} (h : ∀ H1, Ev te σ H1 (.int m)) : Wv te σ B l (rN fun r => r = m) := fun B1 H1 e1 hA Q q => h H1 H1 (Ex.refl H1) _ fun H2 e2 => q _ B1 H2 (Ex.refl B1) (at_ex hA e2) ⟨m, rfl, rfl⟩
theorem wv_opW {r : R2} (ha : Wv ta σ B l (rN φ)) (hb : Wv tb σ B l (rN ψ)) (hr : ∀ i j, φ i → ψ j → ∀ H (Q : VK), (∀ k, χ k → Q (.int k) H) → r (.int i) (.int j) H Q) : Wv (tOp r ta tb) σ B l (rN χ) := fun B1 H1 e1 hA Q q =>
  ha B1 H1 e1 hA _ fun v B2 H2 e2 hA2 ⟨i, hv, hi⟩ => hb B2 H2 (e1.trans e2) hA2 _ fun w B3 H3 e3 hA3 ⟨j, hw, hj⟩ => by
    subst hv hw
    exact hr i j hi hj H3 _ fun k hk => q _ B3 H3 (e2.trans e3) hA3 ⟨k, rfl, hk⟩
theorem wv_addW (ha : Wv ta σ B l (rN φ)) (hb : Wv tb σ B l (rN ψ)) (hr : ∀ i j, φ i → ψ j → χ (i + j)) : Wv (tOp (rI0 fun i j => .int (i + j)) ta tb) σ B l (rN χ) := wv_opW ha hb fun i j hi hj H Q q => ⟨i, j, rfl, rfl, q _ (hr i j hi hj)⟩
theorem wv_subW (ha : Wv ta σ B l (rN φ)) (hb : Wv tb σ B l (rN ψ)) (hr : ∀ i j, φ i → ψ j → χ (i - j)) : Wv (tOp (rI0 fun i j => .int (i - j)) ta tb) σ B l (rN χ) := wv_opW ha hb fun i j hi hj H Q q => ⟨i, j, rfl, rfl, q _ (hr i j hi hj)⟩
theorem wv_mulW (ha : Wv ta σ B l (rN φ)) (hb : Wv tb σ B l (rN ψ)) (hr : ∀ i j, φ i → ψ j → CMul i j ∧ χ (i * j)) : Wv (tOp (rI CMul fun i j => .int (i * j)) ta tb) σ B l (rN χ) := wv_opW ha hb fun i j hi hj H Q q => ⟨i, j, rfl, rfl, (hr i j hi hj).1, q _ (hr i j hi hj).2⟩
theorem wv_intP {ρ : V → Prop} (ha : Wv ta σ B l (rN φ)) (hr : ∀ i, φ i → ρ (.int i)) : Wv ta σ B l (rP ρ) := Wv.to (R := rN φ) (R' := rP ρ) (fun v B ⟨i, hv, hi⟩ => by
  subst hv
  exact hr i hi) ha
/-- te == c, te drawn -/
theorem eqc_do {c : Int} {Q : Bool → Hp → Prop} (hA : At B l H) (h : Wv te σ B l (rN φ)) (k : ∀ n B1 H1, φ n → Ex B B1 → At B1 l H1 → Q (decide (n = c)) H1) : tTest (tOp rEq te (tC (.int c))) σ H Q := h B H (Ex.refl B) hA _ fun v B1 H1 e1 hA1 ⟨n, hv, hn⟩ => by
  subst hv
  exact ev_c (σ := σ) H1 (Ex.refl H1) _ fun H2 e2 => rv_eqI H2 (Ex.refl H2) _ fun H3 e3 => ⟨_, rfl, k n B1 H3 hn e1 (at_ex hA1 (e2.trans e3))⟩
theorem sw_ifEq {c : Int} (hA : At B l H) (h : Wv te σ B l (rN φ)) (h1 : ∀ B1 H1, Ex B B1 → At B1 l H1 → tu D σ H1) (h2 : ∀ B1 H1, Ex B B1 → At B1 l H1 → tw D σ H1) : tIfS (tTest (tOp rEq te (tC (.int c)))) tu tw D σ H := eqc_do hA h fun n B1 H1 hn e1 hA1 => by
  by_cases e : n = c
  · rw [if_pos (decide_eq_true e)]
    exact h1 B1 H1 e1 hA1
  · rw [if_neg (by rw [decide_eq_false e]; decide)]
    exact h2 B1 H1 e1 hA1
theorem qw_ifEq {c : Int} (hA : At B l H) (h : Wv te σ B l (rN φ)) (h1 : ∀ B1 H1, Ex B B1 → At B1 l H1 → tu { D with nx := tz D } σ H1) (h2 : ∀ B1 H1, Ex B B1 → At B1 l H1 → tw { D with nx := tz D } σ H1) : tSeq (tIfS (tTest (tOp rEq te (tC (.int c)))) tu tw) tz D σ H := sw_ifEq (D := { D with nx := tz D }) hA h h1 h2
theorem qw_whenEq {c : Int} (hA : At B l H) (h : Wv te σ B l (rN φ)) (h1 : ∀ B1 H1, Ex B B1 → At B1 l H1 → tu { D with nx := tz D } σ H1) (h2 : ∀ B1 H1, Ex B B1 → At B1 l H1 → tz D σ H1) : tSeq (tIfS (tTest (tOp rEq te (tC (.int c)))) tu tNext) tz D σ H := qw_ifEq hA h h1 h2
/-- what is drawn of a tuple of ints -/
theorem wv_ixTW {tt : TA} {ns : List Int} (ht : ∀ H1, EvA tt σ H1 (ns.map V.int)) (hz : ns.length ≤ 100000) (hb : ∀ p, Wv tb σ B (Pt p (.tup (ns.map V.int)) :: l) (rN φ)) (hr : ∀ j, φ j → ∃ k, atI ns j = some k ∧ χ k) : Wv (tOp (rIxT K) (tTup tt) tb) σ B l (rN χ) := fun B1 H1 e1 hA Q q =>
  go_op (go_tup (ht H1 H1 (Ex.refl H1) _ fun H2 e2 => ⟨by rw [List.length_map]; exact sz_of hz, fun p hp => hb p B1 _ e1 (at_new (at_ex hA e2) hp (Ex.new hp) upd_same) _ fun v B3 H3 e3 hA3 ⟨j, hv, hj⟩ => by
    subst hv
    obtain ⟨k, hk, hχ⟩ := hr j hj
    obtain ⟨m, hm, hx⟩ := atI_len (xs := ns.map V.int) (ys := ns) (List.length_map _) hk
    exact ⟨p, _, j, .int k, rfl, rfl, st_of (at_get 0 rfl hA3), hx _ (by rw [List.getElem?_map, hm]; rfl), q _ B3 H3 e3 (at_drop hA3) ⟨k, rfl, hχ⟩⟩⟩))
def isCh (v : V) : Prop := ∃ c : Nat, v = .str ⟨#[c]⟩ ∧ chOk c = true
/-- a drawn char of a text -/
theorem wv_ixS {z : Str} {m : Nat} (hz : z.cps.toList.length = m) (h9 : m ≤ 1000) (hc : z.cps.toList.all chOk = true) (ha : ∀ H1, Ev ta σ H1 (.str z)) (hb : Wv tb σ B l (rN fun r => 0 ≤ r ∧ r < (m : Int))) : Wv (tOp rIxS ta tb) σ B l (rP isCh) := fun B1 H1 e1 hA Q q =>
  go_op (ha H1 H1 (Ex.refl H1) _ fun H2 e2 => hb B1 H2 e1 (at_ex hA e2) _ fun v B3 H3 e3 hA3 ⟨r, hv, h0, h1⟩ => by
    subst hv
    obtain ⟨k, rfl⟩ : ∃ k : Nat, r = (k : Int) := ⟨r.toNat, by omega⟩
    have hk : k < z.cps.toList.length := by omega
    have e := List.getElem?_eq_getElem hk
    refine ⟨z, (k : Int), _, rfl, rfl, ?_, atI_nat e, q _ B3 H3 e3 hA3 ⟨_, rfl, List.all_eq_true.mp hc _ (List.getElem_mem hk)⟩⟩
    have hl : z.length = z.cps.toList.length := Array.length_toList.symm
    rw [hl, hz]
    exact sz_of (by omega))
theorem chs_of : ∀ {xs : List V}, (∀ x ∈ xs, isCh x) → ∃ cs : List Nat, xs = (cs.map fun c => (⟨#[c]⟩ : Str)).map V.str ∧ allC cs = true ∧ cs.length = xs.length
  | [], _ => ⟨[], rfl, rfl, rfl⟩
  | x :: r, h => by
    obtain ⟨cs, h1, h2, h3⟩ := chs_of fun y hy => h y (List.mem_cons_of_mem _ hy)
    obtain ⟨c, rfl, hc⟩ := h x List.mem_cons_self
    refine ⟨c :: cs, by rw [h1]; rfl, ?_, by rw [List.length_cons, List.length_cons, h3]⟩
    show (chOk c && allC cs) = true
    rw [hc, h2]
    rfl
theorem ch_len (cs : List Nat) : ((cs.map fun c => (⟨#[c]⟩ : Str)).map (·.length)).sum = cs.length := by
  induction cs with
  | nil => rfl
  | cons c r ih =>
    rw [List.map_cons, List.map_cons, List.sum_cons, ih, List.length_cons]
    show 1 + r.length = r.length + 1
    omega
theorem app_arr (cs ds : List Nat) : (⟨cs.toArray⟩ : Str) ++ ⟨ds.toArray⟩ = ⟨(cs ++ ds).toArray⟩ := by
  show (⟨cs.toArray ++ ds.toArray⟩ : Str) = _
  simp
theorem allC_rep {c : Nat} (h : chOk c = true) (n : Nat) : allC (List.replicate n c) = true := List.all_eq_true.mpr fun x hx => by rw [(List.mem_replicate.mp hx).2, h]
theorem allC_app {cs ds : List Nat} (h1 : allC cs = true) (h2 : allC ds = true) : allC (cs ++ ds) = true := by
  unfold allC at *
  rw [List.all_append, h1, h2]
  rfl
/-! ### blocks -/
def isBlk : PyData → Bool
  | .tuple ds => decide (ds.length ≤ 12) && ds.all isP
  | _ => false
theorem blk_of {d : PyData} (h : isBlk d = true) : ∃ ds, d = .tuple ds ∧ ds.length ≤ 12 ∧ ∀ e ∈ ds, isP e = true := by
  cases d with
  | tuple ds =>
    have h := Bool.and_eq_true_iff.mp (show (decide (ds.length ≤ 12) && ds.all isP) = true from h)
    exact ⟨ds, rfl, of_decide_eq_true h.1, List.all_eq_true.mp h.2⟩
  | _ => cases h
theorem isP_cases {e : PyData} (h : isP e = true) : (∃ i, e = .int i ∧ isI e = true) ∨ ∃ z, e = .str z ∧ isT e = true := by
  cases e <;> simp_all [isP, isI, isT]
theorem isT_len {z : Str} (h : isT (.str z) = true) : z.length ≤ 200 := of_decide_eq_true (Bool.and_eq_true_iff.mp (show (decide (z.length ≤ 200) && z.cps.toList.all chOk) = true from h)).1
theorem isP_okd {n : Nat} {e : PyData} (h : isP e = true) : Okd n e := by
  rcases isP_cases h with ⟨i, rfl, _⟩ | ⟨z, rfl, hz⟩
  · exact .int i
  · exact .str (by have := isT_len hz; omega)
theorem isP_okn {n : Nat} {e : PyData} (h : isP e = true) : Okn n e := by
  rcases isP_cases h with ⟨i, rfl, _⟩ | ⟨z, rfl, hz⟩
  · exact .int i
  · exact .str z
theorem isP_isV {e : PyData} (h : isP e = true) : isV e = true := by
  rcases isP_cases h with ⟨i, rfl, _⟩ | ⟨z, rfl, hz⟩
  · simpa [isV] using h
  · simpa [isV] using h
theorem blk_okd {n : Nat} {d : PyData} (h : isBlk d = true) : Okd (n + 1) d := by
  obtain ⟨ds, rfl, hl, hp⟩ := blk_of h
  exact .tup (by omega) fun e he => isP_okd (hp e he)
theorem blk_okn {n : Nat} {d : PyData} (h : isBlk d = true) : Okn (n + 1) d := by
  obtain ⟨ds, rfl, hl, hp⟩ := blk_of h
  exact .tup (by omega) fun e he => isP_okn (hp e he)
theorem blk_sd {n : Nat} {d : PyData} (h : isBlk d = true) : Sd (n + 1) d := by
  obtain ⟨ds, rfl, hl, hp⟩ := blk_of h
  exact sd_tuple fun e he => isV_sd (isP_okd (n := n) (hp e he)) (isP_isV (hp e he))
/-- ints and texts, as values -/
def isIT (v : V) : Prop := (∃ i, v = .int i ∧ isI (.int i) = true) ∨ ∃ z, v = .str z ∧ isT (.str z) = true
theorem it_of {K : PySem.W.Frag} {B : Hp} : ∀ {xs : List V}, (∀ x ∈ xs, isIT x) → ∃ ds, DpAll K B xs ds ∧ ∀ e ∈ ds, isP e = true
  | [], _ => ⟨[], .nil, fun _ h => nomatch h⟩
  | x :: r, h => by
    obtain ⟨ds, h1, h2⟩ := it_of (K := K) (B := B) fun y hy => h y (List.mem_cons_of_mem _ hy)
    rcases h x List.mem_cons_self with ⟨i, rfl, hi⟩ | ⟨z, rfl, hz⟩
    · refine ⟨.int i :: ds, .cons (.int i) h1, fun e he => ?_⟩
      rcases List.mem_cons.mp he with rfl | he
      · unfold isP; rw [hi]; rfl
      · exact h2 e he
    · refine ⟨.str z :: ds, .cons (.str z) h1, fun e he => ?_⟩
      rcases List.mem_cons.mp he with rfl | he
      · unfold isP; rw [hz, Bool.or_true]
      · exact h2 e he
end
end Ap

set_option Elab.async false
set_option linter.all false
set_option maxRecDepth 100000
set_option maxHeartbeats 4000000
namespace Ap
open PySem PySem.Spec PyProof.Rows L2 Evl PySem.W
local macro_rules | `(tactic| walk_at "sq") => `(tactic| first | assumption | (refine Evl.ex_l (by assumption) ?_; walk_at "sq"))
local macro_rules | `(tactic| walk_at "st") => `(tactic| first | assumption | (refine Evl.ex_t (by assumption) ?_; walk_at "st"))
local macro_rules | `(tactic| walk_at "ev") => `(tactic| (repeat' (first
  | (with_reducible first
    | exact ev_c
    | refine' ev_var ?_
    | exact ea_nil
    | refine' ea_cons ?_ ?_
    | refine' ev_op ?_ ?_ ?_
    | refine' ev_chain ?_ ?_ ?_ ?_ ?_
    | refine' ev_un ?_ ?_
    | exact rv_I0
    | refine' rv_I ?_
    | refine' ev_cb ?_ ?_
    | refine' ev_call ?_ ?_
    | exact rc_int
    | exact rc_max2
    | exact rc_min2
    | exact ru_neg
    | exact rc_isiI
    | exact rc_isiIB
    | exact rc_isiB
    | exact rc_isiBI
    | exact rv_eqI
    | exact rv_neI
    | refine' et_test ?_
    | refine' et_B ?_)
  | ((with_reducible show _ = _); rfl)
  | ((with_reducible show SqL _ _ _ _); walk_at "sq")
  | ((with_reducible show SqT _ _ _ _); walk_at "st")
  | ((with_reducible show CPow _ _); exact ⟨by decide, by decide, by decide⟩)
  | ((with_reducible show CDiv _ _); first | exact ⟨by decide, by decide⟩ | exact ⟨by omega, by omega⟩)
  | ((with_reducible show CMul _ _); first | exact .inr (by decide) | exact .inl (by decide) | exact .inr ⟨by omega, by omega⟩ | exact .inl ⟨by omega, by omega⟩)
  | ((with_reducible show SpV (spDraw _) _ _ _); refine' spDrawI ?_ ?_)
  | ((with_reducible show SpV _ _ _ _); walk_at "sp")
  | ((with_reducible show RC _ _ _ _); refine' rc_len ?_)
  | ((with_reducible show RV _ _ _ _ _); first | exact rv_eq rfl | exact rv_ne rfl | (refine' rv_ixL ?hq ?eq; (case hq => walk_at "sq"); (case eq => rfl)))
  | ((with_reducible show _ ≤ _); first | decide | omega)
  | ((with_reducible show _ < _); first | decide | omega)
  | decide)))
local macro_rules | `(tactic| walk_at "bo") => `(tactic| first | rfl | exact decide_eq_true (by omega) | exact decide_eq_false (by omega) | (rw [decide_eq_true (by omega)]; done) | (rw [decide_eq_false (by omega)]; done) | (simp; omega) | (simp; done))
local macro_rules | `(tactic| walk_at "tf") => `(tactic| first
  | ((with_reducible refine' et_orF ?_ ?_) <;> walk_at "tf")
  | ((with_reducible refine' et_andT ?_ ?_) <;> walk_at "tf")
  | ((with_reducible refine' et_nt ?_) <;> walk_at "tf")
  | ((with_reducible refine' et_nf ?_) <;> walk_at "tf")
  | (refine' et_is ?c ?d; (case c => walk_at "ev"); (case d => walk_at "bo")))
local macro_rules | `(tactic| walk_at "vt") => `(tactic| first
  | ((with_reducible refine' ev_andT ?_ ?_) <;> walk_at "vt")
  | ((with_reducible refine' ev_orF ?_ ?_) <;> walk_at "vt")
  | ((with_reducible refine' ev_nt ?_) <;> walk_at "vt")
  | ((with_reducible refine' ev_nf ?_) <;> walk_at "vt")
  | (refine' ev_is ?c ?d; (case c => walk_at "ev"); (case d => first | rfl | (refine congrArg V.bl ?_; walk_at "bo"))))

def topS (i : Nat) : Stmt := PySem.Challenge.pw_appendhall_k05_spoilt_words.main.body.getD i (.Pass ⟨0, 0, 0, 0⟩)
abbrev s_is_integer : Stmt := topS 19
abbrev N_is_integer : List Str := ["thing"]
theorem sc_is_integer : FnScope N_is_integer ["thing"] (defScope s_is_integer) := ⟨rfl, rfl, rfl, by decide +kernel, rfl, by decide +kernel, by decide +kernel⟩
abbrev s_is_number : Stmt := topS 20
abbrev N_is_number : List Str := ["thing"]
theorem sc_is_number : FnScope N_is_number ["thing"] (defScope s_is_number) := ⟨rfl, rfl, rfl, by decide +kernel, rfl, by decide +kernel, by decide +kernel⟩
abbrev s_is_text : Stmt := topS 21
abbrev N_is_text : List Str := ["thing", "char"]
theorem sc_is_text : FnScope N_is_text ["thing"] (defScope s_is_text) := ⟨rfl, rfl, rfl, by decide +kernel, rfl, by decide +kernel, by decide +kernel⟩
abbrev s__may_stand_in_text : Stmt := topS 22
abbrev N__may_stand_in_text : List Str := ["code"]
theorem sc__may_stand_in_text : FnScope N__may_stand_in_text ["code"] (defScope s__may_stand_in_text) := ⟨rfl, rfl, rfl, by decide +kernel, rfl, by decide +kernel, by decide +kernel⟩
abbrev s_take_value : Stmt := topS 24
abbrev N_take_value : List Str := ["words", "at"]
theorem sc_take_value : FnScope N_take_value ["words", "at"] (defScope s_take_value) := ⟨rfl, rfl, rfl, by decide +kernel, rfl, by decide +kernel, by decide +kernel⟩
abbrev s_from_words : Stmt := topS 25
abbrev N_from_words : List Str := ["words", "value", "end"]
theorem sc_from_words : FnScope N_from_words ["words"] (defScope s_from_words) := ⟨rfl, rfl, rfl, by decide +kernel, rfl, by decide +kernel, by decide +kernel⟩
abbrev s__take_within : Stmt := topS 26
abbrev N__take_within : List Str := ["words", "at", "levels", "mark", "body"]
theorem sc__take_within : FnScope N__take_within ["words", "at", "levels"] (defScope s__take_within) := ⟨rfl, rfl, rfl, by decide +kernel, rfl, by decide +kernel, by decide +kernel⟩
abbrev s__word_pair : Stmt := topS 27
abbrev N__word_pair : List Str := ["words", "at"]
theorem sc__word_pair : FnScope N__word_pair ["words", "at"] (defScope s__word_pair) := ⟨rfl, rfl, rfl, by decide +kernel, rfl, by decide +kernel, by decide +kernel⟩
abbrev s__take_items : Stmt := topS 28
abbrev N__take_items : List Str := ["words", "at", "count", "levels", "items", "end", "item"]
theorem sc__take_items : FnScope N__take_items ["words", "at", "count", "levels"] (defScope s__take_items) := ⟨rfl, rfl, rfl, by decide +kernel, rfl, by decide +kernel, by decide +kernel⟩
abbrev s__law_pool : Stmt := topS 30
abbrev N__law_pool : List Str := ["script", "at", "cell"]
theorem sc__law_pool : FnScope N__law_pool ["script", "at"] (defScope s__law_pool) := ⟨rfl, rfl, rfl, by decide +kernel, rfl, by decide +kernel, by decide +kernel⟩
abbrev s__law_next : Stmt := topS 31
abbrev N__law_next : List Str := ["pool", "many", "draw"]
theorem sc__law_next : FnScope N__law_next ["pool", "many"] (defScope s__law_next) := ⟨rfl, rfl, rfl, by decide +kernel, rfl, by decide +kernel, by decide +kernel⟩
abbrev s__law_char : Stmt := topS 32
abbrev N__law_char : List Str := ["draw", "chars"]
theorem sc__law_char : FnScope N__law_char ["draw"] (defScope s__law_char) := ⟨rfl, rfl, rfl, by decide +kernel, rfl, by decide +kernel, by decide +kernel⟩
abbrev s__law_some_text : Stmt := topS 33
abbrev N__law_some_text : List Str := ["pool", "most", "length", "chars", "k"]
theorem sc__law_some_text : FnScope N__law_some_text ["pool", "most"] (defScope s__law_some_text) := ⟨rfl, rfl, rfl, by decide +kernel, rfl, by decide +kernel, by decide +kernel⟩
abbrev s__law_good : Stmt := topS 34
abbrev N__law_good : List Str := ["pool", "choice"]
theorem sc__law_good : FnScope N__law_good ["pool"] (defScope s__law_good) := ⟨rfl, rfl, rfl, by decide +kernel, rfl, by decide +kernel, by decide +kernel⟩
abbrev s__law_same : Stmt := topS 35
abbrev N__law_same : List Str := ["actual", "due", "k"]
theorem sc__law_same : FnScope N__law_same ["actual", "due"] (defScope s__law_same) := ⟨rfl, rfl, rfl, by decide +kernel, rfl, by decide +kernel, by decide +kernel⟩
abbrev s__law_words : Stmt := topS 36
abbrev N__law_words : List Str := ["atom"]
theorem sc__law_words : FnScope N__law_words ["atom"] (defScope s__law_words) := ⟨rfl, rfl, rfl, by decide +kernel, rfl, by decide +kernel, by decide +kernel⟩
abbrev s__law_tree : Stmt := topS 37
abbrev N__law_tree : List Str := ["pool", "steps", "rows", "k", "choice", "atom", "count", "last", "row", "words"]
theorem sc__law_tree : FnScope N__law_tree ["pool", "steps"] (defScope s__law_tree) := ⟨rfl, rfl, rfl, by decide +kernel, rfl, by decide +kernel, by decide +kernel⟩
abbrev s__law_word : Stmt := topS 38
abbrev N__law_word : List Str := ["pool", "choice", "words"]
theorem sc__law_word : FnScope N__law_word ["pool"] (defScope s__law_word) := ⟨rfl, rfl, rfl, by decide +kernel, rfl, by decide +kernel, by decide +kernel⟩
abbrev s__law_list : Stmt := topS 39
abbrev N__law_list : List Str := ["pool", "words", "k", "choice", "place", "other", "word"]
theorem sc__law_list : FnScope N__law_list ["pool"] (defScope s__law_list) := ⟨rfl, rfl, rfl, by decide +kernel, rfl, by decide +kernel, by decide +kernel⟩
abbrev s__law_integer : Stmt := topS 40
abbrev N__law_integer : List Str := ["word"]
theorem sc__law_integer : FnScope N__law_integer ["word"] (defScope s__law_integer) := ⟨rfl, rfl, rfl, by decide +kernel, rfl, by decide +kernel, by decide +kernel⟩
abbrev s__law_text : Stmt := topS 41
abbrev N__law_text : List Str := ["word"]
theorem sc__law_text : FnScope N__law_text ["word"] (defScope s__law_text) := ⟨rfl, rfl, rfl, by decide +kernel, rfl, by decide +kernel, by decide +kernel⟩
abbrev s__law_read : Stmt := topS 42
abbrev N__law_read : List Str := ["words", "kept", "at", "step", "mark", "word", "value", "level", "row"]
theorem sc__law_read : FnScope N__law_read ["words"] (defScope s__law_read) := ⟨rfl, rfl, rfl, by decide +kernel, rfl, by decide +kernel, by decide +kernel⟩
abbrev s__law_asked : Stmt := topS 43
abbrev N__law_asked : List Str := ["words", "whole", "told", "e"]
theorem sc__law_asked : FnScope N__law_asked ["words", "whole"] (defScope s__law_asked) := ⟨rfl, rfl, rfl, by decide +kernel, rfl, by decide +kernel, by decide +kernel⟩
abbrev s__law_raise : Stmt := topS 44
abbrev N__law_raise : List Str := ["choice"]
theorem sc__law_raise : FnScope N__law_raise ["choice"] (defScope s__law_raise) := ⟨rfl, rfl, rfl, by decide +kernel, rfl, by decide +kernel, by decide +kernel⟩
abbrev s__law_kinds : Stmt := topS 45
abbrev N__law_kinds : List Str := ["choice", "e", "kinds"]
theorem sc__law_kinds : FnScope N__law_kinds ["choice"] (defScope s__law_kinds) := ⟨rfl, rfl, rfl, by decide +kernel, rfl, by decide +kernel, by decide +kernel⟩
abbrev s_law : Stmt := topS 46
abbrev N_law : List Str := ["script", "words", "kept", "due", "choice", "k"]
theorem sc_law : FnScope N_law ["script"] (defScope s_law) := ⟨rfl, rfl, rfl, by decide +kernel, rfl, by decide +kernel, by decide +kernel⟩
section
variable {P : Program} {w : World} {K : PySem.W.Frag} {mg : Str → Option Value} {base : Heap}
structure Glo (mg : Str → Option Value) : Prop where
  len : mg "len" = none
  int : mg "int" = none
  range : mg "range" = none
  max : mg "max" = none
  isinstance : mg "isinstance" = none
  bool : mg "bool" = none
  tuple : mg "tuple" = none
  list : mg "list" = none
  str : mg "str" = none
  all : mg "all" = none
  ord : mg "ord" = none
  ValueError : mg "ValueError" = none
/-! ### the pool of draws: its mode and a number -/
def PlM (s : Addr) : MP := ExM fun p : Int × Int => AndM (0 ≤ p.2) (Pt s (.lst [.int p.1, .int p.2]))
theorem pl_mk {B H : Hp} {l : List MP} {s : Addr} {a b : Int} (h0 : 0 ≤ b) (h : At B (Pt s (.lst [.int a, .int b]) :: l) H) : At B (PlM s :: l) H := at_exm' (a, b) (at_and' h0 h)
theorem pl_open {B H : Hp} {l : List MP} {s : Addr} (h : At B (PlM s :: l) H) : ∃ a b, 0 ≤ b ∧ At B (Pt s (.lst [.int a, .int b]) :: l) H := by
  obtain ⟨⟨a, b⟩, h⟩ := at_exm h
  obtain ⟨h0, h⟩ := at_and h
  exact ⟨a, b, h0, h⟩
def spPool (K : PySem.W.Frag) : Sp := fun vs H Q _ => ∃ (a : Addr) (ns : List Int) (n : Nat) (B : Hp) (F : List MP), vs = [.ref a, .int (n : Int)] ∧ At B F H ∧ SqL K B a (ns.map V.int) ∧ ns.length ≤ 1000 ∧ n < 1000 ∧ ∀ s H1, At B (PlM s :: F) H1 → Q (.ref s) H1
theorem ok_lpool {f : Addr} {fd : FuncData} (F : Fun K "_law_pool" "_law_pool" s__law_pool f fd) (T : Glo mg) : FnOk P w K mg base CX0 1 f fd ["script", "at"] (spPool K) := by
  refine F.ok sc__law_pool (fun vs H Q E h => ?_) (fun cdv A outer s H vs Q E hr h => ?_)
  · obtain ⟨a, ns, n, B, F, rfl, _⟩ := h
    rfl
  · obtain ⟨a, ns, n, B, Fr, rfl, hA, hS, hn, hn2, q⟩ := h
    refine ⟨_, (pss_cons (ps_set (i := 2) sc__law_pool.nd rfl (.inl rfl) pe_int)
  (pss_cut (ps_if (pt_cmpR op_lt (pv 1) (pe_callB call_len_seq (by rfl) T.len PySem.boot_len (pa_cons (pv 0) pa_nil)) (nomark _))
  (pss_one (ps_set (i := 2) sc__law_pool.nd rfl (.inl rfl) (pe_ix ix_list (pv 0) (pv 1) (fun _ _ => rfl))))
  pss_nil)
  (pss_cut (ps_if (pt_cmpR op_lt (pv 2) pe_int (nomark _))
  (pss_one (ps_set (i := 2) sc__law_pool.nd rfl (.inl rfl) (pe_op op_sub (pe_un un_neg pe_int) (pv 2))))
  pss_nil)
  (pss_cons (ps_if (pt_cmpR op_ge (pv 2) (pe_op op_pow pe_int pe_int) (nomark _))
  (pss_one (ps_ret (pe_lst (pa_cons pe_int (pa_cons (pe_op op_sub (pv 2) (pe_op op_pow pe_int pe_int)) pa_nil)))))
  pss_nil)
  (pss_one (ps_ret (pe_lst (pa_cons pe_int (pa_cons (pe_op op_add (pe_op op_mul (pv 2) pe_int) (pv 1)) pa_nil))))))))), ?_⟩
    have e18 : (10 : Int) ^ (18 : Int).toNat = 1000000000000000000 := by decide
    refine qe_asg hA ev_c fun H1 hA => ?_
    refine q_cut (M := fun σ' H' => ∃ c : Int, σ' = [some (.ref a), some (.int (n : Int)), some (.int c)] ∧ At B Fr H') ?_ (fun σ' H2 p => ?_)
    · have hSH := ex_l (at_base hA) hS
      have hml : (ns.map V.int).length = ns.length := List.length_map _
      refine se_when (b := decide (((n : Nat) : Int) < ((ns.map V.int).length : Int))) hA (et_test (ev_op (ev_var rfl) (ev_cb (ea_cons (ev_var rfl) ea_nil) (rc_len hSH)) rv_I0)) (fun hb H2 hA => ?_) (fun hb H2 hA => ⟨0, rfl, hA⟩)
      have hb := of_decide_eq_true hb
      have hin : n < ns.length := by omega
      have hat : (ns.map V.int)[n]? = some (.int ns[n]) := by rw [List.getElem?_map, List.getElem?_eq_getElem hin]; rfl
      exact se_asg hA (ev_op (ev_var rfl) (ev_var rfl) (rv_ixL (ex_l (at_base hA) hS) (atI_nat hat))) fun H3 hA => ⟨_, rfl, hA⟩
    · obtain ⟨c, rfl, hA⟩ := p
      refine q_cut (M := fun σ' H' => ∃ c : Int, σ' = [some (.ref a), some (.int (n : Int)), some (.int c)] ∧ 0 ≤ c ∧ At B Fr H') ?_ (fun σ' H3 p => ?_)
      · refine se_when (b := decide (c < 0)) hA (et_test (ev_op (ev_var rfl) ev_c rv_I0)) (fun hb H3 hA => ?_) (fun hb H3 hA => ⟨c, rfl, by have := of_decide_eq_false hb; omega, hA⟩)
        have hb := of_decide_eq_true hb
        exact se_asg hA (ev_op (ev_un ev_c ru_neg) (ev_var rfl) rv_I0) fun H4 hA => ⟨-1 - c, rfl, by omega, hA⟩
      · obtain ⟨c, rfl, hc, hA⟩ := p
        have p18 : ∀ {σ : L2.St} {H : Hp}, Ev (tOp (rI CPow fun i j => .int (i ^ j.toNat)) (tC (.int 10)) (tC (.int 18))) σ H (.int 1000000000000000000) := fun {σ H} => by
          refine' ev_is ?c ?d
          case c => walk_at "ev"
          case d => rfl
        refine qe_when (b := decide (1000000000000000000 ≤ c)) hA (et_test (ev_op (ev_var rfl) p18 rv_I0)) (fun hb H4 hA => ?_) (fun hb H4 hA => ?_)
        · have hb := of_decide_eq_true hb
          exact re_lst hA (el_lst (ea_cons ev_c (ea_cons (ev_op (ev_var rfl) p18 rv_I0) ea_nil)) (by show 2 ≤ 100000; decide)) fun p H5 hA => q p H5 (pl_mk (by omega) hA)
        · exact re_lst hA (el_lst (ea_cons ev_c (ea_cons (ev_op (ev_op (ev_var rfl) ev_c (rv_I (.inr (by decide)))) (ev_var rfl) rv_I0) ea_nil)) (by show 2 ≤ 100000; decide)) fun p H5 hA => q p H5 (pl_mk (by have : 0 ≤ c * 64 := Int.mul_nonneg hc (by decide); omega) hA)
def spPN : Sp := fun vs H Q _ => ∃ (s : Addr) (n : Int) (B : Hp) (F : List MP), vs = [.ref s, .int n] ∧ At B (PlM s :: F) H ∧ 0 < n ∧ n ≤ 10 ^ 20 ∧ ∀ r H1, 0 ≤ r → r < n → At B (PlM s :: F) H1 → Q (.int r) H1
theorem wv_pn {σ : L2.St} {B : Hp} {l : List MP} {s : Addr} {tn : TE} {i : Nat} {n : Int} {E : XK} (j : Nat) (hj : l[j]? = some (PlM s)) (hs : σ[i]? = some (some (.ref s))) (hn : ∀ H1, Ev tn σ H1 (.int n)) (h0 : 0 < n) (h1 : n ≤ 10 ^ 20) : Wv (tCall spPN [] E (tCons (tVar i) (tCons tn tNil))) σ B l (rN fun r => 0 ≤ r ∧ r < n) := fun B1 H e1 hA Q q =>
  go_call (go_cons (ev_var hs) fun H1 e2 => go_cons (hn H1) fun H2 e3 => go_nil ⟨s, n, B1, l.eraseIdx j, rfl, at_pull j hj (at_ex hA (e2.trans e3)), h0, h1, fun r H3 a b hA3 => q _ B1 H3 (Ex.refl B1) (by
    have := at_put j hj hA3
    rwa [List.set_getElem?_self' hj] at this) ⟨r, rfl, a, b⟩⟩)
theorem ok_pnext {f : Addr} {fd : FuncData} (F : Fun K "_law_next" "_law_next" s__law_next f fd) (T : Glo mg) : FnOk P w K mg base CX0 1 f fd ["pool", "many"] spPN := by
  refine F.ok sc__law_next (fun vs H Q E h => ?_) (fun cdv A outer s H vs Q E hr h => ?_)
  · obtain ⟨s, n, B, F, rfl, _⟩ := h
    rfl
  · obtain ⟨s, n, B, Fr, rfl, hA, hn, hn2, q⟩ := h
    refine ⟨_, (pss_cons (ps_if (pt_cmpR op_eq (pe_ix ix_list (pv 0) pe_int (fun _ _ => rfl)) pe_int (nomark _))
  (pss_cons (ps_set (i := 2) sc__law_next.nd rfl (.inl rfl) (pe_op op_mod (pe_callTy call_int1 (by rfl) T.int (by decide +kernel) (pa_cons (pe_ix ix_list (pv 0) pe_int (fun _ _ => rfl)) pa_nil)) (pv 1)))
  (pss_cons (ps_asg (pe_op op_fdivW (pe_ix ix_list (pv 0) pe_int (fun _ _ => rfl)) (pv 1)) (pg_sub (pv 0) pe_int set_list))
  (pss_one (ps_ret (pv 2)))))
  pss_nil)
  (pss_cons (ps_asg (pe_op op_mod (pe_callTy call_int1 (by rfl) T.int (by decide +kernel) (pa_cons (pe_op op_add (pe_op op_mul (pe_ix ix_list (pv 0) pe_int (fun _ _ => rfl)) pe_int) pe_int) pa_nil)) pe_int) (pg_sub (pv 0) pe_int set_list))
  (pss_one (ps_ret (pe_op op_mod (pe_op op_mod (pe_callTy call_int1 (by rfl) T.int (by decide +kernel) (pa_cons (pe_op op_add (pe_op op_fdiv (pe_ix ix_list (pv 0) pe_int (fun _ _ => rfl)) pe_int) (pe_op op_mul (pe_ix ix_list (pv 0) pe_int (fun _ _ => rfl)) pe_int)) pa_nil)) pe_int) (pv 1)))))), ?_⟩
    obtain ⟨a, b, hb0, hA⟩ := pl_open hA
    have hS := sq_of (K := K) (at_get 0 rfl hA)
    refine' qe_when (b := decide (a = 1)) hA ?c (fun hb H2 hA => ?_) (fun hb H2 hA => ?_)
    case c => exact et_test (ev_op (by walk_at "ev") ev_c rv_eqI)
    · have hS := sq_of (K := K) (at_get 0 rfl hA)
      have cw : CDivW b n := wide_div hn (b := 100) (by omega) (by decide) (by decide)
      refine' qe_asg hA ?c (fun H3 hA => ?_)
      case c => walk_at "ev"
      have hS := sq_of (K := K) (at_get 0 rfl hA)
      refine' qe_set (i := 1) (m := 1) 0 rfl hA ?c (fun H1 => ev_var rfl) (fun H1 => ev_c) rfl (fun H4 hA => ?_)
      case c => exact ev_op (by walk_at "ev") (ev_var rfl) (rv_I cw)
      exact se_ret hA (ev_var rfl) fun H5 hA => q _ H5 (Int.emod_nonneg _ (by omega)) (Int.emod_lt_of_pos _ hn) (pl_mk (Int.ediv_nonneg hb0 (by omega)) hA)
    · have hS := sq_of (K := K) (at_get 0 rfl hA)
      have m0 : (0 : Int) ≤ (b * 48271 + 12345) % 2147483647 := Int.emod_nonneg _ (by decide)
      refine' qe_set (i := 1) (m := 1) 0 rfl hA ?c (fun H1 => ev_var rfl) (fun H1 => ev_c) rfl (fun H4 hA => ?_)
      case c => walk_at "ev"
      have hS := sq_of (K := K) (at_get 0 rfl hA)
      refine' se_ret hA ?c (fun H5 hA => ?_)
      case c => exact ev_op (by walk_at "ev") (ev_var rfl) (rv_I hn)
      exact q _ H5 (Int.emod_nonneg _ (by omega)) (Int.emod_lt_of_pos _ hn) (pl_mk m0 hA)
def CH : Str := Str.ofString " !\"#$&'()*+,-./0123456789:;<=>?@ABCDEFGHIJKLMNOPQRSTUVWXYZ[\\]^_`" ++ Str.ofString "abcdefghijklmnopqrstuvwxyz{|}~"
theorem CH_len : CH.cps.toList.length = 94 := by decide +kernel
theorem CH_ok : CH.cps.toList.all chOk = true := by decide +kernel
def spChr : Sp := fun vs H Q _ => ∃ r : Int, vs = [.int r] ∧ 0 ≤ r ∧ r < 94 ∧ ∀ v H1, Ex H H1 → isCh v → Q v H1
theorem ok_char {f : Addr} {fd : FuncData} (F : Fun K "_law_char" "_law_char" s__law_char f fd) (T : Glo mg) : FnOk P w K mg base CX0 1 f fd ["draw"] spChr := by
  refine F.ok sc__law_char (fun vs H Q E h => ?_) (fun cdv A outer s H vs Q E hr h => ?_)
  · obtain ⟨r, rfl, _⟩ := h
    rfl
  · obtain ⟨r, rfl, h0, h1, q⟩ := h
    refine ⟨_, (pss_cons (ps_set (i := 1) sc__law_char.nd rfl (.inl rfl) pe_str)
  (pss_one (ps_ret (pe_ix ix_str (pe_op op_add_str (pv 1) pe_str) (pv 0) (fun _ _ => rfl))))), ?_⟩
    obtain ⟨k, rfl⟩ : ∃ k : Nat, r = (k : Int) := ⟨r.toNat, by omega⟩
    have hk : k < CH.cps.toList.length := by rw [CH_len]; omega
    have e := List.getElem?_eq_getElem hk
    refine q_asg ev_c fun H1 e1 => ?_
    refine s_ret (v := .str ⟨#[CH.cps.toList[k]]⟩) (ev_op (x := .str CH) (ev_op (ev_var rfl) ev_c (fun H2 e2 Q q => ⟨_, _, rfl, rfl, by decide +kernel, q H2 (Ex.refl H2)⟩)) (ev_var rfl) (rv_ixS (by
      have hl : CH.length = CH.cps.toList.length := Array.length_toList.symm
      rw [hl, CH_len]
      decide) (atI_nat e))) fun H2 e2 => q _ H2 (e1.trans e2) ⟨_, rfl, List.all_eq_true.mp CH_ok _ (List.getElem_mem hk)⟩
theorem wv_char {σ : L2.St} {B : Hp} {l : List MP} {s : Addr} {E E2 : XK} {i : Nat} (j : Nat) (hj : l[j]? = some (PlM s)) (hs : σ[i]? = some (some (.ref s))) : Wv (tCall spChr [] E (tCons (tCall spPN [] E2 (tCons (tVar i) (tCons (tC (.int 94)) tNil))) tNil)) σ B l (rP isCh) := fun B1 H e1 hA Q q =>
  go_call (go_cons' (wv_pn j hj hs (fun H => ev_c) (by decide) (by decide) B1 H e1 hA _ fun v B2 H2 b2 hA2 ⟨r, hv, hr⟩ => by
    subst hv
    exact go_nil ⟨r, rfl, hr.1, hr.2, fun v H3 e3 hc => q v B2 H3 b2 (at_ex hA2 e3) hc⟩))

/-! ### texts: repeated, cut -/
theorem foldl_cat (a : Array Nat) : ∀ (m : Nat) (acc : Array Nat), ((List.replicate m a).foldl (· ++ ·) acc).toList = acc.toList ++ (List.replicate m a.toList).flatten
  | 0, acc => by simp
  | m + 1, acc => by
    rw [List.replicate_succ, List.foldl_cons, foldl_cat a m, List.replicate_succ, List.flatten_cons, Array.toList_append, List.append_assoc]
theorem mul_list (z : Str) (n : Nat) (h : 1 ≤ n) : (Txt.mul z (n : Int)).cps.toList = (List.replicate n z.cps.toList).flatten := by
  unfold Txt.mul
  rw [if_neg (by omega)]
  split
  · rename_i hc
    rcases Bool.or_eq_true_iff.mp hc with h1 | h1
    · have h1 : n = 1 := by
        have := eq_of_beq h1
        omega
      subst h1
      simp
    · have h1 : z.cps.size = 0 := eq_of_beq h1
      have h2 : z.cps.toList = [] := List.length_eq_zero_iff.mp (by rw [Array.length_toList]; exact h1)
      rw [h2]
      clear hc h1 h2 h
      induction n with
      | zero => rfl
      | succ n ih => rw [List.replicate_succ, List.flatten_cons, ← ih]; rfl
  · rw [foldl_cat]
    simp
theorem mul_ok {z : Str} {n : Nat} (hz : z.length ≤ 1000) (h0 : 1 ≤ n) (h1 : n ≤ 1000) : MulOk z (n : Int) := by
  refine ⟨?_, fun a b => ?_, fun a b => ?_⟩
  · rw [decide_eq_false (by omega), decide_eq_false (by omega)]
    rfl
  · show ¬ (((z.length : Nat) : Int) > (2 ^ 63 - 1) / (n : Int))
    have : (1000 : Int) ≤ (2 ^ 63 - 1) / (n : Int) := by
      refine (Int.le_ediv_iff_mul_le (by omega)).mpr ?_
      omega
    omega
  · show Builtin.Str.tooLong (z.length * (n : Int).toNat) = false
    unfold Builtin.Str.tooLong
    refine decide_eq_false ?_
    have h2 : z.length * (n : Int).toNat ≤ 1000 * 1000 := Nat.mul_le_mul hz (by omega)
    have h : (1000 * 1000 : Nat) ≤ sizeLine := by decide
    omega
theorem cut_list (z : Str) (n : Nat) : (cutS z none (some (n : Int))).cps.toList = z.cps.toList.take n := by
  unfold cutS
  rw [HT.sIx_none, HT.sIx_nat]
  have hl : z.length = z.cps.toList.length := Array.length_toList.symm
  show (List.take (min n z.length - 0) (List.drop 0 z.cps.toList)) = _
  rw [Nat.sub_zero, List.drop_zero, hl]
  exact List.take_eq_take_iff.mpr (by omega)
theorem all_flat {cs : List Nat} (h : allC cs = true) : ∀ n, allC (List.replicate n cs).flatten = true
  | 0 => rfl
  | n + 1 => by
    rw [List.replicate_succ, List.flatten_cons]
    exact allC_app h (all_flat h n)
theorem all_take {cs : List Nat} (h : allC cs = true) (n : Nat) : allC (cs.take n) = true := List.all_eq_true.mpr fun x hx => List.all_eq_true.mp h x (List.mem_of_mem_take hx)
theorem len_flat (cs : List Nat) : ∀ n, ((List.replicate n cs).flatten).length = n * cs.length
  | 0 => by simp
  | n + 1 => by
    rw [List.replicate_succ, List.flatten_cons, List.length_append, len_flat cs n, Nat.add_mul, Nat.one_mul, Nat.add_comm]
theorem s_eta (z : Str) : z = ⟨z.cps.toList.toArray⟩ := by
  cases z
  simp
theorem re_sl {r : V → Option Int → Option Int → Hp → VK → Prop} {te : TE} {tl th : TO} {D : Ends} {σ : L2.St} {H : Hp} (h : te σ H fun x H1 => tl σ H1 fun l H2 => th σ H2 fun u H3 => r x l u H3 D.rt) : tRet (tSl r te tl th) D σ H := h
def spSome : Sp := fun vs H Q _ => ∃ (s : Addr) (m : Nat) (B : Hp) (F : List MP), vs = [.ref s, .int (m : Int)] ∧ At B (PlM s :: F) H ∧ 8 ≤ m ∧ m ≤ 200 ∧ ∀ z B1 H1, Ex B B1 → allC z.cps.toList = true → z.length ≤ m → At B1 (PlM s :: F) H1 → Q (.str z) H1
theorem ok_some {f f_n f_c : Addr} {fd fd_n fd_c : FuncData} (F : Fun K "_law_some_text" "_law_some_text" s__law_some_text f fd) (D__law_next : Df K mg "_law_next" s__law_next ["pool", "many"] f_n fd_n) (G__law_next : FnOk P w K mg base CX0 1 f_n fd_n ["pool", "many"] spPN) (D__law_char : Df K mg "_law_char" s__law_char ["draw"] f_c fd_c) (G__law_char : FnOk P w K mg base CX0 1 f_c fd_c ["draw"] spChr) (T : Glo mg) : FnOk P w K mg base CX0 2 f fd ["pool", "most"] spSome := by
  refine F.ok sc__law_some_text (fun vs H Q E h => ?_) (fun cdv A outer s H vs Q E hr h => ?_)
  · obtain ⟨s, m, B, F, rfl, _⟩ := h
    rfl
  · obtain ⟨s, m, B, Fr, rfl, hA, hm8, hm, q⟩ := h
    refine ⟨_, (pss_cons (ps_set (i := 2) sc__law_some_text.nd rfl (.inl rfl) (pe_call G__law_next (hr.mono (by decide)) (by rfl) D__law_next.g D__law_next.F.kp D__law_next.b .nil pass0 (pa_cons (pv 0) (pa_cons pe_int pa_nil))))
  (pss_cut (ps_if (pt_cmpR op_eq (pe_call G__law_next (hr.mono (by decide)) (by rfl) D__law_next.g D__law_next.F.kp D__law_next.b .nil pass0 (pa_cons (pv 0) (pa_cons pe_int pa_nil))) pe_int (nomark _))
  (pss_one (ps_set (i := 2) sc__law_some_text.nd rfl (.inl rfl) (pe_ix ix_list (pe_lst (pa_cons (pv 1) (pa_cons (pe_op op_sub (pv 1) pe_int) (pa_cons (pe_call G__law_next (hr.mono (by decide)) (by rfl) D__law_next.g D__law_next.F.kp D__law_next.b .nil pass0 (pa_cons (pv 0) (pa_cons (pe_op op_add (pv 1) pe_int) pa_nil))) pa_nil)))) (pe_call G__law_next (hr.mono (by decide)) (by rfl) D__law_next.g D__law_next.F.kp D__law_next.b .nil pass0 (pa_cons (pv 0) (pa_cons pe_int pa_nil))) (fun _ _ => rfl))))
  pss_nil)
  (pss_cons (ps_set (i := 3) sc__law_some_text.nd rfl (.inl rfl) (pe_join pe_str (pe_lc (own := [("k", 4)]) (g := gName 4) rfl sc__law_some_text.nd (pi_range1 (by rfl) T.range (pa_cons pe_int pa_nil)) (blkOk_by (N := N__law_some_text) (sc := defScope s__law_some_text) (by decide +kernel)) (fun _ _ _ _ _ => (pg_name (i := 4) sc__law_some_text.nd rfl (.inl rfl))) (fun _ _ _ _ _ => pts_nil) (fun _ _ _ _ _ => (pe_call G__law_char (hr.mono (by decide)) (by rfl) D__law_char.g D__law_char.F.kp D__law_char.b .nil pass0 (pa_cons (pe_call G__law_next (hr.mono (by decide)) (by rfl) D__law_next.g D__law_next.F.kp D__law_next.b .nil pass0 (pa_cons (pv 0) (pa_cons pe_int pa_nil))) pa_nil))))))
  (pss_one (ps_ret (pe_slice sl_str (pe_op op_mulS (pv 3) pe_int) po_none (po_some (pv 2)))))))), ?_⟩
    refine qw_asg hA (wv_pn 0 rfl rfl (fun H => ev_c) (by decide) (by decide)) fun v B1 H1 b1 hA ⟨n0, hv, hn0⟩ => ?_
    subst hv
    refine q_cut (M := fun σ' H' => ∃ (n : Nat) (B2 : Hp), σ' = [some (.ref s), some (.int (m : Int)), some (.int (n : Int)), none, none] ∧ n ≤ m ∧ Ex B B2 ∧ At B2 (PlM s :: Fr) H') ?_ (fun σ' H2 p => ?_)
    · obtain ⟨k0, rfl⟩ : ∃ k : Nat, n0 = (k : Int) := ⟨n0.toNat, by have := hn0.1; omega⟩
      refine sw_ifEq hA (wv_pn 0 rfl rfl (fun H => ev_c) (by decide) (by decide)) (fun B2 H2 b2 hA => ?_) (fun B2 H2 b2 hA => ⟨k0, B2, rfl, by have := hn0.2; omega, b1.trans b2, hA⟩)
      refine s_do (go_op (go_lst (go_cons (ev_var rfl) fun H3 e3 => go_cons (ev_op (ev_var rfl) ev_c rv_I0) fun H4 e4 => go_cons' (wv_pn (n := (m : Int) + 1) 0 rfl rfl (fun H => ev_op (ev_var rfl) ev_c rv_I0) (by omega) (by omega) B2 H4 (Ex.refl B2) (at_ex hA (e3.trans e4)) _ fun v B5 H5 b5 hA ⟨r, hv, hr⟩ => go_nil ⟨by show 3 ≤ sizeLine; decide, fun p hp => ?_⟩))))
      subst hv
      have hA := at_new (o := .lst [.int (m : Int), .int ((m : Int) - 1), .int r]) hA hp (Ex.new hp) upd_same
      refine wv_pn 1 rfl rfl (fun H => ev_c) (by decide) (by decide) B5 _ (Ex.refl B5) hA _ fun v B6 H6 b6 hA ⟨j, hv, hj⟩ => ?_
      subst hv
      have hq := sq_of (K := K) (at_get 0 rfl hA)
      have hj3 : j = 0 ∨ j = 1 ∨ j = 2 := by have := hj.1; have := hj.2; omega
      have bb := b1.trans (b2.trans (b5.trans b6))
      rcases hj3 with rfl | rfl | rfl
      · exact ⟨p, _, 0, .int (m : Int), rfl, rfl, hq, rfl, m, B6, rfl, by omega, bb, at_drop hA⟩
      · exact ⟨p, _, 1, .int ((m : Int) - 1), rfl, rfl, hq, rfl, m - 1, B6, by rw [show (m : Int) - 1 = ((m - 1 : Nat) : Int) by omega]; rfl, by omega, bb, at_drop hA⟩
      · obtain ⟨r', rfl⟩ : ∃ k : Nat, r = (k : Int) := ⟨r.toNat, by have := hr.1; omega⟩
        exact ⟨p, _, 2, .int (r' : Int), rfl, rfl, hq, rfl, r', B6, rfl, by have := hr.2; omega, bb, at_drop hA⟩
    · obtain ⟨n, B2, rfl, hnm, b2, hA⟩ := p
      refine q_do (go_m1 ev_c fun H3 e3 => ?_)
      refine wl_lcR1P (m := 7) (ψ := isCh) (φ := fun r => r = 7) (fun n hn => by omega) (by decide) (wv_i (m := 7) fun H => ev_c) (fun _ => rfl) (fun i H => et_nil) (fun i p acc => wv_char 1 rfl rfl) B2 H3 (Ex.refl B2) (at_ex hA e3) _ fun p xs B4 H4 b4 hA4 hx hl => ?_
      obtain ⟨cs, rfl, hc, hcl⟩ := chs_of hx
      refine ⟨_, p, cs.map fun c => (⟨#[c]⟩ : Str), rfl, rfl, .inl (sq_of (at_get 0 rfl hA4)), ?_, ?_⟩
      · rw [ch_len, List.length_map]
        show cs.length + cs.length * 0 ≤ _
        omega
      have ej : Txt.join (Str.ofString "") (cs.map fun c => (⟨#[c]⟩ : Str)) = ⟨cs.toArray⟩ := jn1 cs
      rw [ej]
      have hA4 := at_drop hA4
      have hl4 : cs.length ≤ 7 := by omega
      have hz1 : (⟨cs.toArray⟩ : Str).length = cs.length := List.size_toArray
      have hml : (Txt.mul ⟨cs.toArray⟩ (30 : Int)).cps.toList = (List.replicate 30 cs).flatten := mul_list ⟨cs.toArray⟩ 30 (by decide)
      have hml2 : (Txt.mul ⟨cs.toArray⟩ (30 : Int)).length = 30 * cs.length := by
        show (Txt.mul ⟨cs.toArray⟩ (30 : Int)).cps.size = _
        rw [← Array.length_toList, hml, len_flat]
      refine re_sl (go_op (go_ev (ev_var rfl) fun H4' e4 => go_ev ev_c fun H5 e5' => ⟨_, _, rfl, rfl, mul_ok (n := 30) (by omega) (by decide) (by decide), ?_⟩))
      have e5 := e4.trans e5'
      refine eo_none H5 (Ex.refl H5) _ fun H6 e6 => eo_some (ev_var rfl) H6 (Ex.refl H6) _ fun H7 e7 => ⟨_, rfl, by rw [hml2]; exact sz_of (by omega), ?_⟩
      have hcl2 := cut_list (Txt.mul ⟨cs.toArray⟩ (30 : Int)) n
      refine q _ B4 H7 (b2.trans b4) ?_ ?_ (at_ex hA4 ((e5.trans e6).trans e7))
      · rw [hcl2, hml]
        exact all_take (all_flat hc 30) n
      · show (cutS _ none (some (n : Int))).cps.size ≤ m
        rw [← Array.length_toList, hcl2, List.length_take]
        omega

/-! ### good things and bad ones -/
theorem go_sl {r : V → Option Int → Option Int → Hp → VK → Prop} {te : TE} {tl th : TO} {Q : VK} {σ : L2.St} {H : Hp} (h : te σ H fun x H1 => tl σ H1 fun l H2 => th σ H2 fun u H3 => r x l u H3 Q) : tSl r te tl th σ H Q := h
theorem go_part {te : TE} {σ : L2.St} {H : Hp} {Q : Option Int → Hp → Prop} (h : te σ H fun x H' => ∃ i, x = .int i ∧ Q (some i) H') : tPart te σ H Q := h
theorem wv_ixLW {tt : TA} {tb : TE} {σ : L2.St} {B : Hp} {l : List MP} {φ χ : Int → Prop} {ns : List Int} (ht : ∀ H1, EvA tt σ H1 (ns.map V.int)) (hz : ns.length ≤ 100000) (hb : ∀ p, Wv tb σ B (Pt p (.lst (ns.map V.int)) :: l) (rN φ)) (hr : ∀ j, φ j → ∃ k, atI ns j = some k ∧ χ k) : Wv (tOp (rIxL K) (tLst tt) tb) σ B l (rN χ) := fun B1 H1 e1 hA Q q =>
  go_op (go_lst (ht H1 H1 (Ex.refl H1) _ fun H2 e2 => ⟨by rw [List.length_map]; exact sz_of hz, fun p hp => hb p B1 _ e1 (at_new (at_ex hA e2) hp (Ex.new hp) upd_same) _ fun v B3 H3 e3 hA3 ⟨j, hv, hj⟩ => by
    subst hv
    obtain ⟨k, hk, hχ⟩ := hr j hj
    obtain ⟨m, hm, hx⟩ := atI_len (xs := ns.map V.int) (ys := ns) (List.length_map _) hk
    exact ⟨p, _, j, .int k, rfl, rfl, sq_of (at_get 0 rfl hA3), hx _ (by rw [List.getElem?_map, hm]; rfl), q _ B3 H3 e3 (at_drop hA3) ⟨k, rfl, hχ⟩⟩⟩))
def rXs (K : PySem.W.Frag) (ds : List PyData) : Rr := ⟨fun v B => ∃ d ∈ ds, Dx K B v d, fun e ⟨d, hd, h⟩ => ⟨d, hd, dx_mono e _ _ h⟩⟩
theorem wv_ixLX {tt : TA} {tb : TE} {σ : L2.St} {B : Hp} {l : List MP} {ds : List PyData} {φ : Int → Prop} (hz : ds.length ≤ 100000) (ht : ∀ B1, Ex B B1 → EvXs K tt σ B1 ds) (hb : Wv tb σ B l (rN φ)) (hr : ∀ j, φ j → 0 ≤ j ∧ j < (ds.length : Int)) : Wv (tOp (rIxL K) (tLst tt) tb) σ B l (rXs K ds) := fun B1 H1 e1 hA Q q =>
  go_op ((ex_new (exn_lst (ht B1 e1) hz)) H1 (at_base hA) _ fun v H2 e2 hv => by
    have hA2 := at_grow hA e2
    have bb : Ex B1 (ov B1 H1 H2) := ov_base
    generalize ov B1 H1 H2 = B2 at hA2 hv bb
    cases hv with
    | @lst a xs _ hs hd =>
      exact hb B2 H2 (e1.trans bb) hA2 _ fun w B3 H3 e3 hA3 ⟨j, hw, hj⟩ => by
        subst hw
        obtain ⟨h0, h1⟩ := hr j hj
        obtain ⟨k, rfl⟩ : ∃ k : Nat, j = (k : Int) := ⟨j.toNat, by omega⟩
        have hk : k < ds.length := by omega
        obtain ⟨x, hx, hxd⟩ := dxa_at hd (List.getElem?_eq_getElem hk)
        exact ⟨a, xs, (k : Int), x, rfl, rfl, ex_l (e3.trans (at_base hA3)) hs, atI_nat hx, q x B3 H3 (bb.trans e3) hA3 ⟨_, List.getElem_mem hk, dx_mono e3 _ _ hxd⟩⟩)
theorem ex_dnew {σ : L2.St} {H : Hp} : EvX K tDNewK σ H (.dict []) := fun H1 e Q q p hp => q _ _ (Ex.new hp) (.dic (ov_new e (Ex.refl H1) hp))
theorem ex_disp1 {σ : L2.St} {H : Hp} {z : Str} {i : Int} : EvX K (tDisp [(tC (.str z), tC (.int i))]) σ H (.dict []) := fun H1 e Q q p hp => by
  have e1 : ∀ o u : HO, upd (upd H1 p o) p u = upd H1 p u := fun o u => by
    funext b
    by_cases h : b = p
    · rw [h, upd_same, upd_same]
    · rw [upd_ne h, upd_ne h, upd_ne h]
  refine ⟨upd_same, [(Sum.inr z, .int i)], rfl, by show 1 ≤ 15; decide, ?_⟩
  rw [e1]
  exact q _ _ (Ex.new hp) (.dic (ov_new e (Ex.refl H1) hp))
theorem p18 {σ : L2.St} {H : Hp} : Ev (tOp (rI CPow fun i j => .int (i ^ j.toNat)) (tC (.int 10)) (tC (.int 18))) σ H (.int 1000000000000000000) := by
  refine' ev_is ?c ?d
  case c => walk_at "ev"
  case d => rfl
theorem p20 {σ : L2.St} {H : Hp} : Ev (tOp (rI CPow fun i j => .int (i ^ j.toNat)) (tC (.int 10)) (tC (.int 20))) σ H (.int 100000000000000000000) := by
  refine' ev_is ?c ?d
  case c => walk_at "ev"
  case d => rfl
theorem isI_iff {i : Int} (h0 : -1000000000000000000 ≤ i) (h1 : i ≤ 1000000000000000000) : isI (.int i) = true := by
  show (decide (-(10 ^ 18) ≤ i) && decide (i ≤ 10 ^ 18)) = true
  rw [decide_eq_true (by omega), decide_eq_true (by omega)]
  rfl
theorem isV_out {i : Int} (h : i < -1000000000000000000 ∨ 1000000000000000000 < i) : isV (.int i) = false := by
  show ((decide (-(10 ^ 18) ≤ i) && decide (i ≤ 10 ^ 18)) || false) = false
  rcases h with h | h
  · rw [decide_eq_false (by omega)]; rfl
  · rw [show decide (i ≤ 10 ^ 18) = false from decide_eq_false (by omega), Bool.and_false]; rfl
def spGood (K : PySem.W.Frag) : Sp := fun vs H Q _ => ∃ (s : Addr) (B : Hp) (F : List MP), vs = [.ref s] ∧ At B (PlM s :: F) H ∧ ∀ v d B1 H1, Ex B B1 → Dp K B1 v d → isP d = true → At B1 (PlM s :: F) H1 → Q v H1
theorem ok_good {f f_n f_t : Addr} {fd fd_n fd_t : FuncData} (F : Fun K "_law_good" "_law_good" s__law_good f fd) (D__law_next : Df K mg "_law_next" s__law_next ["pool", "many"] f_n fd_n) (G__law_next : FnOk P w K mg base CX0 1 f_n fd_n ["pool", "many"] spPN) (D__law_some_text : Df K mg "_law_some_text" s__law_some_text ["pool", "most"] f_t fd_t) (G__law_some_text : FnOk P w K mg base CX0 2 f_t fd_t ["pool", "most"] spSome) (T : Glo mg) : FnOk P w K mg base CX0 3 f fd ["pool"] (spGood K) := by
  refine F.ok sc__law_good (fun vs H Q E h => ?_) (fun cdv A outer s H vs Q E hr h => ?_)
  · obtain ⟨s, B, F, rfl, _⟩ := h
    rfl
  · obtain ⟨s, B, Fr, rfl, hA, q⟩ := h
    refine ⟨_, (pss_cons (ps_set (i := 1) sc__law_good.nd rfl (.inl rfl) (pe_call G__law_next (hr.mono (by decide)) (by rfl) D__law_next.g D__law_next.F.kp D__law_next.b .nil pass0 (pa_cons (pv 0) (pa_cons pe_int pa_nil))))
  (pss_cons (ps_if (pt_cmpR op_eq (pv 1) pe_int (nomark _))
  (pss_one (ps_ret (pe_op op_sub (pe_call G__law_next (hr.mono (by decide)) (by rfl) D__law_next.g D__law_next.F.kp D__law_next.b .nil pass0 (pa_cons (pv 0) (pa_cons pe_int pa_nil))) pe_int)))
  pss_nil)
  (pss_cons (ps_if (pt_cmpR op_eq (pv 1) pe_int (nomark _))
  (pss_one (ps_ret (pe_ix ix_list (pe_lst (pa_cons (pe_op op_pow pe_int pe_int) (pa_cons (pe_un un_neg (pe_op op_pow pe_int pe_int)) (pa_cons (pe_op op_sub (pe_op op_pow pe_int pe_int) pe_int) (pa_cons (pe_op op_sub pe_int (pe_op op_pow pe_int pe_int)) pa_nil))))) (pe_call G__law_next (hr.mono (by decide)) (by rfl) D__law_next.g D__law_next.F.kp D__law_next.b .nil pass0 (pa_cons (pv 0) (pa_cons pe_int pa_nil))) (fun _ _ => rfl))))
  pss_nil)
  (pss_cons (ps_if (pt_cmpR op_eq (pv 1) pe_int (nomark _))
  (pss_one (ps_ret (pe_op op_sub (pe_call G__law_next (hr.mono (by decide)) (by rfl) D__law_next.g D__law_next.F.kp D__law_next.b .nil pass0 (pa_cons (pv 0) (pa_cons (pe_op op_add (pe_op op_mul pe_int (pe_op op_pow pe_int pe_int)) pe_int) pa_nil))) (pe_op op_pow pe_int pe_int))))
  pss_nil)
  (pss_one (ps_ret (pe_call G__law_some_text (hr.mono (by decide)) (by rfl) D__law_some_text.g D__law_some_text.F.kp D__law_some_text.b .nil pass0 (pa_cons (pv 0) (pa_cons pe_int pa_nil))))))))), ?_⟩
    have isp : ∀ {i : Int}, isI (.int i) = true → isP (.int i) = true := fun {i} h => by
      show (isI (.int i) || isT (.int i)) = true
      rw [h]
      rfl
    refine qw_asg hA (wv_pn 0 rfl rfl (fun H => ev_c) (by decide) (by decide)) fun v B1 H1 b1 hA ⟨ch, hv, hch⟩ => ?_
    subst hv
    refine qe_when (b := decide (ch = 0)) hA (et_test (ev_op (ev_var rfl) ev_c rv_eqI)) (fun _ H2 hA => ?_) (fun _ H2 hA => ?_)
    · exact sw_ret hA (wv_subW (χ := fun i => isI (.int i) = true) (wv_pn 0 rfl rfl (fun H => ev_c) (by decide) (by decide)) (wv_i (m := 2) fun H => ev_c) fun i j hi hj => by
        have hj : j = 2 := hj
        exact isI_iff (by have := hi.1; omega) (by have := hi.2; omega)) fun v B3 H3 b3 hA ⟨i, hv, hi⟩ => by
          subst hv
          exact q _ _ B3 H3 (b1.trans b3) (.int i) (isp hi) hA
    refine qe_when (b := decide (ch = 1)) hA (et_test (ev_op (ev_var rfl) ev_c rv_eqI)) (fun _ H3 hA => ?_) (fun _ H3 hA => ?_)
    · exact sw_ret hA (wv_ixLW (K := K) (ns := [1000000000000000000, -1000000000000000000, 999999999999999999, -999999999999999999]) (χ := fun i => isI (.int i) = true) (fun H => ea_cons p18 (ea_cons (ev_un p18 ru_neg) (ea_cons (ev_op p18 ev_c rv_I0) (ea_cons (ev_op ev_c p18 rv_I0) ea_nil)))) (by decide) (fun p => wv_pn 1 rfl rfl (fun H => ev_c) (by decide) (by decide)) fun j hj => by
        have hj : j = 0 ∨ j = 1 ∨ j = 2 ∨ j = 3 := by have := hj.1; have := hj.2; omega
        rcases hj with rfl | rfl | rfl | rfl
        · exact ⟨_, rfl, by decide⟩
        · exact ⟨_, rfl, by decide⟩
        · exact ⟨_, rfl, by decide⟩
        · exact ⟨_, rfl, by decide⟩) fun v B3 H3 b3 hA ⟨i, hv, hi⟩ => by
          subst hv
          exact q _ _ B3 H3 (b1.trans b3) (.int i) (isp hi) hA
    refine qe_when (b := decide (ch = 2)) hA (et_test (ev_op (ev_var rfl) ev_c rv_eqI)) (fun _ H4 hA => ?_) (fun _ H4 hA => ?_)
    · exact sw_ret hA (wv_subW (χ := fun i => isI (.int i) = true) (wv_pn (n := 2000000000000000001) 0 rfl rfl (fun H => ev_op (ev_op ev_c p18 (rv_I (.inl (by decide)))) ev_c rv_I0) (by decide) (by decide)) (wv_i (m := 1000000000000000000) fun H => p18) fun i j hi hj => by
        have hj : j = 1000000000000000000 := hj
        exact isI_iff (by have := hi.1; omega) (by have := hi.2; omega)) fun v B3 H3 b3 hA ⟨i, hv, hi⟩ => by
          subst hv
          exact q _ _ B3 H3 (b1.trans b3) (.int i) (isp hi) hA
    refine go_call (go_cons (ev_var rfl) fun H5 e5 => go_cons ev_c fun H6 e6 => go_nil ⟨s, 200, B1, _, rfl, at_ex hA (e5.trans e6), by decide, by decide, fun z B3 H7 b3 hz hl hA => q _ (.str z) B3 H7 (b1.trans b3) (.str z) ?_ hA⟩)
    have ht : isT (.str z) = true := by
      show (decide (z.length ≤ 200) && z.cps.toList.all chOk) = true
      rw [decide_eq_true hl]
      exact hz
    show (isI (.str z) || isT (.str z)) = true
    rw [ht]
    exact Bool.or_true _

/-! ### the program's predicates of values -/
def spB (K : PySem.W.Frag) (n : Nat) (g : PyData → Bool) : Sp := fun vs H Q _ => ∃ (v : V) (d : PyData), vs = [v] ∧ Dx K H v d ∧ Okd n d ∧ RetV (.bl (g d)) H Q
theorem spB_v {H : Hp} {n : Nat} {g : PyData → Bool} {v : V} {d : PyData} (h : Dx K H v d) (ok : Okd n d) : SpV (spB K n g) [v] H (.bl (g d)) := fun H1 e Q q _ => ⟨v, d, rfl, dx_mono e _ _ h, ok, fun H2 e2 => q H2 e2⟩
theorem isI_not {d : PyData} (h : (!isInt d || isBoo d) = true) : isI d = false := by
  cases d <;> simp_all [isInt, isBoo, isI]
theorem int_of {d : PyData} (h : (!isInt d || isBoo d) = false) : ∃ i, d = .int i := by
  cases d <;> simp_all [isInt, isBoo]
theorem isT_not {d : PyData} (h : isStr d = false) : isT d = false := by
  cases d <;> simp_all [isStr, isT]
theorem str_of {d : PyData} (h : isStr d = true) : ∃ x, d = .str x := by
  cases d <;> simp_all [isStr]
theorem tup_of {d : PyData} (h : isTup d = true) : ∃ ds, d = .tuple ds := by
  cases d <;> simp_all [isTup]
theorem isV_not {d : PyData} (h : isTup d = false) : isV d = isP d := by
  cases d <;> simp_all [isTup, isV]
theorem ok_is_integer {n : Nat} {tN : Tok} {f : Addr} {fd : FuncData} (F : Fun K "is_integer" "is_integer" s_is_integer f fd) (c_NUMBER_MOST : mg "NUMBER_MOST" = some (.int (10 ^ 18) tN)) (T : Glo mg) : FnOk P w K mg base CX0 1 f fd ["thing"] (spB K n isI) := by
  refine F.ok sc_is_integer (fun vs H Q E h => ?_) (fun cdv A outer s H vs Q E hr h => ?_)
  · obtain ⟨v, d, rfl, _⟩ := h
    rfl
  · obtain ⟨v, d, rfl, hd, ok, q⟩ := h
    refine ⟨_, (pss_cons (ps_if (PW.pt (pw_or (pt_not (pt_val (pe_callB call_isi (by rfl) T.isinstance (by decide +kernel) (pa_cons (pv 0) (pa_cons (pe_bltn (v := .ty "int") (u := .type "int") (by rfl) T.int (by decide +kernel) rfl) pa_nil))))) (pw_or1 (pt_val (pe_callB call_isi (by rfl) T.isinstance (by decide +kernel) (pa_cons (pv 0) (pa_cons (pe_bltn (v := .ty "bool") (u := .type "bool") (by rfl) T.bool (by decide +kernel) rfl) pa_nil)))))))
  (pss_one (ps_ret pe_bl))
  pss_nil)
  (pss_one (ps_ret (pe_chain op_le op_le (pe_un un_neg (pe_glob (v := .int (10 ^ 18)) rfl c_NUMBER_MOST ⟨_, rfl⟩)) (pv 0) (pe_glob (v := .int (10 ^ 18)) rfl c_NUMBER_MOST ⟨_, rfl⟩))))), ?_⟩
    refine' q_when (b := !isInt d || isBoo d) (et_or (a := !isInt d) (b := isBoo d) (et_not (et_B (ev_isiX (K := K) (ex_var rfl hd) (kit_int d)))) (fun _ => et_B (ev_isiX (K := K) (ex_var rfl hd) (kit_bool d)))) (fun hb H1 e1 => ?_) (fun hb H1 e1 => ?_)
    · rw [isI_not hb] at q
      exact s_ret ev_c (fun H2 e2 => q H2 (e1.trans e2))
    · obtain ⟨i, rfl⟩ := int_of hb
      cases hd
      exact s_ret (ev_chain (ev_un ev_c ru_neg) (ev_var rfl) rv_I0 ev_c rv_I0) (fun H2 e2 => q H2 (e1.trans e2))
theorem ok_is_number {n : Nat} {tN : Tok} {f f_i : Addr} {fd fd_i : FuncData} (F : Fun K "is_number" "is_number" s_is_number f fd) (D_is_integer : Df K mg "is_integer" s_is_integer ["thing"] f_i fd_i) (c_NUMBER_MOST : mg "NUMBER_MOST" = some (.int (10 ^ 18) tN)) (T : Glo mg) : FnOk P w K mg base CX0 2 f fd ["thing"] (spB K n isN) := by
  have G_is_integer : FnOk P w K mg base CX0 1 f_i fd_i _ _ := ok_is_integer (n := n) D_is_integer.F c_NUMBER_MOST T
  refine F.ok sc_is_number (fun vs H Q E h => ?_) (fun cdv A outer s H vs Q E hr h => ?_)
  · obtain ⟨v, d, rfl, _⟩ := h
    rfl
  · obtain ⟨v, d, rfl, hd, ok, q⟩ := h
    refine ⟨_, (pss_one (ps_ret (pe_and (pe_call G_is_integer (hr.mono (by decide)) (by rfl) D_is_integer.g D_is_integer.F.kp D_is_integer.b .nil pass0 (pa_cons (pv 0) pa_nil)) (pe_one (pe_cmpR op_ge (pv 0) pe_int (nomark _)))))), ?_⟩
    refine s_ret (ev_andV (a := isI d) (ev_call (ea_cons (ev_var rfl) ea_nil) (spB_v hd ok)) (fun h => ?_)) q
    cases hd with
    | int i => exact ev_op (ev_var rfl) ev_c rv_I0
    | _ => exact absurd h (by simp [isI])
def spCh : Sp := fun vs H Q _ => ∃ c : Nat, vs = [.int (c : Int)] ∧ RetV (.bl (chOk c)) H Q
theorem ok_ch {tP : Tok} {f : Addr} {fd : FuncData} (F : Fun K "_may_stand_in_text" "_may_stand_in_text" s__may_stand_in_text f fd) (c__PERCENT : mg "_PERCENT" = some (.int 37 tP)) (T : Glo mg) : FnOk P w K mg base CX0 1 f fd ["code"] spCh := by
  refine F.ok sc__may_stand_in_text (fun vs H Q E h => ?_) (fun cdv A outer s H vs Q E hr h => ?_)
  · obtain ⟨c, rfl, _⟩ := h
    rfl
  · obtain ⟨c, rfl, q⟩ := h
    refine ⟨_, (pss_one (ps_ret (pe_and (pe_chain op_le op_le (pe_callB call_ord (by rfl) T.ord (by decide +kernel) (pa_cons pe_str pa_nil)) (pv 0) (pe_callB call_ord (by rfl) T.ord (by decide +kernel) (pa_cons pe_str pa_nil))) (pe_one (pe_cmpR op_ne (pv 0) (pe_glob (v := .int 37) rfl c__PERCENT ⟨_, rfl⟩) (nomark _)))))), ?_⟩
    exact s_ret (ev_andV (ev_chain (ev_cb (ea_cons ev_c ea_nil) (rc_ordS (n := 32) (by decide +kernel) (by decide +kernel))) (ev_var rfl) rv_I0 (ev_cb (ea_cons ev_c ea_nil) (rc_ordS (n := 126) (by decide +kernel) (by decide +kernel))) rv_I0) (fun _ => ev_op (ev_var rfl) ev_c (rv_ne rfl))) q
theorem spCh_v {H : Hp} {c : Nat} : SpV spCh [.int (c : Int)] H (.bl (chOk c)) := fun H1 _ Q q _ => ⟨c, rfl, fun H2 e2 => q H2 e2⟩
theorem ok_is_text {n : Nat} {tT tP : Tok} {f f_c : Addr} {fd fd_c : FuncData} (F : Fun K "is_text" "is_text" s_is_text f fd) (D__may_stand_in_text : Df K mg "_may_stand_in_text" s__may_stand_in_text ["code"] f_c fd_c) (c_TEXT_MOST : mg "TEXT_MOST" = some (.int 200 tT)) (c__PERCENT : mg "_PERCENT" = some (.int 37 tP)) (T : Glo mg) : FnOk P w K mg base CX0 2 f fd ["thing"] (spB K n isT) := by
  have G__may_stand_in_text : FnOk P w K mg base CX0 1 f_c fd_c _ _ := ok_ch D__may_stand_in_text.F c__PERCENT T
  refine F.ok sc_is_text (fun vs H Q E h => ?_) (fun cdv A outer s H vs Q E hr h => ?_)
  · obtain ⟨v, d, rfl, _⟩ := h
    rfl
  · obtain ⟨v, d, rfl, hd, ok, q⟩ := h
    refine ⟨_, (pss_cons (ps_if (PW.pt (pw_or (pt_not (pt_val (pe_callB call_isi (by rfl) T.isinstance (by decide +kernel) (pa_cons (pv 0) (pa_cons (pe_bltn (v := .ty "str") (u := .type "str") (by rfl) T.str (by decide +kernel) rfl) pa_nil))))) (pw_or1 (pt_cmpR op_gt (pe_callB call_len_str (by rfl) T.len PySem.boot_len (pa_cons (pv 0) pa_nil)) (pe_glob (v := .int 200) rfl c_TEXT_MOST ⟨_, rfl⟩) (nomark _)))))
  (pss_one (ps_ret pe_bl))
  pss_nil)
  (pss_one (ps_ret (pe_callB (cr_all rfl) (by rfl) T.all (by decide +kernel) (pa_cons (pe_lc (own := [("char", 1)]) (g := gName 1) rfl sc_is_text.nd (pi_str (pv 0)) (blkOk_by (N := N_is_text) (sc := defScope s_is_text) (by decide +kernel)) (fun _ _ _ _ _ => (pg_name (i := 1) sc_is_text.nd rfl (.inl rfl))) (fun _ _ _ _ _ => pts_nil) (fun _ _ _ _ _ => (pe_call G__may_stand_in_text (hr.mono (by decide)) (by rfl) D__may_stand_in_text.g D__may_stand_in_text.F.kp D__may_stand_in_text.b .nil pass0 (pa_cons (pe_callB call_ord (by rfl) T.ord (by decide +kernel) (pa_cons (pv 1) pa_nil)) pa_nil)))) pa_nil))))), ?_⟩
    by_cases hS : isStr d = true
    · obtain ⟨x, rfl⟩ := str_of hS
      have hxl : x.length ≤ 1000 := by
        cases ok
        assumption
      have hd' := hd
      cases hd
      refine' q_when (b := decide ((x.length : Int) > 200)) (et_is (et_or (a := false) (b := decide ((x.length : Int) > 200)) (et_is (et_not (et_B (ev_isiX (K := K) (ex_var rfl hd') (kit_str _)))) rfl) (fun _ => et_test (ev_op (ev_cb (ea_cons (ev_var rfl) ea_nil) (rc_lenS (by omega))) ev_c rv_I0))) (Bool.false_or _)) (fun hb H1 e1 => ?_) (fun hb H1 e1 => ?_)
      · have hb := of_decide_eq_true hb
        have : isT (.str x) = false := by
          show (decide (x.length ≤ 200) && _) = false
          rw [decide_eq_false (by omega)]
          rfl
        rw [this] at q
        exact s_ret ev_c (fun H2 e2 => q H2 (e1.trans e2))
      · have hb := of_decide_eq_false hb
        have : isT (.str x) = x.cps.toList.all chOk := by
          show (decide (x.length ≤ 200) && _) = _
          rw [decide_eq_true (by omega)]
          rfl
        rw [this] at q
        obtain ⟨bs, h1, h2⟩ := all_given x chOk
        rw [← h2] at q
        have hsz : x.cps.size ≤ 1000 := hxl
        refine s_ret (ev_all (K := K) (bs := bs) (h1 ▸ el_lcS (fun i => V.bl (chOk (x.cps.getD i 0))) (ev_var rfl) (by omega) (fun _ => rfl) (fun c H1 e1 => et_nil) (fun i c H2 e2 hc => ?_))) (fun H2 e2 => q H2 (e1.trans e2))
        have hg : x.cps.getD i 0 = c := by
          rw [Array.getD_eq_getD_getElem?, hc]
          rfl
        rw [hg]
        exact ev_call (ea_cons (ev_cb (ea_cons (ev_var rfl) ea_nil) rc_ord) ea_nil) spCh_v
    · have hS : isStr d = false := by simpa using hS
      rw [isT_not hS] at q
      refine' q_when (b := true) (et_is (et_or (a := true) (b := true) (et_is (et_not (et_B (ev_isiX (K := K) (ex_var rfl hd) (kit_str d)))) (by rw [hS]; rfl)) (fun h => nomatch h)) rfl) (fun hb H1 e1 => s_ret ev_c (fun H2 e2 => q H2 (e1.trans e2))) (fun hb => nomatch hb)

theorem ok_same {f : Addr} {fd : FuncData} (D__law_same : Df K mg "_law_same" s__law_same ["actual", "due"] f fd) (T : Glo mg) : ∀ n : Nat, FnOk P w K mg base CX0 (n + 1) f fd ["actual", "due"] (spSame K n) := fun n => by
  have key : ∀ (n : Nat) (S : Sp), FnOk P w K mg base CX0 n f fd ["actual", "due"] S → (∀ m, n = m + 1 → S = spSame K m) → FnOk P w K mg base CX0 (n + 1) f fd ["actual", "due"] (spSame K n) := fun n S G__law_same hSm => by
    refine D__law_same.F.ok sc__law_same (fun vs H Q E h => ?_) (fun cdv A outer s H vs Q E hr h => ?_)
    · obtain ⟨x, y, d, rfl, _⟩ := h
      rfl
    · obtain ⟨x, y, d, rfl, hx, hy, ok, q⟩ := h
      refine ⟨_, (pss_cons (ps_if (PW.pt (pw_or (pt_val (pe_callB call_isi (by rfl) T.isinstance (by decide +kernel) (pa_cons (pv 1) (pa_cons (pe_bltn (v := .ty "tuple") (u := .type "tuple") (by rfl) T.tuple (by decide +kernel) rfl) pa_nil)))) (pw_or1 (pt_val (pe_callB call_isi (by rfl) T.isinstance (by decide +kernel) (pa_cons (pv 1) (pa_cons (pe_bltn (v := .ty "list") (u := .type "list") (by rfl) T.list (by decide +kernel) rfl) pa_nil)))))))
  (pss_cons (ps_if (PW.pt (pw_and (pt_val (pe_callB call_isi (by rfl) T.isinstance (by decide +kernel) (pa_cons (pv 1) (pa_cons (pe_bltn (v := .ty "tuple") (u := .type "tuple") (by rfl) T.tuple (by decide +kernel) rfl) pa_nil)))) (pw_and1 (pt_not (pt_val (pe_callB call_isi (by rfl) T.isinstance (by decide +kernel) (pa_cons (pv 0) (pa_cons (pe_bltn (v := .ty "tuple") (u := .type "tuple") (by rfl) T.tuple (by decide +kernel) rfl) pa_nil))))))))
  (pss_one (ps_ret pe_bl))
  pss_nil)
  (pss_cons (ps_if (PW.pt (pw_and (pt_val (pe_callB call_isi (by rfl) T.isinstance (by decide +kernel) (pa_cons (pv 1) (pa_cons (pe_bltn (v := .ty "list") (u := .type "list") (by rfl) T.list (by decide +kernel) rfl) pa_nil)))) (pw_and1 (pt_not (pt_val (pe_callB call_isi (by rfl) T.isinstance (by decide +kernel) (pa_cons (pv 0) (pa_cons (pe_bltn (v := .ty "list") (u := .type "list") (by rfl) T.list (by decide +kernel) rfl) pa_nil))))))))
  (pss_one (ps_ret pe_bl))
  pss_nil)
  (pss_cons (ps_if (pt_cmpR op_ne (pe_callB call_len_seq (by rfl) T.len PySem.boot_len (pa_cons (pv 0) pa_nil)) (pe_callB call_len_seq (by rfl) T.len PySem.boot_len (pa_cons (pv 1) pa_nil)) (nomark _))
  (pss_one (ps_ret pe_bl))
  pss_nil)
  (pss_cons (ps_for PassesOwn.never rfl (pi_range1 (by rfl) T.range (pa_cons (pe_callB call_len_seq (by rfl) T.len PySem.boot_len (pa_cons (pv 1) pa_nil)) pa_nil)) (pg_name (i := 2) sc__law_same.nd rfl (.inl rfl))
  (pss_one (ps_if (pt_not (pt_val (pe_call G__law_same (hr.mono (by omega)) (by rfl) D__law_same.g D__law_same.F.kp D__law_same.b .nil pass0 (pa_cons (pe_ix ix_seq (pv 0) (pv 2) (fun _ _ => rfl)) (pa_cons (pe_ix ix_seq (pv 1) (pv 2) (fun _ _ => rfl)) pa_nil)))))
  (pss_one (ps_ret pe_bl))
  pss_nil)))
  (pss_one (ps_ret pe_bl))))))
  pss_nil)
  (pss_cons (ps_if (pt_val (pe_callB call_isi (by rfl) T.isinstance (by decide +kernel) (pa_cons (pv 1) (pa_cons (pe_bltn (v := .ty "str") (u := .type "str") (by rfl) T.str (by decide +kernel) rfl) pa_nil))))
  (pss_one (ps_ret (pe_and (pe_callB call_isi (by rfl) T.isinstance (by decide +kernel) (pa_cons (pv 0) (pa_cons (pe_bltn (v := .ty "str") (u := .type "str") (by rfl) T.str (by decide +kernel) rfl) pa_nil))) (pe_one (pe_cmpR op_eq (pv 0) (pv 1) (nomark _))))))
  pss_nil)
  (pss_cons (ps_if (pt_cmpR op_isN (pv 1) pe_non (nomark _))
  (pss_one (ps_ret (pe_cmpR op_isN (pv 0) pe_non (nomark _))))
  pss_nil)
  (pss_cons (ps_if (pt_val (pe_callB call_isi (by rfl) T.isinstance (by decide +kernel) (pa_cons (pv 1) (pa_cons (pe_bltn (v := .ty "bool") (u := .type "bool") (by rfl) T.bool (by decide +kernel) rfl) pa_nil))))
  (pss_one (ps_ret (pe_and (pe_callB call_isi (by rfl) T.isinstance (by decide +kernel) (pa_cons (pv 0) (pa_cons (pe_bltn (v := .ty "bool") (u := .type "bool") (by rfl) T.bool (by decide +kernel) rfl) pa_nil))) (pe_one (pe_cmpR op_eq (pv 0) (pv 1) (nomark _))))))
  pss_nil)
  (pss_one (ps_ret (pe_and (pe_callB call_isi (by rfl) T.isinstance (by decide +kernel) (pa_cons (pv 0) (pa_cons (pe_bltn (v := .ty "int") (u := .type "int") (by rfl) T.int (by decide +kernel) rfl) pa_nil))) (pe_and (pe_not (pe_callB call_isi (by rfl) T.isinstance (by decide +kernel) (pa_cons (pv 0) (pa_cons (pe_bltn (v := .ty "bool") (u := .type "bool") (by rfl) T.bool (by decide +kernel) rfl) pa_nil)))) (pe_one (pe_cmpR op_eq (pv 0) (pv 1) (nomark _))))))))))), ?_⟩
      refine' q_when (b := isTup d || isLst d) (et_or (et_B (ev_isiX (K := K) (ex_var rfl hy) (kit_tup d))) (fun _ => et_B (ev_isiX (K := K) (ex_var rfl hy) (kit_lst d)))) (fun hb H1 e1 => ?_) (fun hb H1 e1 => ?_)
      · obtain ⟨m, ds, hm, hd, hl, hok⟩ : ∃ (m : Nat) (ds : List PyData), n = m + 1 ∧ (d = .list ds ∨ d = .tuple ds) ∧ ds.length ≤ 50000 ∧ ∀ e, e ∈ ds → Okn m e := by
          cases ok with
          | lst h hs => exact ⟨_, _, rfl, .inl rfl, h, hs⟩
          | tup h hs => exact ⟨_, _, rfl, .inr rfl, h, hs⟩
          | _ => exact absurd hb (by simp [isTup, isLst])
        have hS := hSm m hm
        subst hS
        have hx1 := dx_mono e1 _ _ hx
        have hy1 := dx_mono e1 _ _ hy
        refine' q_when (b := false) (et_is (et_and (a := isTup d) (b := !isTup d) (et_B (ev_isiX (K := K) (ex_var rfl hy1) (kit_tup d))) (fun _ => et_not (et_B (ev_isiX (K := K) (ex_var rfl hx1) (kit_tup d))))) (by cases isTup d <;> rfl)) (fun hb => nomatch hb) (fun _ H1' e1' => ?_)
        have hx1 := dx_mono e1' _ _ hx1
        have hy1 := dx_mono e1' _ _ hy1
        refine' q_when (b := false) (et_is (et_and (a := isLst d) (b := !isLst d) (et_B (ev_isiX (K := K) (ex_var rfl hy1) (kit_lst d))) (fun _ => et_not (et_B (ev_isiX (K := K) (ex_var rfl hx1) (kit_lst d))))) (by cases isLst d <;> rfl)) (fun hb => nomatch hb) (fun _ H2 e2' => ?_)
        have e1 := e1.trans e1'
        have e2 := e2'
        have hx2 := dx_mono e2 _ _ hx1
        have hy2 := dx_mono e2 _ _ hy1
        refine' q_when (b := false) (et_is (et_test (ev_op (ev_lenX2 (K := K) hd (ex_var rfl hx2)) (ev_lenX2 (K := K) hd (ex_var rfl hy2)) rv_neI)) (by rw [decide_eq_true rfl]; rfl)) (fun hb => nomatch hb) (fun _ H3 e3 => ?_)
        have hx3 := dx_mono e3 _ _ hx2
        have hy3 := dx_mono e3 _ _ hy2
        refine' q_forR1 (n := (ds.length : Int)) (ea_cons (ev_lenX2 (K := K) hd (ex_var rfl hy3)) ea_nil) (by omega) (fun i σ' H' => ∃ y2 : Option V, σ' = [some x, some y, y2] ∧ Ex H3 H') (fun H4 e4 => ⟨none, rfl, e4⟩) (fun i σ' H' hi p => ?_) (fun σ' H' p => ?_)
        · obtain ⟨y2, rfl, e4⟩ := p
          have hx4 := dx_mono e4 _ _ hx3
          have hy4 := dx_mono e4 _ _ hy3
          have hil : i < ds.length := by omega
          have hat : atI ds (i : Int) = some ds[i] := atI_nat (List.getElem?_eq_getElem hil)
          refine' s_when (b := false) (et_nt (et_B (ev_callD (K := K) (exs_cons (ex_ix2 (K := K) hd (ex_var rfl hx4) (ev_var rfl) hat) (exs_cons (ex_ix2 (K := K) hd (ex_var rfl hy4) (ev_var rfl) hat) exs_nil)) (fun vs H5 e5 hv Q q => ?_)))) (fun hb => nomatch hb) (fun _ H5 e5 => ⟨_, rfl, e4.trans e5⟩)
          cases hv with
          | cons h1 h2 => cases h2 with
            | cons h2 h3 =>
              cases h3
              exact ⟨_, _, _, rfl, h1, h2, hok _ (List.getElem_mem hil), q⟩
        · obtain ⟨y2, rfl, e4⟩ := p
          exact s_ret ev_c (fun H5 e5 => q H5 ((((e1.trans e2).trans e3).trans e4).trans e5))
      · have hx1 := dx_mono e1 _ _ hx
        have hy1 := dx_mono e1 _ _ hy
        cases ok with
        | non =>
          cases hx
          cases hy
          refine' q_when (b := false) (et_B (ev_isiX (K := K) (ex_var rfl hy1) (kit_str _))) (fun hb => nomatch hb) (fun _ H2 e2 => ?_)
          refine' q_when (b := true) (et_is (et_isN (ev_var rfl)) (decide_eq_true rfl)) (fun _ H3 e3 => ?_) (fun hb => nomatch hb)
          exact s_ret (ev_is (ev_isN (ev_var rfl)) (by rw [decide_eq_true rfl])) (fun H4 e4 => q H4 (((e1.trans e2).trans e3).trans e4))
        | bl b =>
          cases hx
          cases hy
          refine' q_when (b := false) (et_B (ev_isiX (K := K) (ex_var rfl hy1) (kit_str _))) (fun hb => nomatch hb) (fun _ H2 e2 => ?_)
          refine' q_when (b := false) (et_is (et_isN (ev_var rfl)) (decide_eq_false (fun h => nomatch h))) (fun hb => nomatch hb) (fun _ H3 e3 => ?_)
          have hy3 := dx_mono (e2.trans e3) _ _ hy1
          refine' q_when (b := true) (et_B (ev_isiX (K := K) (ex_var rfl hy3) (kit_bool _))) (fun _ H4 e4 => ?_) (fun hb => nomatch hb)
          have hy4 := dx_mono e4 _ _ hy3
          exact s_ret (ev_andT (ev_isiX (K := K) (ex_var rfl hy4) (kit_bool _)) (ev_op (ev_var rfl) (ev_var rfl) (rv_eqT rfl))) (fun H5 e5 => q H5 ((((e1.trans e2).trans e3).trans e4).trans e5))
        | int i =>
          cases hx
          cases hy
          refine' q_when (b := false) (et_B (ev_isiX (K := K) (ex_var rfl hy1) (kit_str _))) (fun hb => nomatch hb) (fun _ H2 e2 => ?_)
          refine' q_when (b := false) (et_is (et_isN (ev_var rfl)) (decide_eq_false (fun h => nomatch h))) (fun hb => nomatch hb) (fun _ H3 e3 => ?_)
          have hy3 := dx_mono (e2.trans e3) _ _ hy1
          refine' q_when (b := false) (et_B (ev_isiX (K := K) (ex_var rfl hy3) (kit_bool _))) (fun hb => nomatch hb) (fun _ H4 e4 => ?_)
          have hy4 := dx_mono e4 _ _ hy3
          exact s_ret (ev_andT (ev_isiX (K := K) (ex_var rfl hy4) (kit_int _)) (ev_andT (ev_nf (ev_isiX (K := K) (ex_var rfl hy4) (kit_bool _))) (ev_op (ev_var rfl) (ev_var rfl) (rv_eqT rfl)))) (fun H5 e5 => q H5 ((((e1.trans e2).trans e3).trans e4).trans e5))
        | str z =>
          cases hx
          cases hy
          refine' q_when (b := true) (et_B (ev_isiX (K := K) (ex_var rfl hy1) (kit_str _))) (fun _ H2 e2 => ?_) (fun hb => nomatch hb)
          have hy2 := dx_mono e2 _ _ hy1
          exact s_ret (ev_andT (ev_isiX (K := K) (ex_var rfl hy2) (kit_str _)) (ev_op (ev_var rfl) (ev_var rfl) (rv_eqT rfl))) (fun H3 e3 => q H3 ((e1.trans e2).trans e3))
        | lst => exact absurd hb (by simp [isTup, isLst])
        | tup => exact absurd hb (by simp [isTup, isLst])
  induction n with
  | zero => exact key 0 (fun _ _ _ _ => False) fn_false (fun m h => nomatch h)
  | succ n ih => exact key (n + 1) _ ih (fun m h => by cases h; rfl)

/-! ### reading words -/
def pairD (ds : List PyData) (at' : Int) : Option (PyData × PyData) := if at' < 0 then none else match ds[at'.toNat]?, ds[at'.toNat + 1]? with
  | some a, some b => some (a, b)
  | _, _ => none
def takeN (f : Int → Option (PyData × Int)) : Nat → Int → Option (List PyData × Int)
  | 0, i => some ([], i)
  | n + 1, i => match f i with
    | none => none
    | some (d, e) => match takeN f n e with
      | none => none
      | some (l, e2) => some (d :: l, e2)
def toN : PyData → Nat
  | .int i => i.toNat
  | _ => 0
def takeB (ds : List PyData) (sub : Option (Int → Option (PyData × Int))) (i : Int) : Option (PyData × Int) := match pairD ds i with
  | some (.str z, b) => if z = "i" then (if isI b = true then some (b, i + 2) else none) else if z = "s" then (if isT b = true then some (b, i + 2) else none) else if z = "t" then (if isN b = true then (match sub with
      | some f => (match takeN f (toN b) (i + 2) with
        | some (l, e) => some (.tuple l, e)
        | none => none)
      | none => none) else none) else none
  | _ => none
def takeD (ds : List PyData) : Nat → Int → Option (PyData × Int)
  | 0 => takeB ds none
  | lv + 1 => takeB ds (some (takeD ds lv))
theorem pairD_some {ds : List PyData} {i : Int} {a b : PyData} (h : pairD ds i = some (a, b)) : 0 ≤ i ∧ i + 1 < (ds.length : Int) ∧ ds[i.toNat]? = some a ∧ ds[i.toNat + 1]? = some b := by
  unfold pairD at h
  by_cases h0 : i < 0
  · rw [if_pos h0] at h; cases h
  · rw [if_neg h0] at h
    cases h1 : ds[i.toNat]? with
    | none => rw [h1] at h; cases h
    | some x =>
      cases h2 : ds[i.toNat + 1]? with
      | none => rw [h1, h2] at h; cases h
      | some y =>
        rw [h1, h2] at h
        cases h
        have := (List.getElem?_eq_some_iff.mp h2).1
        exact ⟨by omega, by omega, rfl, rfl⟩
theorem pairD_none {ds : List PyData} {i : Int} (h : i < 0 ∨ (ds.length : Int) ≤ i + 1) : pairD ds i = none := by
  unfold pairD
  by_cases h0 : i < 0
  · rw [if_pos h0]
  · rw [if_neg h0, show ds[i.toNat + 1]? = none from List.getElem?_eq_none (by omega)]
    cases ds[i.toNat]? <;> rfl
theorem pairD_get {ds : List PyData} {i : Int} (h0 : 0 ≤ i) (h1 : i + 1 < (ds.length : Int)) : ∃ a b, pairD ds i = some (a, b) := by
  unfold pairD
  rw [if_neg (by omega), List.getElem?_eq_getElem (show i.toNat < ds.length by omega), List.getElem?_eq_getElem (show i.toNat + 1 < ds.length by omega)]
  exact ⟨_, _, rfl⟩
def Bd (ds : List PyData) (f : Int → Option (PyData × Int)) : Prop := ∀ i d e, f i = some (d, e) → 0 ≤ i ∧ i + 2 ≤ e ∧ e ≤ (ds.length : Int)
theorem takeN_bd {ds : List PyData} {f : Int → Option (PyData × Int)} (hf : Bd ds f) : ∀ (n : Nat) (i : Int) (l : List PyData) (e : Int), i ≤ (ds.length : Int) → takeN f n i = some (l, e) → i ≤ e ∧ e ≤ (ds.length : Int)
  | 0, i, l, e, hi, h => by
    cases h
    exact ⟨Int.le_refl _, hi⟩
  | n + 1, i, l, e, hi, h => by
    unfold takeN at h
    cases h1 : f i with
    | none => rw [h1] at h; cases h
    | some p =>
      obtain ⟨d, e1⟩ := p
      rw [h1] at h
      obtain ⟨a1, a2, a3⟩ := hf i d e1 h1
      cases h2 : takeN f n e1 with
      | none => simp only [h2] at h; cases h
      | some q =>
        obtain ⟨l2, e2⟩ := q
        simp only [h2] at h
        cases h
        obtain ⟨b1, b2⟩ := takeN_bd hf n e1 l2 e a3 h2
        exact ⟨by omega, b2⟩
theorem takeB_bd {ds : List PyData} {sub : Option (Int → Option (PyData × Int))} (hs : ∀ f, sub = some f → Bd ds f) : Bd ds (takeB ds sub) := by
  intro i d e h
  unfold takeB at h
  split at h
  · rename_i z b hp
    obtain ⟨h0, h1, _, _⟩ := pairD_some hp
    split at h
    · split at h
      · cases h; exact ⟨h0, Int.le_refl _, by omega⟩
      · cases h
    · split at h
      · split at h
        · cases h; exact ⟨h0, Int.le_refl _, by omega⟩
        · cases h
      · split at h
        · split at h
          · split at h
            · rename_i f
              split at h
              · rename_i l e2 hn
                cases h
                obtain ⟨a1, a2⟩ := takeN_bd (hs f rfl) _ _ _ _ (by omega) hn
                exact ⟨h0, a1, a2⟩
              · cases h
            · cases h
          · cases h
        · cases h
  · cases h
theorem takeD_bd (ds : List PyData) : ∀ lv, Bd ds (takeD ds lv)
  | 0 => takeB_bd fun f h => nomatch h
  | lv + 1 => takeB_bd fun f h => by cases h; exact takeD_bd ds lv
/-- a, b = a pair -/
theorem g_two {σ : L2.St} {B H : Hp} {x : V} {d1 d2 : PyData} {i j : Nat} {Q : L2.St → Hp → Prop} (h : Dp K B x (.tuple [d1, d2])) (e : Ex B H) (q : ∀ v1 v2, Dp K B v1 d1 → Dp K B v2 d2 → Q ((σ.set i (some v1)).set j (some v2)) H) : gTup K 2 (gCons (gName i) (gCons (gName j) gNil)) x σ H Q := by
  cases h with
  | @tup a xs _ hs hd =>
    cases hd with
    | cons h1 h2 => cases h2 with
      | cons h2 h3 =>
        cases h3
        exact ⟨a, _, rfl, ex_t e hs, rfl, _, _, rfl, _, _, rfl, rfl, q _ _ h1 h2⟩
def spPair (K : PySem.W.Frag) (CW : Addr) : Sp := fun vs H Q E => ∃ (w : Addr) (i : Int) (ds : List PyData) (B : Hp) (F : List MP), vs = [.ref w, .int i] ∧ At B (LstM K w ds :: F) H ∧ ds.length ≤ 50000 ∧ (∀ a b, pairD ds i = some (a, b) → ∀ v B1 H1, Ex B B1 → Dp K B1 v (.tuple [a, b]) → At B1 (LstM K w ds :: F) H1 → Q v H1) ∧ (pairD ds i = none → ∀ H1, At B (LstM K w ds :: F) H1 → E (.ref CW) none H1)
theorem ok_pair {f C_BadWords Bx : Addr} {fd : FuncData} (F : Fun K "_word_pair" "_word_pair" s__word_pair f fd) (E_BadWords : Err K mg "BadWords" C_BadWords Bx) (T : Glo mg) : FnOk P w K mg base (L2.CX P w) 1 f fd ["words", "at"] (spPair K C_BadWords) := by
  refine F.okX sc__word_pair (fun vs H Q E h => ?_) (fun cdv A outer s H vs Q E hr h => ?_)
  · obtain ⟨w, i, ds, B, F, rfl, _⟩ := h
    rfl
  · obtain ⟨wa, i, ds, B, Fr, rfl, hA, hl, q, qe⟩ := h
    refine ⟨_, (pss_cons (ps_if (PW.pt (pw_or (pt_cmpR op_lt (pv 1) pe_int (nomark _)) (pw_or1 (pt_cmpR op_ge (pe_op op_add (pv 1) pe_int) (pe_callB call_len_seq (by rfl) T.len PySem.boot_len (pa_cons (pv 0) pa_nil)) (nomark _)))))
  (pss_one (ps_raise rfl (takes_of rfl rfl rfl rfl) (Err.mk' E_BadWords rfl)))
  pss_nil)
  (pss_one (ps_ret (pe_tup (pa_cons (pe_ix ix_list (pv 0) (pv 1) (fun _ _ => rfl)) (pa_cons (pe_ix ix_list (pv 0) (pe_op op_add (pv 1) pe_int) (fun _ _ => rfl)) pa_nil)))))), ?_⟩
    refine qe_when (b := decide (i < 0) || decide ((ds.length : Int) ≤ i + 1)) hA (et_or (et_test (ev_op (ev_var rfl) ev_c rv_I0)) (fun _ => et_test (ev_op (ev_op (ev_var rfl) ev_c rv_I0) (ev_lenM (K := K) 0 rfl hA (ev_var rfl)) rv_I0))) (fun hb H1 hA => ?_) (fun hb H1 hA => ?_)
    · refine qe (pairD_none ?_) H1 hA
      rcases Bool.or_eq_true_iff.mp hb with h | h
      · exact .inl (of_decide_eq_true h)
      · exact .inr (of_decide_eq_true h)
    · have h2 := Bool.or_eq_false_iff.mp hb
      have h0 := of_decide_eq_false h2.1
      have h1 := of_decide_eq_false h2.2
      obtain ⟨a, b, hp⟩ := pairD_get (ds := ds) (i := i) (by omega) (by omega)
      obtain ⟨_, _, ha, hb2⟩ := pairD_some hp
      obtain ⟨k, rfl⟩ : ∃ k : Nat, i = (k : Int) := ⟨i.toNat, by omega⟩
      refine sw_ret hA (wv_tup (wa_cons (wv_ixM (K := K) 0 rfl (fun _ _ _ _ => ev_var rfl) (fun _ _ _ _ => ev_var rfl) (atI_nat ha)) (wa_cons (wv_ixM (K := K) (i := ((k + 1 : Nat) : Int)) 0 rfl (fun _ _ _ _ => ev_var rfl) (fun _ _ _ _ => ev_op (ev_var rfl) ev_c rv_I0) (atI_nat hb2)) wa_nil)) (by show 2 ≤ 100000; decide)) fun v B3 H3 b3 hA hv => q a b hp v B3 H3 b3 hv hA

def spTk (K : PySem.W.Frag) (CW : Addr) (lv : Nat) : Sp := fun vs H Q E => ∃ (w : Addr) (i : Int) (ds : List PyData) (B : Hp) (F : List MP), vs = [.ref w, .int i, .int (lv : Int)] ∧ At B (LstM K w ds :: F) H ∧ ds.length ≤ 50000 ∧ (∀ d ∈ ds, Okd 12 d) ∧ (∀ d e, takeD ds lv i = some (d, e) → ∀ v B1 H1, Ex B B1 → Dp K B1 v (.tuple [d, .int e]) → At B1 (LstM K w ds :: F) H1 → Q v H1) ∧ (takeD ds lv i = none → ∀ B1 H1, Ex B B1 → At B1 (LstM K w ds :: F) H1 → E (.ref CW) none H1)
def spIt (K : PySem.W.Frag) (CW : Addr) (lv : Nat) : Sp := fun vs H Q E => ∃ (w : Addr) (i : Int) (c : Nat) (ds : List PyData) (B : Hp) (F : List MP), vs = [.ref w, .int i, .int (c : Int), .int (lv : Int)] ∧ At B (LstM K w ds :: F) H ∧ ds.length ≤ 50000 ∧ (∀ d ∈ ds, Okd 12 d) ∧ 0 ≤ i ∧ (∀ l e, takeN (takeD ds lv) c i = some (l, e) → ∀ v B1 H1, Ex B B1 → Dp K B1 v (.tuple [.tuple l, .int e]) → At B1 (LstM K w ds :: F) H1 → Q v H1) ∧ (takeN (takeD ds lv) c i = none → ∀ B1 H1, Ex B B1 → At B1 (LstM K w ds :: F) H1 → E (.ref CW) none H1)
theorem wv_tupM {σ : L2.St} {B : Hp} {l : List MP} {ta : TE} {a : Addr} {ds : List PyData} (n : Nat) (hk : l[n]? = some (LstM K a ds)) (ha : ∀ B1 H, Ex B B1 → At B1 l H → Ev ta σ H (.ref a)) : Wv (tThen ta (kTup K)) σ B l (rD K (.tuple ds)) := fun B1 H e1 hA Q q =>
  ha B1 H e1 hA H (Ex.refl H) _ fun H1 e2 => by
    have hA1 := at_ex hA e2
    obtain ⟨xs, h1, h2⟩ := lst_at n hk hA1
    exact .inl ⟨a, xs, rfl, sq_of h2, fun p hp => q _ (ov B1 H1 (upd H1 p (.tup xs))) _ ov_base (at_grow hA1 (Ex.new hp)) (.tup (st_of (ov_new (at_base hA1) (Ex.refl H1) hp)) (dpa_mono ov_base _ _ h1))⟩
theorem takeB_str {ds : List PyData} {sub : Option (Int → Option (PyData × Int))} {i : Int} {z : Str} {b : PyData} (h : pairD ds i = some (.str z, b)) : takeB ds sub i = if z = "i" then (if isI b = true then some (b, i + 2) else none) else if z = "s" then (if isT b = true then some (b, i + 2) else none) else if z = "t" then (if isN b = true then (match sub with
      | some f => (match takeN f (toN b) (i + 2) with
        | some (l, e) => some (.tuple l, e)
        | none => none)
      | none => none) else none) else none := by
  unfold takeB
  rw [h] <;> rfl
theorem takeB_not {ds : List PyData} {sub : Option (Int → Option (PyData × Int))} {i : Int} {a b : PyData} (h : pairD ds i = some (a, b)) (ha : isT a = false) : takeB ds sub i = none := by
  cases a with
  | str z =>
    rw [takeB_str h]
    have n1 : z ≠ "i" := fun e => by rw [e] at ha; exact absurd ha (by decide)
    have n2 : z ≠ "s" := fun e => by rw [e] at ha; exact absurd ha (by decide)
    have n3 : z ≠ "t" := fun e => by rw [e] at ha; exact absurd ha (by decide)
    rw [if_neg n1, if_neg n2, if_neg n3]
  | _ => unfold takeB; rw [h]
theorem takeB_none {ds : List PyData} {sub : Option (Int → Option (PyData × Int))} {i : Int} (h : pairD ds i = none) : takeB ds sub i = none := by
  unfold takeB
  rw [h]
def subD (ds : List PyData) : Nat → Option (Int → Option (PyData × Int))
  | 0 => none
  | lv + 1 => some (takeD ds lv)
theorem takeD_eq (ds : List PyData) (lv : Nat) : takeD ds lv = takeB ds (subD ds lv) := by
  cases lv <;> rfl
theorem isN_of {d : PyData} (h : isN d = true) : ∃ k, d = .int k ∧ 0 ≤ k := by
  cases d with
  | int k =>
    have h := Bool.and_eq_true_iff.mp (show ((decide (-(10 ^ 18) ≤ k) && decide (k ≤ 10 ^ 18)) && decide (0 ≤ k)) = true from h)
    exact ⟨k, rfl, of_decide_eq_true h.2⟩
  | _ => simp [isN, isI] at h
theorem ok_twkey {f f_p f_t f_i f_n f_it C_BadWords Bx : Addr} {fd fd_p fd_t fd_i fd_n fd_it : FuncData} (lv n : Nat) (S : Sp) (D__take_within : Df K mg "_take_within" s__take_within ["words", "at", "levels"] f fd) (D__word_pair : Df K mg "_word_pair" s__word_pair ["words", "at"] f_p fd_p) (G__word_pair : FnOk P w K mg base (L2.CX P w) 1 f_p fd_p ["words", "at"] (spPair K C_BadWords))
    (D_is_text : Df K mg "is_text" s_is_text ["thing"] f_t fd_t) (G_is_text : FnOk P w K mg base CX0 2 f_t fd_t ["thing"] (spB K 12 isT)) (D_is_integer : Df K mg "is_integer" s_is_integer ["thing"] f_i fd_i) (G_is_integer : FnOk P w K mg base CX0 1 f_i fd_i ["thing"] (spB K 12 isI)) (D_is_number : Df K mg "is_number" s_is_number ["thing"] f_n fd_n) (G_is_number : FnOk P w K mg base CX0 2 f_n fd_n ["thing"] (spB K 12 isN))
    (D__take_items : Df K mg "_take_items" s__take_items ["words", "at", "count", "levels"] f_it fd_it) (G__take_items : FnOk P w K mg base (L2.CX P w) n f_it fd_it ["words", "at", "count", "levels"] S) (hS : ∀ m, lv = m + 1 → S = spIt K C_BadWords m) (hn : 2 ≤ n) (E_BadWords : Err K mg "BadWords" C_BadWords Bx) (T : Glo mg) : FnOk P w K mg base (L2.CX P w) (n + 1) f fd ["words", "at", "levels"] (spTk K C_BadWords lv) := by
  refine D__take_within.F.okX sc__take_within (fun vs H Q E h => ?_) (fun cdv A outer s H vs Q E hr h => ?_)
  · obtain ⟨w, i, ds, B, F, rfl, _⟩ := h
    rfl
  · obtain ⟨wa, i, ds, B, Fr, rfl, hA, hl, hok, q, qe⟩ := h
    refine ⟨_, (pss_cons (ps_asg (pe_callS G__word_pair (hr.mono (by omega)) (by rfl) D__word_pair.g D__word_pair.F.kp D__word_pair.b (fun σ => passAt (takes_of rfl rfl rfl rfl) σ) (pa_cons (pv 0) (pa_cons (pv 1) pa_nil))) (pg_tup (by rfl) (pgs_cons (pg_name (i := 3) sc__take_within.nd rfl (.inl rfl)) (pgs_cons (pg_name (i := 4) sc__take_within.nd rfl (.inl rfl)) pgs_nil))))
  (pss_cons (ps_if (pt_not (pt_val (pe_call G_is_text (hr.mono (by omega)) (by rfl) D_is_text.g D_is_text.F.kp D_is_text.b .nil pass0 (pa_cons (pv 3) pa_nil))))
  (pss_one (ps_raise rfl (takes_of rfl rfl rfl rfl) (Err.mk' E_BadWords rfl)))
  pss_nil)
  (pss_cons (ps_if (PW.pt (pw_and (pt_cmpR op_eq (pv 3) pe_str (nomark _)) (pw_and1 (pt_val (pe_call G_is_integer (hr.mono (by omega)) (by rfl) D_is_integer.g D_is_integer.F.kp D_is_integer.b .nil pass0 (pa_cons (pv 4) pa_nil))))))
  (pss_one (ps_ret (pe_tup (pa_cons (pv 4) (pa_cons (pe_op op_add (pv 1) pe_int) pa_nil)))))
  pss_nil)
  (pss_cons (ps_if (PW.pt (pw_and (pt_cmpR op_eq (pv 3) pe_str (nomark _)) (pw_and1 (pt_val (pe_call G_is_text (hr.mono (by omega)) (by rfl) D_is_text.g D_is_text.F.kp D_is_text.b .nil pass0 (pa_cons (pv 4) pa_nil))))))
  (pss_one (ps_ret (pe_tup (pa_cons (pv 4) (pa_cons (pe_op op_add (pv 1) pe_int) pa_nil)))))
  pss_nil)
  (pss_cons (ps_if (PW.pt (pw_and (pt_cmpR op_eq (pv 3) pe_str (nomark _)) (pw_and (pt_val (pe_call G_is_number (hr.mono (by omega)) (by rfl) D_is_number.g D_is_number.F.kp D_is_number.b .nil pass0 (pa_cons (pv 4) pa_nil))) (pw_and1 (pt_cmpR op_gt (pv 2) pe_int (nomark _))))))
  (pss_one (ps_ret (pe_callS G__take_items (hr.mono (by omega)) (by rfl) D__take_items.g D__take_items.F.kp D__take_items.b (fun σ => passAt (takes_of rfl rfl rfl rfl) σ) (pa_cons (pv 0) (pa_cons (pe_op op_add (pv 1) pe_int) (pa_cons (pv 4) (pa_cons (pe_op op_sub (pv 2) pe_int) pa_nil)))))))
  pss_nil)
  (pss_one (ps_raise rfl (takes_of rfl rfl rfl rfl) (Err.mk' E_BadWords rfl)))))))), ?_⟩
    rw [takeD_eq] at q qe
    refine go_call (go_cons (ev_var rfl) fun H1 e1 => go_cons (ev_var rfl) fun H2 e2 => go_nil ⟨wa, i, ds, B, Fr, rfl, at_ex hA (e1.trans e2), hl, fun a b hp v B1 H3 b1 hv hA => g_two hv (at_base hA) fun v1 v2 h1 h2 => ?_, fun hp H3 hA => qe (takeB_none hp) B H3 (Ex.refl B) hA⟩)
    obtain ⟨hi0, hi1, ha, hb⟩ := pairD_some hp
    have oka := hok a (List.mem_of_getElem? ha)
    have okb := hok b (List.mem_of_getElem? hb)
    dsimp only
    refine qe_when (b := !isT a) hA (et_not (et_B (ev_call (ea_cons (ev_var rfl) ea_nil) (spB_v (at_dx hA h1) oka)))) (fun hb H4 hA => ?_) (fun hb H4 hA => ?_)
    · exact qe (takeB_not hp (by simpa using hb)) B1 H4 b1 hA
    have ht : isT a = true := by simpa using hb
    obtain ⟨z, rfl⟩ : ∃ z, a = .str z := by
      cases a with
      | str z => exact ⟨z, rfl⟩
      | _ => simp [isT] at ht
    rw [takeB_str hp] at q qe
    cases h1
    have tz : ∀ {x : Str} {H5 : Hp} {σ : L2.St}, σ[3]? = some (some (.str z)) → EvT (tTest (tOp rEq (tVar 3) (tC (.str x)))) σ H5 (decide (z = x)) := fun {x H5 σ} h => et_is (et_test (ev_op (ev_var h) ev_c (rv_eq rfl))) (decide_eq_decide.mpr ⟨fun h => V.str.inj h, fun h => by rw [h]⟩)
    refine qe_when (b := decide (z = "i") && isI b) hA (et_and (tz rfl) (fun _ => et_B (ev_call (ea_cons (ev_var rfl) ea_nil) (spB_v (at_dx hA h2) okb)))) (fun hb1 H5 hA => ?_) (fun hb1 H5 hA => ?_)
    · have h3 := Bool.and_eq_true_iff.mp hb1
      have hz := of_decide_eq_true h3.1
      rw [if_pos hz, if_pos h3.2] at q
      exact sw_ret hA (wv_tup (wa_cons (wv_var rfl h2) (wa_cons (wv_int (wv_of fun _ _ _ _ => ev_op (ev_var rfl) ev_c rv_I0)) wa_nil)) (by show 2 ≤ 100000; decide)) fun v B3 H6 b3 hA hv => q _ _ rfl v B3 H6 (b1.trans b3) hv hA
    refine qe_when (b := decide (z = "s") && isT b) hA (et_and (tz rfl) (fun _ => et_B (ev_call (ea_cons (ev_var rfl) ea_nil) (spB_v (at_dx hA h2) okb)))) (fun hb2 H6 hA => ?_) (fun hb2 H6 hA => ?_)
    · have h3 := Bool.and_eq_true_iff.mp hb2
      have hz := of_decide_eq_true h3.1
      rw [if_neg (by rw [hz]; decide), if_pos hz, if_pos h3.2] at q
      exact sw_ret hA (wv_tup (wa_cons (wv_var rfl h2) (wa_cons (wv_int (wv_of fun _ _ _ _ => ev_op (ev_var rfl) ev_c rv_I0)) wa_nil)) (by show 2 ≤ 100000; decide)) fun v B3 H7 b3 hA hv => q _ _ rfl v B3 H7 (b1.trans b3) hv hA
    refine qe_when (b := decide (z = "t") && (isN b && decide ((lv : Int) > 0))) hA (et_and (tz rfl) (fun _ => et_and (et_B (ev_call (ea_cons (ev_var rfl) ea_nil) (spB_v (at_dx hA h2) okb))) (fun _ => et_test (ev_op (ev_var rfl) ev_c rv_I0)))) (fun hb3 H7 hA => ?_) (fun hb3 H7 hA => ?_)
    · have h3 := Bool.and_eq_true_iff.mp hb3
      have h4 := Bool.and_eq_true_iff.mp h3.2
      have hz := of_decide_eq_true h3.1
      have hlv := of_decide_eq_true h4.2
      obtain ⟨m, rfl⟩ : ∃ m, lv = m + 1 := ⟨lv - 1, by omega⟩
      have hSS := hS m rfl
      subst hSS
      obtain ⟨k, rfl, hk⟩ := isN_of h4.1
      obtain ⟨c, rfl⟩ : ∃ c : Nat, k = (c : Int) := ⟨k.toNat, by omega⟩
      cases h2
      rw [if_neg (by rw [hz]; decide), if_neg (by rw [hz]; decide), if_pos hz, if_pos h4.1] at q qe
      have q : ∀ d e, (match takeN (takeD ds m) c (i + 2) with | some (l, e) => some (PyData.tuple l, e) | none => none) = some (d, e) → ∀ v B1 H1, Ex B B1 → Dp K B1 v (.tuple [d, .int e]) → At B1 (LstM K wa ds :: Fr) H1 → Q v H1 := q
      have qe : (match takeN (takeD ds m) c (i + 2) with | some (l, e) => some (PyData.tuple l, e) | none => none) = none → ∀ B1 H1, Ex B B1 → At B1 (LstM K wa ds :: Fr) H1 → E (.ref C_BadWords) none H1 := qe
      refine go_call (go_cons (ev_var rfl) fun H8 e8 => go_cons (ev_op (ev_var rfl) ev_c rv_I0) fun H9 e9 => go_cons (ev_var rfl) fun H10 e10 => go_cons (ev_op (ev_var rfl) ev_c rv_I0) fun H11 e11 => go_nil ⟨wa, i + 2, c, ds, B1, Fr, by rw [show ((m + 1 : Nat) : Int) - 1 = (m : Int) by omega]; rfl, at_ex hA (e8.trans (e9.trans (e10.trans e11))), hl, hok, by omega, fun l e hle v B3 H12 b3 hv hA => q _ _ (by rw [hle]) v B3 H12 (b1.trans b3) hv hA, fun hle B3 H12 b3 hA => qe (by rw [hle]) B3 H12 (b1.trans b3) hA⟩)
    · refine qe ?_ B1 H7 b1 hA
      by_cases z1 : z = "i"
      · rw [if_pos z1]
        rw [decide_eq_true z1, Bool.true_and] at hb1
        rw [if_neg (by rw [hb1]; decide)]
      · rw [if_neg z1]
        by_cases z2 : z = "s"
        · rw [if_pos z2]
          rw [decide_eq_true z2, Bool.true_and] at hb2
          rw [if_neg (by rw [hb2]; decide)]
        · rw [if_neg z2]
          by_cases z3 : z = "t"
          · rw [if_pos z3]
            rw [decide_eq_true z3, Bool.true_and] at hb3
            by_cases hN : isN b = true
            · rw [if_pos hN]
              rw [hN, Bool.true_and] at hb3
              have : lv = 0 := by have := of_decide_eq_false hb3; omega
              subst this
              rfl
            · rw [if_neg hN]
          · rw [if_neg z3]
theorem ok_items {f f_w C_BadWords : Addr} {fd fd_w : FuncData} (lv n : Nat) (D__take_items : Df K mg "_take_items" s__take_items ["words", "at", "count", "levels"] f fd) (D__take_within : Df K mg "_take_within" s__take_within ["words", "at", "levels"] f_w fd_w) (G__take_within : FnOk P w K mg base (L2.CX P w) n f_w fd_w ["words", "at", "levels"] (spTk K C_BadWords lv)) (T : Glo mg) : FnOk P w K mg base (L2.CX P w) (n + 1) f fd ["words", "at", "count", "levels"] (spIt K C_BadWords lv) := by
  refine D__take_items.F.okX sc__take_items (fun vs H Q E h => ?_) (fun cdv A outer s H vs Q E hr h => ?_)
  · obtain ⟨w, i, c, ds, B, F, rfl, _⟩ := h
    rfl
  · obtain ⟨wa, i, c, ds, B, Fr, rfl, hA, hl, hok, hi0, q, qe⟩ := h
    refine ⟨_, (pss_cons (ps_set (i := 4) sc__take_items.nd rfl (.inl rfl) (pe_lst pa_nil))
  (pss_cons (ps_set (i := 5) sc__take_items.nd rfl (.inl rfl) (pv 1))
  (pss_cons (ps_while (passes_of rfl) (pt_cmpR op_lt (pe_callB call_len_seq (by rfl) T.len PySem.boot_len (pa_cons (pv 4) pa_nil)) (pv 2) (nomark _))
  (pss_cons (ps_asg (pe_callS G__take_within (hr.mono (by omega)) (by rfl) D__take_within.g D__take_within.F.kp D__take_within.b (fun σ => passAt (takes_of rfl rfl rfl rfl) σ) (pa_cons (pv 0) (pa_cons (pv 5) (pa_cons (pv 3) pa_nil)))) (pg_tup (by rfl) (pgs_cons (pg_name (i := 6) sc__take_items.nd rfl (.inl rfl)) (pgs_cons (pg_name (i := 5) sc__take_items.nd rfl (.inl rfl)) pgs_nil))))
  (pss_one (ps_expr (pe_bm PySem.F.plainAttrs_list PySem.F.slot_list_append PySem.F.type_list_append mt_append (pv 4) (pa_cons (pv 6) pa_nil))))))
  (pss_one (ps_ret (pe_tup (pa_cons (pe_tupleOf (by rfl) T.tuple (pv 4)) (pa_cons (pv 5) pa_nil)))))))), ?_⟩
    refine qm_nil (K := K) (ta := tNil) hA fun pi H1 hA => ?_
    refine qe_asg hA (ev_var rfl) fun H2 hA => ?_
    refine q_while (fun m σ' H' => ∃ (l0 : List PyData) (e0 : Int) (B' : Hp) (y6 : Option V), m = c - l0.length ∧ σ' = [some (.ref wa), some (.int i), some (.int (c : Int)), some (.int (lv : Int)), some (.ref pi), some (.int e0), y6] ∧ Ex B B' ∧ At B' (LstM K pi l0 :: LstM K wa ds :: Fr) H' ∧ l0.length ≤ c ∧ (takeN (takeD ds lv) c i = match takeN (takeD ds lv) (c - l0.length) e0 with | some (l, e) => some (l0 ++ l, e) | none => none) ∧ i + 2 * l0.length ≤ e0 ∧ (l0 = [] ∨ e0 ≤ (ds.length : Int))) c ⟨[], i, B, none, rfl, rfl, Ex.refl B, hA, Nat.zero_le _, by
      show takeN (takeD ds lv) c i = match takeN (takeD ds lv) c i with | some (l, e) => some (l, e) | none => none
      cases takeN (takeD ds lv) c i with
      | none => rfl
      | some p => rfl, by show i + 2 * ((0 : Nat) : Int) ≤ i; omega, .inl rfl⟩ (fun m σ' H' hw => ?_)
    obtain ⟨l0, e0, B', y6, rfl, rfl, b1, hA, hlc, htk, hge, hle⟩ := hw
    have hl0 : 2 * l0.length ≤ ds.length := by
      rcases hle with h | h
      · rw [h]; exact Nat.zero_le _
      · omega
    refine ⟨decide ((l0.length : Int) < (c : Int)), et_test (ev_op (ev_lenM (K := K) 0 rfl hA (ev_var rfl)) (ev_var rfl) rv_I0), fun hb H3 e3 => ?_, fun hb H3 e3 => ?_⟩
    · have hb := of_decide_eq_true hb
      refine ⟨fun σ2 H2 => ∃ m', m' < c - l0.length ∧ ∃ (l0 : List PyData) (e0 : Int) (B' : Hp) (y6 : Option V), m' = c - l0.length ∧ σ2 = [some (.ref wa), some (.int i), some (.int (c : Int)), some (.int (lv : Int)), some (.ref pi), some (.int e0), y6] ∧ Ex B B' ∧ At B' (LstM K pi l0 :: LstM K wa ds :: Fr) H2 ∧ l0.length ≤ c ∧ (takeN (takeD ds lv) c i = match takeN (takeD ds lv) (c - l0.length) e0 with | some (l, e) => some (l0 ++ l, e) | none => none) ∧ i + 2 * l0.length ≤ e0 ∧ (l0 = [] ∨ e0 ≤ (ds.length : Int)), fun σ2 H2 h => h, ?_⟩
      obtain ⟨k, hk⟩ : ∃ k, c - l0.length = k + 1 := ⟨c - l0.length - 1, by omega⟩
      have hA := at_swap (at_ex hA e3)
      refine go_call (go_cons (ev_var rfl) fun H4 e4 => go_cons (ev_var rfl) fun H5 e5 => go_cons (ev_var rfl) fun H6 e6 => go_nil ⟨wa, e0, ds, B', _, rfl, at_ex hA (e4.trans (e5.trans e6)), hl, hok, fun d e hde v B2 H7 b2 hv hA => g_two hv (at_base hA) fun v1 v2 h1 h2 => ?_, fun hde B2 H7 b2 hA => ?_⟩)
      · cases h2
        obtain ⟨g0, g1, g2⟩ := takeD_bd ds lv e0 d e hde
        have hA := at_swap hA
        refine sm_app (K := K) (ds := l0) (d := d) 0 rfl hA (fun _ => ev_var rfl) (wv_var rfl h1) (by omega) fun B3 H8 b3 hA => ?_
        refine ⟨k, by omega, l0 ++ [d], e, B3, _, by rw [List.length_append]; show k = c - (l0.length + 1); omega, rfl, b1.trans (b2.trans b3), hA, by rw [List.length_append]; show l0.length + 1 ≤ c; omega, ?_, by rw [List.length_append]; show i + 2 * ((l0.length + 1 : Nat) : Int) ≤ e; omega, .inr g2⟩
        rw [htk, hk, show c - (l0 ++ [d]).length = k by rw [List.length_append]; show c - (l0.length + 1) = k; omega]
        show (match (match takeD ds lv e0 with | none => none | some (d, e) => match takeN (takeD ds lv) k e with | none => none | some (l, e2) => some (d :: l, e2)) with | some (l, e) => some (l0 ++ l, e) | none => none) = _
        rw [hde]
        show (match (match takeN (takeD ds lv) k e with | none => none | some (l, e2) => some (d :: l, e2)) with | some (l, e) => some (l0 ++ l, e) | none => none) = _
        cases takeN (takeD ds lv) k e with
        | none => rfl
        | some p =>
          obtain ⟨l, e2⟩ := p
          show some (l0 ++ (d :: l), e2) = some (l0 ++ [d] ++ l, e2)
          rw [List.append_assoc]
          rfl
      · refine qe ?_ B2 H7 (b1.trans b2) (at_drop (at_swap hA))
        rw [htk, hk]
        show (match (match takeD ds lv e0 with | none => none | some (d, e) => match takeN (takeD ds lv) k e with | none => none | some (l, e2) => some (d :: l, e2)) with | some (l, e) => some (l0 ++ l, e) | none => none) = _
        rw [hde]
    · have hb := of_decide_eq_false hb
      have hk : c - l0.length = 0 := by omega
      rw [hk] at htk
      have htk : takeN (takeD ds lv) c i = some (l0 ++ [], e0) := htk
      rw [List.append_nil] at htk
      refine sw_ret (at_ex hA e3) (wv_tup (wa_cons (wv_tupM (K := K) 0 rfl (fun _ _ _ _ => ev_var rfl)) (wa_cons (wv_int (wv_of fun _ _ _ _ => ev_var rfl)) wa_nil)) (by show 2 ≤ 100000; decide)) fun v B3 H4 b3 hA hv => q l0 e0 htk v B3 H4 (b1.trans b3) hv (at_drop hA)
theorem ok_twithin {f f_p f_t f_i f_n f_it C_BadWords Bx : Addr} {fd fd_p fd_t fd_i fd_n fd_it : FuncData} (D__take_within : Df K mg "_take_within" s__take_within ["words", "at", "levels"] f fd) (D__word_pair : Df K mg "_word_pair" s__word_pair ["words", "at"] f_p fd_p) (G__word_pair : FnOk P w K mg base (L2.CX P w) 1 f_p fd_p ["words", "at"] (spPair K C_BadWords))
    (D_is_text : Df K mg "is_text" s_is_text ["thing"] f_t fd_t) (G_is_text : FnOk P w K mg base CX0 2 f_t fd_t ["thing"] (spB K 12 isT)) (D_is_integer : Df K mg "is_integer" s_is_integer ["thing"] f_i fd_i) (G_is_integer : FnOk P w K mg base CX0 1 f_i fd_i ["thing"] (spB K 12 isI)) (D_is_number : Df K mg "is_number" s_is_number ["thing"] f_n fd_n) (G_is_number : FnOk P w K mg base CX0 2 f_n fd_n ["thing"] (spB K 12 isN))
    (D__take_items : Df K mg "_take_items" s__take_items ["words", "at", "count", "levels"] f_it fd_it) (E_BadWords : Err K mg "BadWords" C_BadWords Bx) (T : Glo mg) : ∀ lv : Nat, FnOk P w K mg base (L2.CX P w) (2 * lv + 3) f fd ["words", "at", "levels"] (spTk K C_BadWords lv)
  | 0 => ok_twkey 0 2 (fun _ _ _ _ => False) D__take_within D__word_pair G__word_pair D_is_text G_is_text D_is_integer G_is_integer D_is_number G_is_number D__take_items fn_false (fun m h => nomatch h) (by decide) E_BadWords T
  | lv + 1 => ok_twkey (lv + 1) (2 * lv + 3 + 1) _ D__take_within D__word_pair G__word_pair D_is_text G_is_text D_is_integer G_is_integer D_is_number G_is_number D__take_items (ok_items lv (2 * lv + 3) D__take_items D__take_within (ok_twithin D__take_within D__word_pair G__word_pair D_is_text G_is_text D_is_integer G_is_integer D_is_number G_is_number D__take_items E_BadWords T lv) T) (fun m h => by cases h; rfl) (by omega) E_BadWords T
def spTV (K : PySem.W.Frag) (CW : Addr) : Sp := fun vs H Q E => ∃ (w : Addr) (i : Int) (ds : List PyData) (B : Hp) (F : List MP), vs = [.ref w, .int i] ∧ At B (LstM K w ds :: F) H ∧ ds.length ≤ 50000 ∧ (∀ d ∈ ds, Okd 12 d) ∧ (∀ d e, takeD ds 12 i = some (d, e) → ∀ v B1 H1, Ex B B1 → Dp K B1 v (.tuple [d, .int e]) → At B1 (LstM K w ds :: F) H1 → Q v H1) ∧ (takeD ds 12 i = none → ∀ B1 H1, Ex B B1 → At B1 (LstM K w ds :: F) H1 → E (.ref CW) none H1)
theorem ok_take {f f_w C_BadWords : Addr} {fd fd_w : FuncData} {tD : Tok} (F : Fun K "take_value" "take_value" s_take_value f fd) (D__take_within : Df K mg "_take_within" s__take_within ["words", "at", "levels"] f_w fd_w) (G__take_within : FnOk P w K mg base (L2.CX P w) 27 f_w fd_w ["words", "at", "levels"] (spTk K C_BadWords 12)) (c_DEPTH_MOST : mg "DEPTH_MOST" = some (.int 12 tD)) (T : Glo mg) : FnOk P w K mg base (L2.CX P w) 28 f fd ["words", "at"] (spTV K C_BadWords) := by
  refine F.okX sc_take_value (fun vs H Q E h => ?_) (fun cdv A outer s H vs Q E hr h => ?_)
  · obtain ⟨w, i, ds, B, F, rfl, _⟩ := h
    rfl
  · obtain ⟨wa, i, ds, B, Fr, rfl, hA, hl, hok, q, qe⟩ := h
    refine ⟨_, (pss_one (ps_ret (pe_callS G__take_within (hr.mono (by decide)) (by rfl) D__take_within.g D__take_within.F.kp D__take_within.b (fun σ => passAt (takes_of rfl rfl rfl rfl) σ) (pa_cons (pv 0) (pa_cons (pv 1) (pa_cons (pe_glob (v := .int 12) rfl c_DEPTH_MOST ⟨_, rfl⟩) pa_nil)))))), ?_⟩
    exact go_call (go_cons (ev_var rfl) fun H8 e8 => go_cons (ev_var rfl) fun H9 e9 => go_cons ev_c fun H10 e10 => go_nil ⟨wa, i, ds, B, Fr, rfl, at_ex hA (e8.trans (e9.trans e10)), hl, hok, q, qe⟩)

/-! ### words of values -/
mutual
def wordsOf : PyData → List PyData
  | .tuple ds => .str "t" :: .int (ds.length : Int) :: wordsOfs ds
  | .str z => [.str "s", .str z]
  | d => [.str "i", d]
def wordsOfs : List PyData → List PyData
  | [] => []
  | d :: r => wordsOf d ++ wordsOfs r
end
mutual
def cntD : PyData → Nat
  | .tuple ds => 1 + cntDs ds
  | _ => 1
def cntDs : List PyData → Nat
  | [] => 0
  | d :: r => cntD d + cntDs r
end
theorem wordsOfs_app : ∀ (l r : List PyData), wordsOfs (l ++ r) = wordsOfs l ++ wordsOfs r
  | [], r => by simp [wordsOfs]
  | d :: l, r => by simp [wordsOfs, wordsOfs_app l r]
theorem cntDs_app : ∀ (l r : List PyData), cntDs (l ++ r) = cntDs l + cntDs r
  | [], r => by simp [cntDs]
  | d :: l, r => by simp [cntDs, cntDs_app l r, Nat.add_assoc]
theorem cntD_pos (d : PyData) : 1 ≤ cntD d := by
  cases d <;> simp [cntD]
theorem cntDs_len : ∀ l : List PyData, l.length ≤ cntDs l
  | [] => by simp [cntDs]
  | d :: l => by
    have h1 := cntDs_len l
    have h2 := cntD_pos d
    simp only [cntDs, List.length_cons]
    omega
theorem cntDs_rev : ∀ l : List PyData, cntDs l.reverse = cntDs l
  | [] => rfl
  | d :: l => by
    rw [List.reverse_cons, cntDs_app, cntDs_rev l]
    simp only [cntDs]
    omega
theorem plain_of {d : PyData} (h : isV d = true) (ht : isTup d = false) : isP d = true := by rw [← isV_not ht]; exact h
mutual
theorem dxV_dp {K : PySem.W.Frag} {H : Hp} : ∀ (d : PyData) (v : V), Dx K H v d → isV d = true → Dp K H v d
  | .none, _, h, _ => by cases h; exact .non
  | .bool b, _, h, _ => by cases h; exact .bl b
  | .int i, _, h, _ => by cases h; exact .int i
  | .str x, _, h, _ => by cases h; exact .str x
  | .list ds, _, h, c => by simp [isV, isP, isI, isT] at c
  | .tuple ds, _, h, c => by
    cases h with
    | tup hs ha => exact .tup hs (dxVs_dpa ds _ ha c)
  | .dict _, _, _, c => by simp [isV, isP, isI, isT] at c
theorem dxVs_dpa {K : PySem.W.Frag} {H : Hp} : ∀ (ds : List PyData) (vs : List V), DxAll K H vs ds → isVs ds = true → DpAll K H vs ds
  | [], _, h, _ => by cases h; exact .nil
  | d :: ds, _, h, c => by
    have c' := Bool.and_eq_true_iff.mp (show (isV d && isVs ds) = true from c)
    cases h with
    | cons h1 h2 => exact .cons (dxV_dp d _ h1 c'.1) (dxVs_dpa ds _ h2 c'.2)
end
theorem dpa_snoc : ∀ {K : PySem.W.Frag} {H : Hp} {xs : List V} {es : List PyData} {e : PyData}, DpAll K H xs (es ++ [e]) → ∃ ys y, xs = ys ++ [y] ∧ DpAll K H ys es ∧ Dp K H y e
  | _, _, _, [], e, h => by
    cases h with
    | cons h1 h2 =>
      cases h2
      exact ⟨[], _, rfl, .nil, h1⟩
  | _, _, _, d :: es, e, h => by
    cases h with
    | cons h1 h2 =>
      obtain ⟨ys, y, rfl, h3, h4⟩ := dpa_snoc h2
      exact ⟨_ :: ys, y, rfl, .cons h1 h3, h4⟩
theorem dpa_rev : ∀ {K : PySem.W.Frag} {H : Hp} {xs : List V} {es : List PyData}, DpAll K H xs es → DpAll K H xs.reverse es.reverse
  | _, _, _, _, .nil => .nil
  | _, _, _, _, .cons h1 h2 => by
    rw [List.reverse_cons, List.reverse_cons]
    exact dpa_app (dpa_rev h2) (dpa_one h1)
theorem qm_pop {σ : L2.St} {B H : Hp} {l : List MP} {D : Ends} {tz : TS} {ta : TE} {a : Addr} {es : List PyData} {e : PyData} {i : Nat} (n : Nat) (hk : l[n]? = some (LstM K a (es ++ [e]))) (hA : At B l H) (ha : Ev ta σ H (.ref a)) (c : ∀ y H1, Dp K B y e → At B (l.set n (LstM K a es)) H1 → tz D (σ.set i (some y)) H1) : tSeq (tAsg (tBM0 K "list" rPop ta) (gName i)) tz D σ H :=
  ha H (Ex.refl H) _ fun H1 e1 => by
    have hA1 := at_ex hA e1
    obtain ⟨xs, hd, hA2⟩ := at_openL n hk hA1
    obtain ⟨ys, y, rfl, h3, h4⟩ := dpa_snoc hd
    have hn : n < l.length := (List.getElem?_eq_some_iff.mp hk).1
    have hg : (l.set n (Pt a (.lst (ys ++ [y]))))[n]? = some (Pt a (.lst (ys ++ [y]))) := by rw [List.getElem?_set_self hn]
    have hH := at_get n hg hA2
    refine ⟨.inl ⟨rfl, _, sq_of hH⟩, a, ys ++ [y], y, rfl, rfl, hH, by rw [List.length_append, List.length_singleton, Nat.add_sub_cancel, List.getElem?_append_right (Nat.le_refl _), Nat.sub_self]; rfl, ?_⟩
    rw [List.dropLast_concat]
    have hA3 := at_upd (u := .lst ys) n hg hA2
    have hA4 := at_closeL (K := K) (xs := ys) n (by rw [List.set_set, List.getElem?_set_self hn]) h3 hA3
    rw [List.set_set, List.set_set] at hA4
    exact c y _ h4 hA4
/-- l.extend(a new list of data), l of data -/
theorem qm_extL {σ : L2.St} {B H : Hp} {l : List MP} {D : Ends} {tz : TS} {ta te : TE} {a : Addr} {ds es : List PyData} (n : Nat) (hk : l[n]? = some (LstM K a ds)) (hA : At B l H) (ha : ∀ H1, Ev ta σ H1 (.ref a)) (h : Wl K te σ B l es) (hz : ds.length + es.length ≤ 100000) (c : ∀ B1 H1, Ex B B1 → At B1 (l.set n (LstM K a (ds ++ es))) H1 → tz D σ H1) : tSeq (tDrop (tBM K "list" rExtend ta (tCons te tNil))) tz D σ H :=
  ha H H (Ex.refl H) _ fun H1 e1 => by
    have hA1 := at_ex hA e1
    obtain ⟨xs, h1, h2⟩ := lst_at n hk hA1
    refine ⟨.inl ⟨rfl, xs, sq_of h2⟩, h B H1 (Ex.refl B) hA1 _ fun p zs B2 H2 b2 hA2 hv => ?_⟩
    have hn : n < l.length := (List.getElem?_eq_some_iff.mp hk).1
    obtain ⟨ys, hd, hA3⟩ := at_openL (K := K) (a := a) (ds := ds) (n + 1) (by simpa using hk) hA2
    have hg : ((Pt p (.lst zs) :: l).set (n + 1) (Pt a (.lst ys)))[n + 1]? = some (Pt a (.lst ys)) := by
      rw [List.set_cons_succ, List.getElem?_cons_succ, List.getElem?_set_self hn]
    have hH := at_get (n + 1) hg hA3
    refine ⟨a, p, ys, zs, rfl, rfl, hH, at_get 0 (by rw [List.set_cons_succ]; rfl) hA3, by rw [dpa_len hd, dpa_len hv]; exact sz_of hz, c B2 _ b2 ?_⟩
    have hA4 := at_upd (u := .lst (ys ++ zs)) (n + 1) hg hA3
    have hA5 := at_closeL (K := K) (xs := ys ++ zs) (n + 1) (by rw [List.set_set, List.set_cons_succ, List.getElem?_cons_succ, List.getElem?_set_self hn]) (dpa_app hd hv) hA4
    rw [List.set_set, List.set_set, List.set_cons_succ] at hA5
    exact at_drop hA5
/-- l.extend(t[::-1]), all of data -/
theorem sm_extR {σ : L2.St} {B H : Hp} {l : List MP} {D : Ends} {ta tt : TE} {a : Addr} {v : V} {ds es : List PyData} (n : Nat) (hk : l[n]? = some (LstM K a ds)) (hA : At B l H) (ha : ∀ H1, Ev ta σ H1 (.ref a)) (ht : ∀ H1, Ev tt σ H1 v) (hv : Dp K B v (.tuple es)) (hz : ds.length + es.length ≤ 100000) (c : ∀ H1, At B (l.set n (LstM K a (ds ++ es.reverse))) H1 → D.nx σ H1) : tDrop (tBM K "list" (rExtT K) ta (tCons (tRevT K tt) tNil)) D σ H :=
  ha H H (Ex.refl H) _ fun H1 e1 => by
    have hA1 := at_ex hA e1
    obtain ⟨xs, h1, h2⟩ := lst_at n hk hA1
    refine ⟨.inl ⟨rfl, xs, sq_of h2⟩, ht H1 H1 (Ex.refl H1) _ fun H2 e2 => ?_⟩
    cases hv with
    | @tup b ys _ hs hd =>
      have hA2 := at_ex hA1 e2
      refine ⟨b, ys, rfl, ex_t (at_base hA2) hs, fun p hp => ?_⟩
      have hn : n < l.length := (List.getElem?_eq_some_iff.mp hk).1
      have hA3 := at_new (o := .tup ys.reverse) hA2 hp (Ex.new hp) upd_same
      obtain ⟨zs, hd2, hA4⟩ := at_openL (K := K) (a := a) (ds := ds) (n + 1) (by simpa using hk) hA3
      have hg : ((Pt p (.tup ys.reverse) :: l).set (n + 1) (Pt a (.lst zs)))[n + 1]? = some (Pt a (.lst zs)) := by
        rw [List.set_cons_succ, List.getElem?_cons_succ, List.getElem?_set_self hn]
      have hH := at_get (n + 1) hg hA4
      refine ⟨a, p, zs, ys.reverse, rfl, rfl, hH, st_of (at_get 0 (by rw [List.set_cons_succ]; rfl) hA4), by rw [List.length_reverse, dpa_len hd2, dpa_len hd]; exact sz_of hz, c _ ?_⟩
      have hA5 := at_upd (u := .lst (zs ++ ys.reverse)) (n + 1) hg hA4
      have hA6 := at_closeL (K := K) (xs := zs ++ ys.reverse) (n + 1) (by rw [List.set_set, List.set_cons_succ, List.getElem?_cons_succ, List.getElem?_set_self hn]) (dpa_app hd2 (dpa_rev hd)) hA5
      rw [List.set_set, List.set_set, List.set_cons_succ] at hA6
      exact at_drop hA6
theorem et_truL {σ : L2.St} {B H : Hp} {l : List MP} {ta : TE} {a : Addr} {ds : List PyData} (n : Nat) (hk : l[n]? = some (LstM K a ds)) (hA : At B l H) (ha : Ev ta σ H (.ref a)) : EvT (fun σ H Q => ta σ H fun x H' => ∃ k, TruV K x H' k ∧ Q k H') σ H (!ds.isEmpty) := fun H1 e Q q => ha H1 e _ fun H2 e2 => by
  obtain ⟨xs, h1, h2⟩ := lst_at n hk (at_ex hA (e.trans e2))
  refine ⟨!xs.isEmpty, .inl ⟨xs, sq_of h2, rfl⟩, ?_⟩
  have : xs.isEmpty = ds.isEmpty := by
    cases h1 <;> rfl
  rw [this]
  exact q H2 e2

/-! ### words amid words -/
mutual
def depD : PyData → Nat
  | .tuple ds => depDs ds + 1
  | _ => 0
def depDs : List PyData → Nat
  | [] => 0
  | d :: r => max (depD d) (depDs r)
end
theorem depDs_le : ∀ {ds : List PyData} {n : Nat}, depDs ds ≤ n ↔ ∀ d ∈ ds, depD d ≤ n
  | [], n => ⟨fun _ _ h => absurd h List.not_mem_nil, fun _ => Nat.zero_le _⟩
  | d :: r, n => by
    show max (depD d) (depDs r) ≤ n ↔ _
    rw [Nat.max_le, depDs_le (ds := r)]
    constructor
    · intro h e he
      rcases List.mem_cons.mp he with rfl | he
      · exact h.1
      · exact h.2 e he
    · intro h
      exact ⟨h d List.mem_cons_self, fun e he => h e (List.mem_cons_of_mem _ he)⟩
mutual
theorem words_len : ∀ d : PyData, (wordsOf d).length = 2 * cntD d
  | .tuple ds => by
    simp only [wordsOf, cntD, List.length_cons]
    rw [wordss_len ds]
    omega
  | .str _ => rfl
  | .int _ => rfl
  | .none => rfl
  | .bool _ => rfl
  | .list _ => rfl
  | .dict _ => rfl
theorem wordss_len : ∀ ds : List PyData, (wordsOfs ds).length = 2 * cntDs ds
  | [] => rfl
  | d :: r => by
    simp only [wordsOfs, cntDs, List.length_append]
    rw [words_len d, wordss_len r]
    omega
end
theorem pairD_at (pre : List PyData) (a b : PyData) (post : List PyData) : pairD (pre ++ a :: b :: post) (pre.length : Int) = some (a, b) := by
  unfold pairD
  rw [if_neg (by omega), Int.toNat_natCast]
  have e1 : (pre ++ a :: b :: post)[pre.length]? = some a := by simp
  have e2 : (pre ++ a :: b :: post)[pre.length + 1]? = some b := by
    rw [List.getElem?_append_right (by omega), show pre.length + 1 - pre.length = 1 by omega]
    rfl
  rw [e1, e2]
mutual
theorem takeD_words : ∀ (d : PyData) (lv : Nat) (pre post : List PyData), isV d = true → depD d ≤ lv → (pre ++ (wordsOf d ++ post)).length ≤ 50000 → takeD (pre ++ (wordsOf d ++ post)) lv (pre.length : Int) = some (d, ((pre.length + (wordsOf d).length : Nat) : Int))
  | .tuple ds, 0, pre, post, _, h, _ => by
    have h : depDs ds + 1 ≤ 0 := h
    omega
  | .tuple ds, lv + 1, pre, post, hv, h, hl => by
    have h : depDs ds + 1 ≤ lv + 1 := h
    have hL : pre ++ (wordsOf (.tuple ds) ++ post) = pre ++ .str "t" :: .int (ds.length : Int) :: (wordsOfs ds ++ post) := rfl
    rw [takeD_eq]
    rw [hL] at hl ⊢
    have hdl : ds.length ≤ 50000 := by
      rw [List.length_append, List.length_cons, List.length_cons, List.length_append, wordss_len] at hl
      have := cntDs_len ds
      omega
    rw [takeB_str (pairD_at _ _ _ _), if_neg (by decide), if_neg (by decide), if_pos rfl]
    have hN : isN (.int (ds.length : Int)) = true := by
      show ((decide (-(10 ^ 18) ≤ (ds.length : Int)) && decide ((ds.length : Int) ≤ 10 ^ 18)) && decide (0 ≤ (ds.length : Int))) = true
      rw [decide_eq_true (by omega), decide_eq_true (by omega), decide_eq_true (by omega)]
      rfl
    rw [if_pos hN]
    show (match takeN (takeD _ lv) ((ds.length : Int)).toNat ((pre.length : Int) + 2) with | some (l, e) => some (PyData.tuple l, e) | none => none) = _
    have e3 : pre ++ PyData.str "t" :: .int (ds.length : Int) :: (wordsOfs ds ++ post) = (pre ++ [.str "t", .int (ds.length : Int)]) ++ (wordsOfs ds ++ post) := by simp
    have e4 : (pre.length : Int) + 2 = (((pre ++ [PyData.str "t", .int (ds.length : Int)]).length : Nat) : Int) := by simp
    rw [e3] at hl ⊢
    rw [Int.toNat_natCast, e4, takeN_words ds lv (pre ++ [PyData.str "t", .int (ds.length : Int)]) post hv (by omega) hl]
    show some (PyData.tuple ds, _) = some (PyData.tuple ds, _)
    congr 2
    simp only [List.length_append, List.length_cons, List.length_nil, wordsOf]
    omega
  | .str z, lv, pre, post, hv, _, _ => by
    have ht : isT (.str z) = true := by simpa [isV, isP, isI] using hv
    have hL : pre ++ (wordsOf (.str z) ++ post) = pre ++ .str "s" :: .str z :: post := rfl
    rw [takeD_eq, hL, takeB_str (pairD_at _ _ _ _), if_neg (by decide), if_pos rfl, if_pos ht]
    rfl
  | .int i, lv, pre, post, hv, _, _ => by
    have ht : isI (.int i) = true := by simpa [isV, isP, isT] using hv
    have hL : pre ++ (wordsOf (.int i) ++ post) = pre ++ .str "i" :: .int i :: post := rfl
    rw [takeD_eq, hL, takeB_str (pairD_at _ _ _ _), if_pos rfl, if_pos ht]
    rfl
  | .none, _, _, _, hv, _, _ => by simp [isV, isP, isI, isT] at hv
  | .bool _, _, _, _, hv, _, _ => by simp [isV, isP, isI, isT] at hv
  | .list _, _, _, _, hv, _, _ => by simp [isV, isP, isI, isT] at hv
  | .dict _, _, _, _, hv, _, _ => by simp [isV, isP, isI, isT] at hv
theorem takeN_words : ∀ (ds : List PyData) (lv : Nat) (pre post : List PyData), isVs ds = true → depDs ds ≤ lv → (pre ++ (wordsOfs ds ++ post)).length ≤ 50000 → takeN (takeD (pre ++ (wordsOfs ds ++ post)) lv) ds.length (pre.length : Int) = some (ds, ((pre.length + (wordsOfs ds).length : Nat) : Int))
  | [], lv, pre, post, _, _, _ => rfl
  | d :: r, lv, pre, post, hv, h, hl => by
    have hv := Bool.and_eq_true_iff.mp (show (isV d && isVs r) = true from hv)
    have h := Nat.max_le.mp (show max (depD d) (depDs r) ≤ lv from h)
    have e1 : pre ++ (wordsOfs (d :: r) ++ post) = pre ++ (wordsOf d ++ (wordsOfs r ++ post)) := by simp [wordsOfs]
    have e2 : pre ++ (wordsOf d ++ (wordsOfs r ++ post)) = (pre ++ wordsOf d) ++ (wordsOfs r ++ post) := by simp
    rw [e1] at hl ⊢
    rw [List.length_cons]
    unfold takeN
    rw [takeD_words d lv pre (wordsOfs r ++ post) hv.1 h.1 hl]
    dsimp only
    rw [e2] at hl ⊢
    have e3 : ((pre.length + (wordsOf d).length : Nat) : Int) = (((pre ++ wordsOf d).length : Nat) : Int) := by rw [List.length_append]
    rw [e3, takeN_words r lv (pre ++ wordsOf d) post hv.2 h.2 hl]
    dsimp only
    congr 2
    simp only [List.length_append, wordsOfs]
    omega
end

/-! ### lists of anything -/
def DxmM (K : PySem.W.Frag) (vs : List V) (ds : List PyData) (P : MP) : MP := ⟨fun B H => DxAll K B vs ds ∧ P.p B H, fun _ _ _ _ b e ⟨a, h⟩ => ⟨dxa_mono b _ _ a, P.m _ _ _ _ b e h⟩⟩
def LxM (K : PySem.W.Frag) (a : Addr) (ds : List PyData) : MP := ExM fun xs => DxmM K xs ds (Pt a (.lst xs))
theorem at_dxm {B H : Hp} {l : List MP} {P : MP} {vs : List V} {ds : List PyData} (h : At B (DxmM K vs ds P :: l) H) : DxAll K B vs ds ∧ At B (P :: l) H := by
  obtain ⟨S, h1, T, ⟨x, h2⟩, h3⟩ := h
  exact ⟨x, S, h1, T, h2, h3⟩
theorem at_dxm' {B H : Hp} {l : List MP} {P : MP} {vs : List V} {ds : List PyData} (x : DxAll K B vs ds) (h : At B (P :: l) H) : At B (DxmM K vs ds P :: l) H := by
  obtain ⟨S, h1, T, h2, h3⟩ := h
  exact ⟨S, h1, T, ⟨x, h2⟩, h3⟩
theorem lx_open {B H : Hp} {l : List MP} {a : Addr} {ds : List PyData} (h : At B (LxM K a ds :: l) H) : ∃ xs, DxAll K B xs ds ∧ At B (Pt a (.lst xs) :: l) H := by
  obtain ⟨xs, h⟩ := at_exm h
  obtain ⟨h1, h⟩ := at_dxm h
  exact ⟨xs, h1, h⟩
theorem lx_close {B H : Hp} {l : List MP} {a : Addr} {xs : List V} {ds : List PyData} (hd : DxAll K B xs ds) (h : At B (Pt a (.lst xs) :: l) H) : At B (LxM K a ds :: l) H := at_exm' xs (at_dxm' hd h)
theorem dxa_dat : ∀ {H : Hp} {xs : List V} {ds : List PyData}, DpAll K H xs ds → DxAll K H xs ds
  | _, _, _, .nil => .nil
  | _, _, _, .cons h1 h2 => .cons (dp_dx _ _ h1) (dxa_dat h2)
theorem dxa_set : ∀ {H : Hp} {xs : List V} {ds : List PyData} {v : V} {d : PyData} (i : Nat), DxAll K H xs ds → Dx K H v d → DxAll K H (xs.set i v) (ds.set i d)
  | _, _, _, _, _, _, .nil, _ => .nil
  | _, _, _, _, _, 0, .cons h1 h2, h => .cons h h2
  | _, _, _, _, _, i + 1, .cons h1 h2, h => .cons h1 (dxa_set i h2 h)
theorem dxa_appD : ∀ {H : Hp} {xs ys : List V} {ds es : List PyData}, DxAll K H xs ds → DxAll K H ys es → DxAll K H (xs ++ ys) (ds ++ es)
  | _, _, _, _, _, .nil, h => h
  | _, _, _, _, _, .cons h1 h2, h => .cons h1 (dxa_appD h2 h)
def rG (K : PySem.W.Frag) (φ : PyData → Prop) : Rr := ⟨fun v B => ∃ d, Dp K B v d ∧ φ d, fun e ⟨d, h, k⟩ => ⟨d, dp_mono e _ _ h, k⟩⟩
/-- [e for j in range(n)], e data of a kind -/
theorem wl_lcG {σ : L2.St} {B : Hp} {l : List MP} {te tn : TE} {t : TT} {j : Nat} {φ : PyData → Prop} {n : Nat} {vs : List Nat} (hm : n ≤ 40000) (h : ∀ H1, Ev tn σ H1 (.int (n : Int))) (hw : ∀ x, wipe ((wipe σ vs).set j (some x)) vs = wipe σ vs)
    (ht : ∀ (i : Nat) H, EvT t ((wipe σ vs).set j (some (.int (i : Int)))) H true) (he : ∀ (i : Nat) p acc, Wv te ((wipe σ vs).set j (some (.int (i : Int)))) B (Pt p (.lst acc) :: l) (rG K φ)) :
    ∀ B1 H, Ex B B1 → At B1 l H → ∀ Q : VK, (∀ p xs ds B2 H2, Ex B1 B2 → At B2 (Pt p (.lst xs) :: l) H2 → DpAll K B2 xs ds → (∀ d ∈ ds, φ d) → ds.length = n → Q (.ref p) H2) → tLc (iRng1 (tCons tn tNil)) (gName j) t te vs σ H Q := fun B1 H0 e0 hA Q q => h H0 H0 (Ex.refl H0) _ fun H1 e1 => by
  refine ⟨(n : Int), rfl, by omega, by omega, fun Dl hD => ?_⟩
  refine lc_range (lo := 0) (n := n) (fun i H' => ∃ B' acc ds, Ex B1 B' ∧ At B' (Pt Dl (.lst acc) :: l) H' ∧ DpAll K B' acc ds ∧ (∀ d ∈ ds, φ d) ∧ ds.length = i) ⟨B1, [], [], Ex.refl B1, at_new (at_ex hA e1) hD (Ex.new hD) upd_same, .nil, fun x hx => absurd hx List.not_mem_nil, rfl⟩ (fun i H' hi p => ?_) (fun H' p => ?_)
  · have e0' : (0 : Int) + (i : Int) = (i : Int) := Int.zero_add _
    rw [e0']
    obtain ⟨B', acc, ds, b1, hA', ha, hp, hl⟩ := p
    refine ⟨hw _, ht i H' H' (Ex.refl H') _ fun H3 e3 => ?_⟩
    rw [if_pos rfl]
    refine he i Dl acc B' H3 (e0.trans b1) (at_ex hA' e3) _ fun y B4 H4 e4 hA4 ⟨d, hy, hd⟩ => ⟨acc, at_get 0 rfl hA4, sz_lt (by rw [dpa_len ha]; omega), B4, acc ++ [y], ds ++ [d], b1.trans e4, at_upd (u := .lst (acc ++ [y])) 0 rfl hA4, dpa_app (dpa_mono e4 _ _ ha) (dpa_one hy), fun x hx => ?_, by rw [List.length_append, hl]; rfl⟩
    rcases List.mem_append.mp hx with hx | hx
    · exact hp x hx
    · rw [List.mem_singleton.mp hx]
      exact hd
  · obtain ⟨B', acc, ds, b1, hA', ha, hp, hl⟩ := p
    exact q Dl acc ds B' H' b1 hA' ha hp hl
/-! ### the law's own words -/
def mkA (d : PyData) : Str := if isStr d = true then "s" else "i"
def spLW (K : PySem.W.Frag) : Sp := fun vs H Q _ => ∃ (v : V) (d : PyData) (B : Hp) (F : List MP), vs = [v] ∧ At B F H ∧ Dx K B v d ∧ ∀ p H1, At B (Pt p (.lst [.str (mkA d), v]) :: F) H1 → Q (.ref p) H1
theorem ok_lwords {f : Addr} {fd : FuncData} (F : Fun K "_law_words" "_law_words" s__law_words f fd) (T : Glo mg) : FnOk P w K mg base CX0 1 f fd ["atom"] (spLW K) := by
  refine F.ok sc__law_words (fun vs H Q E h => ?_) (fun cdv A outer s H vs Q E hr h => ?_)
  · obtain ⟨v, d, B, F, rfl, _⟩ := h
    rfl
  · obtain ⟨v, d, B, Fr, rfl, hA, hd, q⟩ := h
    refine ⟨_, (pss_cons (ps_if (pt_val (pe_callB call_isi (by rfl) T.isinstance (by decide +kernel) (pa_cons (pv 0) (pa_cons (pe_bltn (v := .ty "str") (u := .type "str") (by rfl) T.str (by decide +kernel) rfl) pa_nil))))
  (pss_one (ps_ret (pe_lst (pa_cons pe_str (pa_cons (pv 0) pa_nil)))))
  pss_nil)
  (pss_one (ps_ret (pe_lst (pa_cons pe_str (pa_cons (pv 0) pa_nil)))))), ?_⟩
    unfold mkA at q
    refine qe_when (b := isStr d) hA (et_B (ev_isiX (K := K) (ex_var rfl (dx_mono (at_base hA) _ _ hd)) (kit_str d))) (fun hb H1 hA => ?_) (fun hb H1 hA => ?_)
    · rw [if_pos hb] at q
      exact re_lst hA (el_lst (ea_cons ev_c (ea_cons (ev_var rfl) ea_nil)) (by show 2 ≤ 100000; decide)) q
    · rw [if_neg (by rw [hb]; decide)] at q
      exact re_lst hA (el_lst (ea_cons ev_c (ea_cons (ev_var rfl) ea_nil)) (by show 2 ≤ 100000; decide)) q

theorem wv_good {σ : L2.St} {B : Hp} {l : List MP} {s : Addr} {E : XK} {i : Nat} (j : Nat) (hj : l[j]? = some (PlM s)) (hs : σ[i]? = some (some (.ref s))) : Wv (tCall (spGood K) [] E (tCons (tVar i) tNil)) σ B l (rG K fun d => isP d = true) := fun B1 H e1 hA Q q =>
  go_call (go_cons (ev_var hs) fun H1 e2 => go_nil ⟨s, B1, l.eraseIdx j, rfl, at_pull j hj (at_ex hA e2), fun v d B2 H2 b2 hv hd hA2 => q _ B2 H2 b2 (by
    have := at_put j hj hA2
    rwa [List.set_getElem?_self' hj] at this) ⟨d, hv, hd⟩⟩)
def lwD (d : PyData) : List PyData := [.str (mkA d), d]
theorem lwD_words {d : PyData} (h : isP d = true) : wordsOf d = lwD d := by
  rcases isP_cases h with ⟨i, rfl, _⟩ | ⟨z, rfl, _⟩ <;> rfl

/-! ### rows of a tree -/
def RowB (K : PySem.W.Frag) (B : Hp) (x : V) (d : PyData) : Prop := ∃ (a w : Addr) (v0 : V) (ws : List V), x = .ref a ∧ B a = some (.lst [v0, .ref w, .int (depD d : Nat)]) ∧ B w = some (.lst ws) ∧ DpAll K B ws (wordsOf d) ∧ Dp K B v0 d
theorem RowB.mono {B B' : Hp} {x : V} {d : PyData} (e : Ex B B') (h : RowB K B x d) : RowB K B' x d := by
  obtain ⟨a, w, v0, ws, rfl, h1, h2, h3, h4⟩ := h
  exact ⟨a, w, v0, ws, rfl, e _ _ h1, e _ _ h2, dpa_mono e _ _ h3, dp_mono e _ _ h4⟩
def rRow (K : PySem.W.Frag) (d : PyData) : Rr := ⟨fun v B => RowB K B v d, fun e h => h.mono e⟩
inductive RwA (K : PySem.W.Frag) (B : Hp) : List V → List PyData → Prop
  | nil : RwA K B [] []
  | cons {x : V} {d : PyData} {xs : List V} {ds : List PyData} : RowB K B x d → RwA K B xs ds → RwA K B (x :: xs) (d :: ds)
theorem RwA.mono {B B' : Hp} (e : Ex B B') : ∀ {xs : List V} {ds : List PyData}, RwA K B xs ds → RwA K B' xs ds
  | _, _, .nil => .nil
  | _, _, .cons h1 h2 => .cons (h1.mono e) (RwA.mono e h2)
theorem RwA.len {B : Hp} : ∀ {xs : List V} {ds : List PyData}, RwA K B xs ds → xs.length = ds.length
  | _, _, .nil => rfl
  | _, _, .cons _ h => by rw [List.length_cons, List.length_cons, h.len]
theorem RwA.app {B : Hp} : ∀ {xs ys : List V} {ds es : List PyData}, RwA K B xs ds → RwA K B ys es → RwA K B (xs ++ ys) (ds ++ es)
  | _, _, _, _, .nil, h => h
  | _, _, _, _, .cons h1 h2, h => .cons h1 (h2.app h)
theorem RwA.drop {B : Hp} : ∀ {xs : List V} {ds : List PyData} (n : Nat), RwA K B xs ds → RwA K B (xs.drop n) (ds.drop n)
  | _, _, 0, h => h
  | _, _, n + 1, .nil => .nil
  | _, _, n + 1, .cons _ h => h.drop n
theorem RwA.take {B : Hp} : ∀ {xs : List V} {ds : List PyData} (n : Nat), RwA K B xs ds → RwA K B (xs.take n) (ds.take n)
  | _, _, 0, _ => .nil
  | _, _, n + 1, .nil => .nil
  | _, _, n + 1, .cons h1 h => .cons h1 (h.take n)
theorem RwA.get {B : Hp} : ∀ {xs : List V} {ds : List PyData} {i : Nat} {x : V}, RwA K B xs ds → xs[i]? = some x → ∃ d, ds[i]? = some d ∧ RowB K B x d
  | _, _, 0, _, .cons h1 _, h => by
    cases h
    exact ⟨_, rfl, h1⟩
  | _, _, i + 1, _, .cons _ h2, h => h2.get (i := i) (by simpa using h)
/-- the values of rows -/
theorem RwA.vals {B : Hp} : ∀ {xs : List V} {ds : List PyData}, RwA K B xs ds → ∃ vs : List V, DpAll K B vs ds ∧ ∀ i x, xs[i]? = some x → ∃ a w d, x = .ref a ∧ B a = some (.lst [vs.getD i .non, .ref w, .int (depD d : Nat)]) ∧ ds[i]? = some d
  | _, _, .nil => ⟨[], .nil, fun i x h => by simp at h⟩
  | _, _, .cons h1 h2 => by
    obtain ⟨a, w, v0, ws, rfl, g1, g2, g3, g4⟩ := h1
    obtain ⟨vs, k1, k2⟩ := h2.vals
    refine ⟨v0 :: vs, .cons g4 k1, fun i x h => ?_⟩
    cases i with
    | zero =>
      cases h
      exact ⟨a, w, _, rfl, g1, rfl⟩
    | succ i => exact k2 i x (by simpa using h)
theorem deps_max : ∀ {ds : List PyData} {m : Int}, m ∈ (ds.map fun d => ((depD d : Nat) : Int)) ++ [0] → (∀ y ∈ (ds.map fun d => ((depD d : Nat) : Int)) ++ [0], y ≤ m) → m = (depDs ds : Nat)
  | ds, m, hm, hle => by
    have h0 : (0 : Int) ≤ m := hle 0 (List.mem_append.mpr (.inr (List.mem_singleton.mpr rfl)))
    have h1 : depDs ds ≤ m.toNat := depDs_le.mpr fun d hd => by
      have := hle _ (List.mem_append.mpr (.inl (List.mem_map.mpr ⟨d, hd, rfl⟩)))
      omega
    have h2 : m ≤ (depDs ds : Nat) := by
      rcases List.mem_append.mp hm with h | h
      · obtain ⟨d, hd, rfl⟩ := List.mem_map.mp h
        have := depDs_le.mp (Nat.le_refl (depDs ds)) d hd
        omega
      · rw [List.mem_singleton.mp h]
        omega
    omega
/-- max([row[2] for row in l] + [0]) -/
theorem ev_maxDeps {σ : L2.St} {B H : Hp} {l : List MP} {tl : TE} {t : TT} {j : Nat} {vs : List Nat} {a : Addr} {xs : List V} {ds : List PyData} (n : Nat) (hk : l[n]? = some (Pt a (.lst xs))) (hA : At B l H) (hR : RwA K B xs ds) (hz : xs.length ≤ 1000) (h : Ev tl σ H (.ref a)) (hw : ∀ x, wipe ((wipe σ vs).set j (some x)) vs = wipe σ vs)
    (ht : ∀ (x : V) H1, EvT t ((wipe σ vs).set j (some x)) H1 true) (hj : ∀ (x : V), ((wipe σ vs).set j (some x))[j]? = some (some x)) : Ev (tCB (rMax K) (tCons (tOp rCat (tLc (iList K tl) (gName j) t (tOp (rIxL K) (tVar j) (tC (.int 2))) vs) (tLst (tCons (tC (.int 0)) tNil))) tNil)) σ H (.int (depDs ds : Nat)) := fun H1 e1 Q q => by
  have hA1 := at_ex hA e1
  have hS := sq_of (K := K) (at_get n hk hA)
  have hl := hR.len
  obtain ⟨ws, k1, k2⟩ := hR.vals
  have hv : EvL (tLc (iList K tl) (gName j) t (tOp (rIxL K) (tVar j) (tC (.int 2))) vs) σ H (ds.map fun d => V.int ((depD d : Nat) : Int)) := by
    have e0 := given_eq ds PyData.none (fun _ => true) (fun d => V.int ((depD d : Nat) : Int))
    rw [List.filter_eq_self.mpr (fun _ _ => rfl)] at e0
    rw [← e0, ← hl]
    refine el_lcL (K := K) (fun _ => true) (fun i => V.int ((depD (ds.getD i .none) : Nat) : Int)) h hS (by omega) hw (fun i x H2 e2 hx => ht x H2) (fun i x H2 e2 hx _ => ?_)
    obtain ⟨b, w, d, rfl, g1, g2⟩ := k2 i x hx
    have : ds.getD i .none = d := by rw [List.getD_eq_getElem?_getD, g2]; rfl
    rw [this]
    exact ev_op (ev_var (hj _)) ev_c (rv_ixL (sq_of (e2 _ _ ((at_base hA) _ _ g1))) rfl)
  refine go_cons' (go_op (hv H1 e1 _ fun p H2 np e2 hp => (el_lst (ea_cons ev_c ea_nil) (by show 1 ≤ 100000; decide)) H2 (Ex.refl H2) _ fun p2 H3 np2 e3 hp2 => ⟨p, p2, _, _, rfl, rfl, e3 _ _ hp, hp2, by rw [List.length_map]; show ds.length + 1 ≤ sizeLine; exact sz_of (by omega), fun o ho => go_nil ?_⟩))
  refine ⟨o, (ds.map fun d => ((depD d : Nat) : Int)) ++ [0], rfl, sq_of (by rw [upd_same]; simp), by simp, fun m hm hle => ?_⟩
  rw [deps_max hm hle]
  exact q _ (e2.trans (e3.trans (Ex.new ho)))

theorem take_atD {α : Type} {l : List α} {i : Nat} {p : α} (h : l[i]? = some p) : l.take (i + 1) = l.take i ++ [p] := by
  rw [List.take_add_one, h]; rfl
def spTree (K : PySem.W.Frag) : Sp := fun vs H Q _ => ∃ (s : Addr) (n : Nat) (B : Hp) (F : List MP), vs = [.ref s, .int (n : Int)] ∧ At B (PlM s :: F) H ∧ n ≤ 100 ∧ ∀ r d B1 H1, Ex B B1 → RowB K B1 r d → isV d = true → depD d ≤ 12 → cntD d ≤ n + 1 → At B1 (PlM s :: F) H1 → Q r H1
theorem at_mid {B H : Hp} {P Q R : MP} {l : List MP} (h : At B (P :: Q :: R :: l) H) : At B (P :: R :: l) H := at_drop (at_swap h)
theorem ok_tree {f f_n f_g f_w : Addr} {fd fd_n fd_g fd_w : FuncData} (F : Fun K "_law_tree" "_law_tree" s__law_tree f fd) (D__law_next : Df K mg "_law_next" s__law_next ["pool", "many"] f_n fd_n) (G__law_next : FnOk P w K mg base CX0 1 f_n fd_n ["pool", "many"] spPN) (D__law_good : Df K mg "_law_good" s__law_good ["pool"] f_g fd_g) (G__law_good : FnOk P w K mg base CX0 3 f_g fd_g ["pool"] (spGood K))
    (D__law_words : Df K mg "_law_words" s__law_words ["atom"] f_w fd_w) (G__law_words : FnOk P w K mg base CX0 1 f_w fd_w ["atom"] (spLW K)) (T : Glo mg) : FnOk P w K mg base CX0 4 f fd ["pool", "steps"] (spTree K) := by
  refine F.ok sc__law_tree (fun vs H Q E h => ?_) (fun cdv A outer s H vs Q E hr h => ?_)
  · obtain ⟨s, n, B, F, rfl, _⟩ := h
    rfl
  · obtain ⟨s, n, B, Fr, rfl, hA, hn, q⟩ := h
    refine ⟨_, (pss_cons (ps_set (i := 2) sc__law_tree.nd rfl (.inl rfl) (pe_lst (pa_cons (pe_lst (pa_cons (pe_tup pa_nil) (pa_cons (pe_lst (pa_cons pe_str (pa_cons pe_int pa_nil))) (pa_cons pe_int pa_nil)))) pa_nil)))
  (pss_cons (ps_for PassesOwn.never rfl (pi_range1 (by rfl) T.range (pa_cons (pv 1) pa_nil)) (pg_name (i := 3) sc__law_tree.nd rfl (.inl rfl))
  (pss_cons (ps_set (i := 4) sc__law_tree.nd rfl (.inl rfl) (pe_call G__law_next (hr.mono (by decide)) (by rfl) D__law_next.g D__law_next.F.kp D__law_next.b .nil pass0 (pa_cons (pv 0) (pa_cons pe_int pa_nil))))
  (pss_cons (ps_if (pt_cmpR op_lt (pv 4) pe_int (nomark _))
  (pss_cons (ps_set (i := 5) sc__law_tree.nd rfl (.inl rfl) (pe_call G__law_good (hr.mono (by decide)) (by rfl) D__law_good.g D__law_good.F.kp D__law_good.b .nil pass0 (pa_cons (pv 0) pa_nil)))
  (pss_cons (ps_expr (pe_bm PySem.F.plainAttrs_list PySem.F.slot_list_append PySem.F.type_list_append mt_append (pv 2) (pa_cons (pe_lst (pa_cons (pv 5) (pa_cons (pe_call G__law_words (hr.mono (by decide)) (by rfl) D__law_words.g D__law_words.F.kp D__law_words.b .nil pass0 (pa_cons (pv 5) pa_nil)) (pa_cons pe_int pa_nil)))) pa_nil)))
  (pss_one ps_continue)))
  pss_nil)
  (pss_cons (ps_set (i := 6) sc__law_tree.nd rfl (.inl rfl) (pe_call G__law_next (hr.mono (by decide)) (by rfl) D__law_next.g D__law_next.F.kp D__law_next.b .nil pass0 (pa_cons (pv 0) (pa_cons pe_int pa_nil))))
  (pss_cons (ps_set (i := 7) sc__law_tree.nd rfl (.inl rfl) (pe_slice sl_list (pv 2) (po_some (pe_callB (call_max2 rfl) (by rfl) T.max (by decide +kernel) (pa_cons pe_int (pa_cons (pe_op op_sub (pe_callB call_len_seq (by rfl) T.len PySem.boot_len (pa_cons (pv 2) pa_nil)) (pv 6)) pa_nil)))) po_none))
  (pss_cut (ps_if (pt_cmpR op_eq (pv 6) pe_int (nomark _))
  (pss_one (ps_set (i := 7) sc__law_tree.nd rfl (.inl rfl) (pe_lst pa_nil)))
  pss_nil)
  (pss_cons (ps_if (pt_cmpR op_ge (pe_callB (cr_max rfl) (by rfl) T.max (by decide +kernel) (pa_cons (pe_op op_cat (pe_lc (own := [("row", 8)]) (g := gName 8) rfl sc__law_tree.nd (pi_list (pv 7)) (blkOk_by (N := N__law_tree) (sc := defScope s__law_tree) (by decide +kernel)) (fun _ _ _ _ _ => (pg_name (i := 8) sc__law_tree.nd rfl (.inl rfl))) (fun _ _ _ _ _ => pts_nil) (fun _ _ _ _ _ => (pe_ix (show IxR _ (rIxL K) from ix_list) (pv 8) pe_int (fun _ _ => rfl)))) (pe_lst (pa_cons pe_int pa_nil))) pa_nil)) pe_int (nomark _))
  (pss_one ps_continue)
  pss_nil)
  (pss_cons (ps_set (i := 9) sc__law_tree.nd rfl (.inl rfl) (pe_lst (pa_cons pe_str (pa_cons (pe_callB call_len_seq (by rfl) T.len PySem.boot_len (pa_cons (pv 7) pa_nil)) pa_nil))))
  (pss_cons (ps_for PassesOwn.never rfl (pi_list (pv 7)) (pg_name (i := 8) sc__law_tree.nd rfl (.inl rfl))
  (pss_one (ps_set (i := 9) sc__law_tree.nd rfl (.inl rfl) (pe_op op_cat (pv 9) (pe_ix ix_list (pv 8) pe_int (fun _ _ => rfl))))))
  (pss_cons (ps_set (i := 2) sc__law_tree.nd rfl (.inl rfl) (pe_slice sl_list (pv 2) po_none (po_some (pe_op op_sub (pe_callB call_len_seq (by rfl) T.len PySem.boot_len (pa_cons (pv 2) pa_nil)) (pe_callB call_len_seq (by rfl) T.len PySem.boot_len (pa_cons (pv 7) pa_nil))))))
  (pss_one (ps_expr (pe_bm PySem.F.plainAttrs_list PySem.F.slot_list_append PySem.F.type_list_append mt_append (pv 2) (pa_cons (pe_lst (pa_cons (pe_tupleOf (by rfl) T.tuple (pe_lc (own := [("row", 8)]) (g := gName 8) rfl sc__law_tree.nd (pi_list (pv 7)) (blkOk_by (N := N__law_tree) (sc := defScope s__law_tree) (by decide +kernel)) (fun _ _ _ _ _ => (pg_name (i := 8) sc__law_tree.nd rfl (.inl rfl))) (fun _ _ _ _ _ => pts_nil) (fun _ _ _ _ _ => (pe_ix (show IxR _ (rIxL K) from ix_list) (pv 8) pe_int (fun _ _ => rfl))))) (pa_cons (pv 9) (pa_cons (pe_op op_add (pe_callB (cr_max rfl) (by rfl) T.max (by decide +kernel) (pa_cons (pe_op op_cat (pe_lc (own := [("row", 8)]) (g := gName 8) rfl sc__law_tree.nd (pi_list (pv 7)) (blkOk_by (N := N__law_tree) (sc := defScope s__law_tree) (by decide +kernel)) (fun _ _ _ _ _ => (pg_name (i := 8) sc__law_tree.nd rfl (.inl rfl))) (fun _ _ _ _ _ => pts_nil) (fun _ _ _ _ _ => (pe_ix (show IxR _ (rIxL K) from ix_list) (pv 8) pe_int (fun _ _ => rfl)))) (pe_lst (pa_cons pe_int pa_nil))) pa_nil)) pe_int) pa_nil)))) pa_nil))))))))))))))
  (pss_one (ps_ret (pe_ix ix_list (pv 2) (pe_un un_neg pe_int) (fun _ _ => rfl)))))), ?_⟩
    -- rows = [[(), ['t', 0], 1]]
    refine q_do (go_lst (go_cons' (go_lst (go_cons' (go_tup (go_nil ⟨by show 0 ≤ sizeLine; decide, fun pt hpt => go_cons' (go_lst (go_cons ev_c fun H1 e1 => go_cons ev_c fun H2 e2 => go_nil ⟨by show 2 ≤ sizeLine; decide, fun pw hpw => go_cons ev_c fun H3 e3 => go_nil ⟨by show 3 ≤ sizeLine; decide, fun pa hpa => go_nil ⟨by show 1 ≤ sizeLine; decide, fun pr hpr => ?_⟩⟩⟩))⟩))))))
    have hA := at_new (o := .tup []) hA hpt (Ex.new hpt) upd_same
    have hA := at_new (o := .lst [.str "t", .int 0]) (at_ex hA (e1.trans e2)) hpw (Ex.new hpw) upd_same
    have hA := at_new (o := .lst [.ref pt, .ref pw, .int 1]) (at_ex hA e3) hpa (Ex.new hpa) upd_same
    have hA := at_new (o := .lst [.ref pa]) hA hpr (Ex.new hpr) upd_same
    obtain ⟨b1, hA⟩ := at_freeze (at_ix 4 [3, 2, 1, 0] hA)
    obtain ⟨b2, hA⟩ := at_freeze hA
    obtain ⟨b3, hA⟩ := at_freeze hA
    have hrow : RowB K (upd (upd (upd B pt (.tup [])) pw (.lst [.str "t", .int 0])) pa (.lst [.ref pt, .ref pw, .int 1])) (.ref pa) (.tuple []) :=
      ⟨pa, pw, .ref pt, [.str "t", .int 0], rfl, upd_same, b3 _ _ upd_same, .cons (.str _) (.cons (.int _) .nil), .tup (st_of ((b2.trans b3) _ _ upd_same)) .nil⟩
    have bb := b1.trans (b2.trans b3)
    generalize upd (upd (upd B pt (.tup [])) pw (.lst [.str "t", .int 0])) pa (.lst [.ref pt, .ref pw, .int 1]) = B0 at hA hrow bb
    clear b1 b2 b3
    refine' q_forR1 (n := (n : Int)) (ea_cons (ev_var rfl) ea_nil) (by omega) (fun i σ' H' => ∃ (pr : Addr) (xs : List V) (ls : List PyData) (B' : Hp) (y3 y4 y5 y6 y7 y8 y9 : Option V), σ' = [some (.ref s), some (.int (n : Int)), some (.ref pr), y3, y4, y5, y6, y7, y8, y9] ∧ Ex B B' ∧ At B' (Pt pr (.lst xs) :: PlM s :: Fr) H' ∧ RwA K B' xs ls ∧ (∀ d ∈ ls, isV d = true ∧ depD d ≤ 12) ∧ cntDs ls ≤ i + 1 ∧ ls ≠ []) (fun H4 e4 => ?_) (fun i σ' H' hi p => ?_) (fun σ' H' p => ?_)
    · exact ⟨pr, [.ref pa], [.tuple []], B0, none, none, none, none, none, none, none, rfl, bb, at_ex hA e4, .cons hrow .nil, fun d hd => by rw [List.mem_singleton.mp hd]; exact ⟨rfl, by decide⟩, by decide, by simp⟩
    · clear hA hrow bb
      obtain ⟨pr, xs, ls, B', y3, y4, y5, y6, y7, y8, y9, rfl, b0, hA, hR, hall, hcn, hne⟩ := p
      have hlx := hR.len
      have hlc := cntDs_len ls
      have hi2 : i < n := by omega
      refine qw_asg hA (wv_pn 1 rfl rfl (fun H => ev_c) (by decide) (by decide)) fun v B1 H5 b1 hA ⟨ch, hv, hch⟩ => ?_
      subst hv
      have hR1 := hR.mono b1
      refine qe_when (b := decide (ch < 2)) hA (et_test (ev_op (ev_var rfl) ev_c rv_I0)) (fun _ H6 hA => ?_) (fun _ H6 hA => ?_)
      · refine qw_asg hA (wv_good (K := K) 1 rfl rfl) fun v B2 H7 b2 hA ⟨d, hv, hd⟩ => ?_
        refine qw_app (K := K) (R := rRow K d) 0 rfl hA (fun H => ev_var rfl) (fun B3 H8 b3 hA Q' q' => go_lst (go_cons (ev_var rfl) fun H9 e9 => go_cons' (go_call (go_cons (ev_var rfl) fun H10 e10 => go_nil ⟨v, d, B3, _, rfl, at_ex hA (e9.trans e10), dp_dx _ _ (dp_mono b3 _ _ hv), fun pw H11 hA => go_cons ev_c fun H12 e12 => go_nil ⟨by show 3 ≤ sizeLine; decide, fun pa hpa => ?_⟩⟩)))) (by omega) fun x B4 H8 b4 hx hA => ?_
        · have hA := at_new (o := .lst [v, .ref pw, .int 0]) (at_ex hA e12) hpa (Ex.new hpa) upd_same
          obtain ⟨c1, hA⟩ := at_freeze (at_swap hA)
          obtain ⟨c2, hA⟩ := at_freeze hA
          refine q' _ _ _ (c1.trans c2) hA ⟨pa, pw, v, _, rfl, ?_, c2 _ _ upd_same, ?_, dp_mono (b3.trans (c1.trans c2)) _ _ hv⟩
          · have : depD d = 0 := by
              rcases isP_cases hd with ⟨i, rfl, _⟩ | ⟨z, rfl, _⟩ <;> rfl
            rw [this]
            exact upd_same
          · rw [lwD_words hd]
            exact .cons (.str _) (.cons (dp_mono (b3.trans (c1.trans c2)) _ _ hv) .nil)
        · refine ⟨pr, xs ++ [x], ls ++ [d], B4, _, _, _, _, _, _, _, rfl, b0.trans (b1.trans (b2.trans b4)), hA, (hR1.mono (b2.trans b4)).app (.cons hx .nil), fun e he => ?_, ?_, by simp⟩
          · rcases List.mem_append.mp he with he | he
            · exact hall e he
            · rw [List.mem_singleton.mp he]
              refine ⟨isP_V hd, ?_⟩
              rcases isP_cases hd with ⟨i, rfl, _⟩ | ⟨z, rfl, _⟩ <;> exact Nat.zero_le _
          · rw [cntDs_app]
            have : cntD d = 1 := by
              rcases isP_cases hd with ⟨i, rfl, _⟩ | ⟨z, rfl, _⟩ <;> rfl
            show cntDs ls + (cntD d + 0) ≤ _
            omega
      · -- a tuple of the last
        refine qw_asg hA (wv_pn 1 rfl rfl (fun H => ev_c) (by decide) (by decide)) fun v B2 H7 b2 hA ⟨c0, hv, hc0⟩ => ?_
        subst hv
        obtain ⟨c, rfl⟩ : ∃ k : Nat, c0 = (k : Int) := ⟨c0.toNat, by have := hc0.1; omega⟩
        have hR2 := hR1.mono b2
        have hS := sq_of (K := K) (at_get 0 rfl hA)
        have hmx : (if (xs.length : Int) - (c : Int) > 0 then (xs.length : Int) - (c : Int) else 0) = ((ls.length - c : Nat) : Int) := by
          rw [hlx]
          split <;> omega
        have e1 : cutV xs (some ((ls.length - c : Nat) : Int)) none = xs.drop (ls.length - c) := cutA_from xs _
        refine' qe_lst (xs := xs.drop (ls.length - c)) hA ?sl (fun pl H8 hA => ?_)
        case sl =>
          rw [← e1]
          refine' el_sl (ev_var rfl) (eo_some (ev_is ?c ?d)) eo_none hS
          case c => exact ev_cb (ea_cons ev_c (ea_cons (ev_op (ev_cb (ea_cons (ev_var rfl) ea_nil) (rc_len hS)) (ev_var rfl) rv_I0) ea_nil)) rc_max2
          case d => exact congrArg V.int hmx
        refine q_cut (M := fun σ' H' => ∃ (pl : Addr) (lx : List V), σ' = [some (.ref s), some (.int (n : Int)), some (.ref pr), some (.int (i : Int)), some (.int ch), y5, some (.int (c : Int)), some (.ref pl), y8, y9] ∧ RwA K B2 lx (ls.drop (ls.length - c)) ∧ At B2 (Pt pr (.lst xs) :: Pt pl (.lst lx) :: PlM s :: Fr) H') ?_ (fun σ' H9 p => ?_)
        · refine se_when (b := decide ((c : Int) = 0)) hA (et_test (ev_op (ev_var rfl) ev_c rv_eqI)) (fun hb H9 hA => ?_) (fun hb H9 hA => ⟨pl, _, rfl, hR2.drop _, at_swap hA⟩)
          have hb : c = 0 := by have := of_decide_eq_true hb; omega
          subst hb
          refine s_do ((el_lst ea_nil (by decide)) H9 (Ex.refl H9) _ fun p2 H10 np e10 hp2 => ⟨p2, [], rfl, ?_, at_drop (at_ix 4 [1, 2, 0, 3] (at_new hA np e10 hp2))⟩)
          rw [Nat.sub_zero, List.drop_length]
          exact .nil
        clear hA
        obtain ⟨pl, lx, rfl, hRl, hA⟩ := p
        generalize hll : ls.drop (ls.length - c) = ll at hRl
        have hlln : ll.length = ls.length - (ls.length - c) := by rw [← hll, List.length_drop]
        have hlxl := hRl.len
        have hallL : ∀ d ∈ ll, isV d = true ∧ depD d ≤ 12 := fun d hd => hall d (List.mem_of_mem_drop (by rw [hll]; exact hd))
        have hsplit : cntDs (ls.take (ls.length - c)) + cntDs ll = cntDs ls := by rw [← hll, ← cntDs_app, List.take_append_drop]
        have hcl := cntDs_len ll
        refine qe_when (b := decide ((12 : Int) ≤ (depDs ll : Nat))) hA (et_test (ev_op (ev_maxDeps (K := K) 1 rfl hA hRl (by omega) (ev_var rfl) (fun _ => rfl) (fun _ H => et_nil) (fun _ => rfl)) ev_c rv_I0)) (fun _ H10 hA => ?_) (fun hb H10 hA => ?_)
        · exact ⟨pr, xs, ls, B2, _, _, _, _, _, _, _, rfl, b0.trans (b1.trans b2), at_mid hA, hR2, hall, by omega, hne⟩
        have hdep : depDs ll < 12 := by have := of_decide_eq_false hb; omega
        have hSl := sq_of (K := K) (at_get 1 rfl hA)
        refine qe_lst (xs := [.str "t", .int (lx.length : Int)]) hA (el_lst (ea_cons ev_c (ea_cons (ev_cb (ea_cons (ev_var rfl) ea_nil) (rc_len hSl)) ea_nil)) (by show 2 ≤ 100000; decide)) fun pw0 H11 hA => ?_
        refine' q_forLn (K := K) (a := pl) (xs := lx) (ev_var rfl) (sq_of (at_get 2 rfl hA)) (fun j σ' H' => ∃ (pw : Addr) (ws : List V) (y8 : Option V), σ' = [some (.ref s), some (.int (n : Int)), some (.ref pr), some (.int (i : Int)), some (.int ch), y5, some (.int (c : Int)), some (.ref pl), y8, some (.ref pw)] ∧ DpAll K B2 ws (.str "t" :: .int (ll.length : Int) :: wordsOfs (ll.take j)) ∧ At B2 (Pt pw (.lst ws) :: Pt pr (.lst xs) :: Pt pl (.lst lx) :: PlM s :: Fr) H') (fun H12 e12 => ?_) (fun j σ' H' hj p => ?_) (fun j x σ' H' hx p => ?_) (fun σ' H' p => ?_)
        · refine ⟨pw0, _, y8, rfl, ?_, at_ex hA e12⟩
          rw [hlxl]
          exact .cons (.str _) (.cons (.int _) .nil)
        · obtain ⟨pw, ws, y8, rfl, hws, hA⟩ := p
          exact sq_of (at_get 2 rfl hA)
        · obtain ⟨pw, ws, y8, rfl, hws, hA⟩ := p
          obtain ⟨d, hd, a, w, v0, wd, rfl, g1, g2, g3, g4⟩ := hRl.get hx
          have hjl := (List.getElem?_eq_some_iff.mp hd).1
          have hwl := dpa_len hws
          have hdl := dpa_len g3
          have hc1 : cntDs (ll.take (j + 1)) ≤ cntDs ll := by
            have h1 := cntDs_app (ll.take (j + 1)) (ll.drop (j + 1))
            rw [List.take_append_drop] at h1
            omega
          have htk : ll.take (j + 1) = ll.take j ++ [d] := take_atD hd
          have hc2 : cntDs (ll.take (j + 1)) = cntDs (ll.take j) + cntD d := by rw [htk, cntDs_app]; rfl
          refine s_do (go_op (go_ev (ev_var rfl) fun H13 e13 => go_ev (ev_op (ev_var rfl) ev_c (rv_ixL (sq_of (e13 _ _ ((at_base hA) _ _ g1))) rfl)) fun H14 e14 => ⟨pw, w, ws, wd, rfl, rfl, at_get 0 rfl (at_ex hA (e13.trans e14)), (at_base (at_ex hA (e13.trans e14))) _ _ g2, ?_, fun po ho => ?_⟩))
          · rw [hwl, hdl, List.length_cons, List.length_cons, wordss_len, words_len]
            exact sz_of (by omega)
          · have hA := at_new (o := .lst (ws ++ wd)) (at_ex hA (e13.trans e14)) ho (Ex.new ho) upd_same
            refine ⟨po, ws ++ wd, _, rfl, ?_, at_mid hA⟩
            rw [htk, wordsOfs_app]
            have : wordsOfs [d] = wordsOf d := by simp [wordsOfs]
            rw [this]
            exact dpa_app hws g3
        · clear hA
          obtain ⟨pw, ws, y8, rfl, hws, hA⟩ := p
          rw [hlxl, List.take_length] at hws
          obtain ⟨b3, hA⟩ := at_freeze hA
          have hpw : upd B2 pw (.lst ws) pw = some (.lst ws) := upd_same
          have hws := dpa_mono b3 _ _ hws
          have hRl := hRl.mono b3
          have hR3 := hR2.mono b3
          generalize upd B2 pw (.lst ws) = B3 at hA b3 hpw hws hRl hR3
          have e2 : cutV xs none (some ((ls.length - c : Nat) : Int)) = xs.take (ls.length - c) := by
            unfold cutV
            rw [HT.sIx_none, HT.sIx_nat, Nat.sub_zero, List.drop_zero]
            exact List.take_eq_take_iff.mpr (by omega)
          have hSr := sq_of (K := K) (at_get 0 rfl hA)
          have hSl := sq_of (K := K) (at_get 1 rfl hA)
          refine' qe_lst (xs := xs.take (ls.length - c)) hA ?sl2 (fun pr2 H15 hA => ?_)
          case sl2 =>
            rw [← e2]
            refine' el_sl (ev_var rfl) eo_none (eo_some (ev_is ?c2 ?d2)) hSr
            case c2 => exact ev_op (ev_cb (ea_cons (ev_var rfl) ea_nil) (rc_len hSr)) (ev_cb (ea_cons (ev_var rfl) ea_nil) (rc_len hSl)) rv_I0
            case d2 => exact congrArg V.int (by omega)
          have hA : At B3 (Pt pr2 (.lst (xs.take (ls.length - c))) :: Pt pl (.lst lx) :: PlM s :: Fr) H15 := at_mid hA
          refine sw_app (K := K) (R := rRow K (.tuple ll)) 0 rfl hA (fun H => ev_var rfl) (fun B4 H16 b4 hA Q' q' => ?_) (by rw [List.length_take]; omega) fun x B5 H16 b5 hx hA => ?_
          · have hRl := hRl.mono b4
            obtain ⟨vs, k1, k2⟩ := hRl.vals
            have hvl := dpa_len k1
            have hvs : EvL (tLc (iList K (tVar 7)) (gName 8) tYes (tOp (rIxL K) (tVar 8) (tC (.int 0))) [8]) [some (.ref s), some (.int (n : Int)), some (.ref pr2), some (.int (i : Int)), some (.int ch), y5, some (.int (c : Int)), some (.ref pl), y8, some (.ref pw)] H16 vs := by
              have e0 := given_eq vs V.non (fun _ => true) (fun v => v)
              rw [List.filter_eq_self.mpr (fun _ _ => rfl), List.map_id'] at e0
              have e0l : vs.length = lx.length := by omega
              rw [e0l] at e0
              have := el_lcL (K := K) (a := pl) (xs := lx) (tl := tVar 7) (t := tYes) (te := tOp (rIxL K) (tVar 8) (tC (.int 0))) (j := 8) (vs := [8]) (σ := [some (.ref s), some (.int (n : Int)), some (.ref pr2), some (.int (i : Int)), some (.int ch), y5, some (.int (c : Int)), some (.ref pl), y8, some (.ref pw)]) (fun _ => true) (fun i => vs.getD i .non) (ev_var rfl) (sq_of (at_get 1 rfl hA)) (by omega) (fun _ => rfl) (fun i x H2 e2 hx => et_nil) (fun i x H2 e2 hx _ => by
                obtain ⟨b, w, d, rfl, g1, g2⟩ := k2 i x hx
                exact ev_op (ev_var rfl) ev_c (rv_ixL (sq_of (e2 _ _ ((at_base hA) _ _ g1))) rfl))
              rw [e0] at this
              exact this
            refine go_lst (go_cons' (hvs H16 (Ex.refl H16) _ fun p H17 np e17 hp => .inl ⟨p, vs, rfl, sq_of hp, fun pt hpt => ?_⟩))
            have hA2 := at_ex hA e17
            have hAg := at_grow hA2 (Ex.new (o := .tup vs) hpt)
            have bg : Ex B4 (ov B4 H17 (upd H17 pt (.tup vs))) := ov_base
            have hpt2 : ov B4 H17 (upd H17 pt (.tup vs)) pt = some (.tup vs) := ov_new (at_base hA2) (Ex.refl H17) hpt
            generalize ov B4 H17 (upd H17 pt (.tup vs)) = B6 at hAg bg hpt2
            refine go_cons (ev_var rfl) fun H18 e18 => go_cons (ev_op (ev_maxDeps (K := K) 1 rfl (at_ex hAg e18) (hRl.mono bg) (by omega) (ev_var rfl) (fun _ => rfl) (fun _ H => et_nil) (fun _ => rfl)) ev_c rv_I0) fun H19 e19 => go_nil ⟨by show 3 ≤ sizeLine; decide, fun pa hpa => ?_⟩
            have hA3 := at_new (o := .lst [.ref pt, .ref pw, .int ((depDs ll : Nat) + 1 : Int)]) (at_ex hAg (e18.trans e19)) hpa (Ex.new hpa) upd_same
            obtain ⟨c1, hA3⟩ := at_freeze hA3
            exact q' _ _ _ (bg.trans c1) hA3 ⟨pa, pw, .ref pt, ws, rfl, upd_same, c1 _ _ (bg _ _ (b4 _ _ hpw)), dpa_mono (b4.trans (bg.trans c1)) _ _ hws, .tup (st_of (c1 _ _ hpt2)) (dpa_mono (bg.trans c1) _ _ k1)⟩
          · refine ⟨pr2, xs.take (ls.length - c) ++ [x], ls.take (ls.length - c) ++ [.tuple ll], B5, _, _, _, _, _, _, _, rfl, b0.trans (b1.trans (b2.trans (b3.trans b5))), at_mid hA, ((hR3.mono b5).take _).app (.cons (show RowB K B5 x (.tuple ll) from hx) .nil), fun e he => ?_, ?_, by simp⟩
            · rcases List.mem_append.mp he with he | he
              · exact hall e (List.mem_of_mem_take he)
              · rw [List.mem_singleton.mp he]
                refine ⟨?_, ?_⟩
                · show isVs ll = true
                  rw [isVs_iff]
                  exact List.all_eq_true.mpr fun d hd => (hallL d hd).1
                · show depDs ll + 1 ≤ 12
                  omega
            · rw [cntDs_app]
              show cntDs (ls.take (ls.length - c)) + ((1 + cntDs ll) + 0) ≤ _
              omega
    · obtain ⟨pr, xs, ls, B', y3, y4, y5, y6, y7, y8, y9, rfl, b0, hA, hR, hall, hcn, hne⟩ := p
      have hlx := hR.len
      have hl0 : 0 < ls.length := List.length_pos_iff.mpr hne
      have hx : xs[xs.length - 1]? = some (xs[xs.length - 1]'(by omega)) := List.getElem?_eq_getElem _
      obtain ⟨d, hd, hrow⟩ := hR.get hx
      have hm := List.mem_of_getElem? hd
      have hcd : cntD d ≤ n + 1 := by
        have h1 : cntD d ≤ cntDs ls := by
          obtain ⟨l1, l2, rfl⟩ := List.append_of_mem hm
          rw [cntDs_app]
          show _ ≤ _ + (cntD d + cntDs l2)
          omega
        have : (n : Int).toNat = n := Int.toNat_natCast n
        omega
      have hat : atI xs (-1) = some (xs[xs.length - 1]'(by omega)) := by
        unfold atI ixN
        rw [if_neg (by decide), if_pos (by omega)]
        show xs[((-1 : Int) + (xs.length : Int)).toNat]? = _
        rw [show ((-1 : Int) + (xs.length : Int)).toNat = xs.length - 1 by omega]
        exact hx
      exact se_ret hA (ev_op (ev_var rfl) (ev_un ev_c ru_neg) (rv_ixL (sq_of (at_get 0 rfl hA)) hat)) fun H9 hA => q _ d B' H9 b0 hrow (hall d hm).1 (hall d hm).2 hcd (at_drop hA)

mutual
theorem oknV : ∀ (d : PyData) (n : Nat), isV d = true → depD d ≤ n → cntD d ≤ 50000 → Okn n d
  | .tuple ds, 0, _, h, _ => by
    have h : depDs ds + 1 ≤ 0 := h
    omega
  | .tuple ds, n + 1, hv, h, hc => by
    have h : depDs ds + 1 ≤ n + 1 := h
    have hc : 1 + cntDs ds ≤ 50000 := hc
    have := cntDs_len ds
    exact .tup (by omega) (oknVs ds n hv (by omega) (by omega))
  | .str _, _, _, _, _ => .str _
  | .int _, _, _, _, _ => .int _
  | .none, _, hv, _, _ => by simp [isV, isP, isI, isT] at hv
  | .bool _, _, hv, _, _ => by simp [isV, isP, isI, isT] at hv
  | .list _, _, hv, _, _ => by simp [isV, isP, isI, isT] at hv
  | .dict _, _, hv, _, _ => by simp [isV, isP, isI, isT] at hv
theorem oknVs : ∀ (ds : List PyData) (n : Nat), isVs ds = true → depDs ds ≤ n → cntDs ds ≤ 50000 → ∀ d ∈ ds, Okn n d
  | [], _, _, _, _ => fun _ h => nomatch h
  | d :: r, n, hv, h, hc => by
    have hv := Bool.and_eq_true_iff.mp (show (isV d && isVs r) = true from hv)
    have h := Nat.max_le.mp (show max (depD d) (depDs r) ≤ n from h)
    have hc : cntD d + cntDs r ≤ 50000 := hc
    intro e he
    rcases List.mem_cons.mp he with he | he
    · rw [he]
      exact oknV d n hv.1 h.1 (by omega)
    · exact oknVs r n hv.2 h.2 (by omega) e he
end
mutual
theorem words_ok : ∀ (d : PyData), isV d = true → ∀ x ∈ wordsOf d, Okd 12 x ∧ Okn 12 x
  | .tuple ds, hv => by
    intro x hx
    have hx : x ∈ PyData.str "t" :: .int (ds.length : Int) :: wordsOfs ds := hx
    rcases List.mem_cons.mp hx with rfl | hx
    · exact ⟨.str (by decide), .str _⟩
    · rcases List.mem_cons.mp hx with rfl | hx
      · exact ⟨.int _, .int _⟩
      · exact wordss_ok ds hv x hx
  | .str z, hv => by
    intro x hx
    have hp : isP (.str z) = true := hv
    have hx : x ∈ [PyData.str "s", .str z] := hx
    rcases List.mem_cons.mp hx with rfl | hx
    · exact ⟨.str (by decide), .str _⟩
    · rw [List.mem_singleton.mp hx]
      exact ⟨isP_okd hp, .str _⟩
  | .int i, hv => by
    intro x hx
    have hx : x ∈ [PyData.str "i", .int i] := hx
    rcases List.mem_cons.mp hx with rfl | hx
    · exact ⟨.str (by decide), .str _⟩
    · rw [List.mem_singleton.mp hx]
      exact ⟨.int _, .int _⟩
  | .none, hv => by simp [isV, isP, isI, isT] at hv
  | .bool _, hv => by simp [isV, isP, isI, isT] at hv
  | .list _, hv => by simp [isV, isP, isI, isT] at hv
  | .dict _, hv => by simp [isV, isP, isI, isT] at hv
theorem wordss_ok : ∀ (ds : List PyData), isVs ds = true → ∀ x ∈ wordsOfs ds, Okd 12 x ∧ Okn 12 x
  | [], _ => fun _ h => nomatch h
  | d :: r, hv => by
    have hv := Bool.and_eq_true_iff.mp (show (isV d && isVs r) = true from hv)
    intro x hx
    rcases List.mem_append.mp (show x ∈ wordsOf d ++ wordsOfs r from hx) with hx | hx
    · exact words_ok d hv.1 x hx
    · exact wordss_ok r hv.2 x hx
end
theorem q_whenF {σ : L2.St} {H : Hp} {D : Ends} {tz tu : TS} {t : TT} {C : Hp → Prop} (h : ∀ Q : Bool → Hp → Prop, (∀ H1, C H1 → Q false H1) → t σ H Q) (k : ∀ H1, C H1 → tz D σ H1) : tSeq (tIfS t tu tNext) tz D σ H := h _ fun H1 hc => by
  show tz D σ H1
  exact k H1 hc
theorem dx_lstM {B H : Hp} {l : List MP} {a : Addr} {ds : List PyData} (n : Nat) (hk : l[n]? = some (LstM K a ds)) (hA : At B l H) : Dx K H (.ref a) (.list ds) := by
  obtain ⟨xs, h1, h2⟩ := lst_at n hk hA
  exact .lst (sq_of h2) (dpa_dxa _ _ (dpa_mono (at_base hA) _ _ h1))

mutual
theorem okdV : ∀ (d : PyData) (n : Nat), isV d = true → depD d ≤ n → cntD d ≤ 1000 → Okd n d
  | .tuple ds, 0, _, h, _ => by
    have h : depDs ds + 1 ≤ 0 := h
    omega
  | .tuple ds, n + 1, hv, h, hc => by
    have h : depDs ds + 1 ≤ n + 1 := h
    have hc : 1 + cntDs ds ≤ 1000 := hc
    have := cntDs_len ds
    exact .tup (by omega) (okdVs ds n hv (by omega) (by omega))
  | .str z, _, hv, _, _ => isP_okd (show isP (.str z) = true from hv)
  | .int _, _, _, _, _ => .int _
  | .none, _, hv, _, _ => by simp [isV, isP, isI, isT] at hv
  | .bool _, _, hv, _, _ => by simp [isV, isP, isI, isT] at hv
  | .list _, _, hv, _, _ => by simp [isV, isP, isI, isT] at hv
  | .dict _, _, hv, _, _ => by simp [isV, isP, isI, isT] at hv
theorem okdVs : ∀ (ds : List PyData) (n : Nat), isVs ds = true → depDs ds ≤ n → cntDs ds ≤ 1000 → ∀ d ∈ ds, Okd n d
  | [], _, _, _, _ => fun _ h => nomatch h
  | d :: r, n, hv, h, hc => by
    have hv := Bool.and_eq_true_iff.mp (show (isV d && isVs r) = true from hv)
    have h := Nat.max_le.mp (show max (depD d) (depDs r) ≤ n from h)
    have hc : cntD d + cntDs r ≤ 1000 := hc
    intro e he
    rcases List.mem_cons.mp he with he | he
    · rw [he]
      exact okdV d n hv.1 h.1 (by omega)
    · exact okdVs r n hv.2 h.2 (by omega) e he
end
theorem wv_eqB {σ : L2.St} {B : Hp} {l : List MP} {te : TE} {φ : Int → Prop} {c : Int} (h : Wv te σ B l (rN φ)) : Wv (tOp rEq te (tC (.int c))) σ B l rBo := fun B1 H e1 hA Q q => go_op (h B1 H e1 hA _ fun v B2 H2 e2 hA2 ⟨n, hv, hn⟩ => by
  subst hv
  exact go_ev ev_c fun H3 e3 => rv_eqI H3 (Ex.refl H3) _ fun H4 e4 => q _ B2 H4 e2 (at_ex hA2 (e3.trans e4)) ⟨_, rfl⟩)

/-! ### longer lists, cut lists -/
theorem pairD_ext {L X : List PyData} {i : Int} {a b : PyData} (h : pairD L i = some (a, b)) : pairD (L ++ X) i = some (a, b) := by
  obtain ⟨h0, h1, ha, hb⟩ := pairD_some h
  unfold pairD
  rw [if_neg (by omega), List.getElem?_append_left (by omega), List.getElem?_append_left (by omega), ha, hb]
theorem takeN_ext {f g : Int → Option (PyData × Int)} (hf : ∀ i d e, f i = some (d, e) → g i = some (d, e)) : ∀ (n : Nat) (i : Int) (l : List PyData) (e : Int), takeN f n i = some (l, e) → takeN g n i = some (l, e)
  | 0, i, l, e, h => h
  | n + 1, i, l, e, h => by
    unfold takeN at h ⊢
    cases h1 : f i with
    | none => rw [h1] at h; cases h
    | some p =>
      obtain ⟨d, e1⟩ := p
      rw [h1] at h
      rw [hf i d e1 h1]
      cases h2 : takeN f n e1 with
      | none => simp only [h2] at h; cases h
      | some q =>
        obtain ⟨l2, e2⟩ := q
        simp only [h2] at h
        simp only [takeN_ext hf n e1 l2 e2 h2]
        exact h
theorem takeB_ext {L X : List PyData} {s t : Option (Int → Option (PyData × Int))} (hs : ∀ f, s = some f → ∃ g, t = some g ∧ ∀ i d e, f i = some (d, e) → g i = some (d, e)) {i : Int} {d : PyData} {e : Int} (h : takeB L s i = some (d, e)) : takeB (L ++ X) t i = some (d, e) := by
  cases hp : pairD L i with
  | none => rw [takeB_none hp] at h; cases h
  | some p =>
    obtain ⟨a, b⟩ := p
    cases a with
    | str z =>
      rw [takeB_str hp] at h
      rw [takeB_str (pairD_ext hp)]
      split at h
      · rename_i hz
        rw [if_pos hz]
        exact h
      · rename_i hz
        rw [if_neg hz]
        split at h
        · rename_i hz
          rw [if_pos hz]
          exact h
        · rename_i hz
          rw [if_neg hz]
          split at h
          · rename_i hz
            rw [if_pos hz]
            split at h
            · rename_i hN
              rw [if_pos hN]
              cases s with
              | none => cases h
              | some f =>
                obtain ⟨g, rfl, hg⟩ := hs f rfl
                cases h2 : takeN f (toN b) (i + 2) with
                | none => simp only [h2] at h; cases h
                | some q =>
                  obtain ⟨l2, e2⟩ := q
                  simp only [h2] at h
                  simp only [takeN_ext hg _ _ _ _ h2]
                  exact h
            · cases h
          · cases h
    | _ => unfold takeB at h; rw [hp] at h; cases h
theorem takeD_ext (L X : List PyData) : ∀ (lv : Nat) (i : Int) (d : PyData) (e : Int), takeD L lv i = some (d, e) → takeD (L ++ X) lv i = some (d, e)
  | 0, i, d, e, h => takeB_ext (s := none) (t := none) (fun f h => nomatch h) h
  | lv + 1, i, d, e, h => takeB_ext (s := some (takeD L lv)) (t := some (takeD (L ++ X) lv)) (fun f hf => by cases hf; exact ⟨_, rfl, takeD_ext L X lv⟩) h
/-- what ends beyond a cut is not read -/
theorem takeD_cut {L X : List PyData} {lv : Nat} {i : Int} {d : PyData} {e : Int} (h : takeD (L ++ X) lv i = some (d, e)) (he : (L.length : Int) < e) : takeD L lv i = none := by
  cases h1 : takeD L lv i with
  | none => rfl
  | some p =>
    obtain ⟨d1, e1⟩ := p
    have h2 := takeD_ext L X lv i d1 e1 h1
    rw [h] at h2
    have := (Prod.mk.inj (Option.some.inj h2)).2
    have := (takeD_bd L lv i d1 e1 h1).2.2
    omega

def spFW (K : PySem.W.Frag) (CW : Addr) : Sp := fun vs H Q E => ∃ (w : Addr) (ds : List PyData) (B : Hp) (F : List MP), vs = [.ref w] ∧ At B (LstM K w ds :: F) H ∧ ds.length ≤ 50000 ∧ (∀ d ∈ ds, Okd 12 d) ∧ (∀ d, takeD ds 12 0 = some (d, (ds.length : Int)) → ∀ v B1 H1, Ex B B1 → Dp K B1 v d → At B1 (LstM K w ds :: F) H1 → Q v H1) ∧ ((∀ d, takeD ds 12 0 ≠ some (d, (ds.length : Int))) → ∀ B1 H1, Ex B B1 → At B1 (LstM K w ds :: F) H1 → E (.ref CW) none H1)
theorem ok_from {f f_t C_BadWords Bx : Addr} {fd fd_t : FuncData} (F : Fun K "from_words" "from_words" s_from_words f fd) (D_take_value : Df K mg "take_value" s_take_value ["words", "at"] f_t fd_t) (G_take_value : FnOk P w K mg base (L2.CX P w) 28 f_t fd_t ["words", "at"] (spTV K C_BadWords)) (E_BadWords : Err K mg "BadWords" C_BadWords Bx) (T : Glo mg) : FnOk P w K mg base (L2.CX P w) 29 f fd ["words"] (spFW K C_BadWords) := by
  refine F.okX sc_from_words (fun vs H Q E h => ?_) (fun cdv A outer s H vs Q E hr h => ?_)
  · obtain ⟨w, ds, B, F, rfl, _⟩ := h
    rfl
  · obtain ⟨wa, ds, B, Fr, rfl, hA, hl, hok, q, qe⟩ := h
    refine ⟨_, (pss_cons (ps_asg (pe_callS G_take_value (hr.mono (by decide)) (by rfl) D_take_value.g D_take_value.F.kp D_take_value.b (fun σ => passAt (takes_of rfl rfl rfl rfl) σ) (pa_cons (pv 0) (pa_cons pe_int pa_nil))) (pg_tup (by rfl) (pgs_cons (pg_name (i := 1) sc_from_words.nd rfl (.inl rfl)) (pgs_cons (pg_name (i := 2) sc_from_words.nd rfl (.inl rfl)) pgs_nil))))
  (pss_cons (ps_if (pt_cmpR op_ne (pv 2) (pe_callB call_len_seq (by rfl) T.len PySem.boot_len (pa_cons (pv 0) pa_nil)) (nomark _))
  (pss_one (ps_raise rfl (takes_of rfl rfl rfl rfl) (Err.mk' E_BadWords rfl)))
  pss_nil)
  (pss_one (ps_ret (pv 1))))), ?_⟩
    refine go_call (go_cons (ev_var rfl) fun H1 e1 => go_cons ev_c fun H2 e2 => go_nil ⟨wa, 0, ds, B, Fr, rfl, at_ex hA (e1.trans e2), hl, hok, fun d e ht v B1 H3 b1 hv hA => g_two hv (at_base hA) fun v1 v2 h1 h2 => ?_, fun ht B1 H3 b1 hA => qe (fun d h => by rw [ht] at h; cases h) B1 H3 b1 hA⟩)
    cases h2
    dsimp only
    refine qe_when (b := !decide (e = (ds.length : Int))) hA (et_test (ev_op (ev_var rfl) (ev_lenM (K := K) 0 rfl hA (ev_var rfl)) rv_neI)) (fun hb H4 hA => ?_) (fun hb H4 hA => ?_)
    · refine qe (fun d' h => ?_) B1 H4 b1 hA
      rw [ht] at h
      have := (Prod.mk.inj (Option.some.inj h)).2
      rw [decide_eq_true this] at hb
      cases hb
    · have he : e = (ds.length : Int) := by simpa using hb
      rw [he] at ht
      exact se_ret hA (ev_var rfl) fun H5 hA => q d ht v1 B1 H5 b1 h1 hA

theorem wv_ixLG {tt : TA} {tb : TE} {σ : L2.St} {B : Hp} {l : List MP} {ds : List PyData} {φ : Int → Prop} (hz : ds.length ≤ 100000) (ht : ∀ B1, Ex B B1 → EvDs K tt σ B1 ds) (hb : Wv tb σ B l (rN φ)) (hr : ∀ j, φ j → 0 ≤ j ∧ j < (ds.length : Int)) : Wv (tOp (rIxL K) (tLst tt) tb) σ B l (rG K fun d => d ∈ ds) := fun B1 H1 e1 hA Q q =>
  go_op ((ed_new (en_lst (ht B1 e1) hz)) H1 (at_base hA) _ fun v H2 e2 hv => by
    have hA2 := at_grow hA e2
    have bb : Ex B1 (ov B1 H1 H2) := ov_base
    generalize ov B1 H1 H2 = B2 at hA2 hv bb
    cases hv with
    | @lst a xs _ hs hd =>
      exact hb B2 H2 (e1.trans bb) hA2 _ fun w B3 H3 e3 hA3 ⟨j, hw, hj⟩ => by
        subst hw
        obtain ⟨h0, h1⟩ := hr j hj
        obtain ⟨k, rfl⟩ : ∃ k : Nat, j = (k : Int) := ⟨j.toNat, by omega⟩
        have hk : k < ds.length := by omega
        obtain ⟨x, hx, hxd⟩ := dpa_at hd (List.getElem?_eq_getElem hk)
        exact ⟨a, xs, (k : Int), x, rfl, rfl, ex_l (e3.trans (at_base hA3)) hs, atI_nat hx, q x B3 H3 (bb.trans e3) hA3 ⟨_, dp_mono e3 _ _ hxd, List.getElem_mem hk⟩⟩)
theorem sm_appG {σ : L2.St} {B H : Hp} {l : List MP} {D : Ends} {ta te : TE} {a : Addr} {ds : List PyData} {φ : PyData → Prop} (n : Nat) (e : l[n]? = some (LstM K a ds)) (hA : At B l H) (ha : ∀ H1, Ev ta σ H1 (.ref a)) (h : Wv te σ B l (rG K φ)) (hz : ds.length < 100000) (c : ∀ d B1 H1, φ d → Ex B B1 → At B1 (l.set n (LstM K a (ds ++ [d]))) H1 → D.nx σ H1) : tDrop (tBM K "list" rAppend ta (tCons te tNil)) D σ H :=
  ha H H (Ex.refl H) _ fun H1 e1 => by
    have hA1 := at_ex hA e1
    obtain ⟨xs, h1, h2⟩ := lst_at n e hA1
    refine ⟨.inl ⟨rfl, xs, sq_of h2⟩, h B H1 (Ex.refl B) hA1 _ fun v B2 H2 b2 hA2 ⟨d, hv, hd⟩ => ?_⟩
    obtain ⟨xs, h1, h2⟩ := lst_at n e hA2
    exact ⟨a, xs, v, rfl, rfl, h2, sz_lt (by rw [dpa_len h1]; exact hz), c d B2 _ hd b2 (lst_upd n e hA2 (dpa_app h1 (dpa_one hv)))⟩
/-- a new list of data, put into a variable, is never changed: it belongs to the base -/
theorem wn_asg {σ : L2.St} {B H : Hp} {l : List MP} {D : Ends} {tz : TS} {te : TE} {i : Nat} {ds : List PyData} (hA : At B l H) (h : ∀ B1, Ex B B1 → EvN K te σ B1 ds) (k : ∀ p xs B1 H1, Ex B B1 → B1 p = some (.lst xs) → DpAll K B1 xs ds → At B1 l H1 → tz D (σ.set i (some (.ref p))) H1) : tSeq (tAsg te (gName i)) tz D σ H :=
  h B (Ex.refl B) H (at_base hA) _ fun p xs H2 np e2 hp hs => k p xs (ov B H H2) H2 ov_base (by
    have h1 := fresh_back (at_base hA) np
    unfold ov
    rw [h1, np]
    exact hp) hs (at_grow hA e2)
theorem ev_mulS {σ : L2.St} {H : Hp} {ta tb : TE} {z : Str} {n : Int} (ha : Ev ta σ H (.str z)) (hb : Ev tb σ H (.int n)) (hm : PySem.MulOk z n) : Ev (tOp (fun x y H Q => ∃ (z : Str) (n : Int), x = .str z ∧ y = .int n ∧ PySem.MulOk z n ∧ Q (.str (Txt.mul z n)) H) ta tb) σ H (.str (Txt.mul z n)) :=
  ev_op ha hb fun H1 e Q q => ⟨z, n, rfl, rfl, hm, q H1 (Ex.refl H1)⟩
theorem ev_addS {σ : L2.St} {H : Hp} {ta tb : TE} {y z : Str} (ha : Ev ta σ H (.str y)) (hb : Ev tb σ H (.str z)) (hz : y.length + z.length ≤ sizeLine) : Ev (tOp (fun x y H Q => ∃ i j, x = .str i ∧ y = .str j ∧ i.length + j.length ≤ sizeLine ∧ Q (.str (i ++ j)) H) ta tb) σ H (.str (y ++ z)) :=
  ev_op ha hb fun H1 e Q q => ⟨y, z, rfl, rfl, hz, q H1 (Ex.refl H1)⟩
/-! ### odd words -/
def chX (c : Nat) : Bool := chOk c || decide (c = 10) || decide (c = 9)
def WdP (d : PyData) : Prop := Okd 12 d ∧ Okn 12 d ∧ (∀ z, d = .str z → z.cps.toList.all chX = true) ∧ Sd 3 d
def oddVs : List PyData := [.str "i", .str "s", .str "t", .int 0, .int 1, .int 2, .int 3, .int (-1), .int 1000000000000000000, .int 1000000000000000001, .int (-1000000000000000000), .int (-1000000000000000001), .int 10000000000000000000000000000000000000000, .str "", .str "a", .str "\n"]
def oddWs : List PyData := [.str (Txt.mul "x" 200), .str (Txt.mul "x" 201), .none, .bool true, .bool false, .list [], .tuple [], .list [.str "i", .int 1], .str "it", .str (Txt.mul "x" 150 ++ "\t")]
theorem chX_lt {c : Nat} (h : chX c = true) : c < 0x110000 := by
  unfold chX at h
  rcases Bool.or_eq_true_iff.mp h with h | h
  · rcases Bool.or_eq_true_iff.mp h with h | h
    · have h4 := of_decide_eq_true (Bool.and_eq_true_iff.mp (Bool.and_eq_true_iff.mp h).1).2
      omega
    · have := of_decide_eq_true h
      omega
  · have := of_decide_eq_true h
    omega
theorem chX_sd {n : Nat} {z : Str} (h : z.cps.toList.all chX = true) : Sd n (.str z) := sd_str (by
  show z.cps.all (· < 0x110000) = true
  rw [← Array.all_toList]
  exact List.all_eq_true.mpr fun c hc => decide_eq_true (chX_lt (List.all_eq_true.mp h c hc)))
theorem wd_int (i : Int) : WdP (.int i) := ⟨.int i, .int i, (fun z h => nomatch h), sd_int⟩
theorem wd_str {z : Str} (h1 : z.length ≤ 1000) (h2 : z.cps.toList.all chX = true) : WdP (.str z) := ⟨.str h1, .str z, (fun y h => by cases h; exact h2), chX_sd h2⟩
theorem odd_ok : ∀ d ∈ oddVs ++ oddWs, WdP d := by
  intro d hd
  simp only [oddVs, oddWs, List.mem_append, List.mem_cons, List.not_mem_nil, or_false] at hd
  rcases hd with (rfl | rfl | rfl | rfl | rfl | rfl | rfl | rfl | rfl | rfl | rfl | rfl | rfl | rfl | rfl | rfl) | (rfl | rfl | rfl | rfl | rfl | rfl | rfl | rfl | rfl | rfl)
  · exact wd_str (by decide) (by decide +kernel)
  · exact wd_str (by decide) (by decide +kernel)
  · exact wd_str (by decide) (by decide +kernel)
  · exact wd_int _
  · exact wd_int _
  · exact wd_int _
  · exact wd_int _
  · exact wd_int _
  · exact wd_int _
  · exact wd_int _
  · exact wd_int _
  · exact wd_int _
  · exact wd_int _
  · exact wd_str (by decide) (by decide +kernel)
  · exact wd_str (by decide) (by decide +kernel)
  · exact wd_str (by decide) (by decide +kernel)
  · exact wd_str (by decide +kernel) (by decide +kernel)
  · exact wd_str (by decide +kernel) (by decide +kernel)
  · exact ⟨.non, .non, (fun z h => nomatch h), sd_none⟩
  · exact ⟨.bl _, .bl _, (fun z h => nomatch h), sd_bool⟩
  · exact ⟨.bl _, .bl _, (fun z h => nomatch h), sd_bool⟩
  · exact ⟨.lst (by decide) (fun _ h => nomatch h), .lst (by decide) (fun _ h => nomatch h), (fun z h => nomatch h), sd_list (n := 2) fun _ h => nomatch h⟩
  · exact ⟨.tup (by decide) (fun _ h => nomatch h), .tup (by decide) (fun _ h => nomatch h), (fun z h => nomatch h), sd_tuple (n := 2) fun _ h => nomatch h⟩
  · refine ⟨.lst (by show 2 ≤ 1000; decide) fun d hd => ?_, .lst (by show 2 ≤ 50000; decide) fun d hd => ?_, (fun z h => nomatch h), sd_list (n := 2) fun d hd => ?_⟩
    · simp only [List.mem_cons, List.not_mem_nil, or_false] at hd
      rcases hd with rfl | rfl
      · exact .str (by decide)
      · exact .int _
    · simp only [List.mem_cons, List.not_mem_nil, or_false] at hd
      rcases hd with rfl | rfl
      · exact .str _
      · exact .int _
    · simp only [List.mem_cons, List.not_mem_nil, or_false] at hd
      rcases hd with rfl | rfl
      · exact chX_sd (by decide +kernel)
      · exact sd_int
  · exact wd_str (by decide) (by decide +kernel)
  · exact wd_str (by decide +kernel) (by decide +kernel)
theorem chX_of {c : Nat} (h : chOk c = true) : chX c = true := by
  unfold chX
  rw [h]
  rfl
theorem isP_wd {d : PyData} (h : isP d = true) : WdP d := ⟨isP_okd h, isP_okn h, (fun z hz => by
  subst hz
  have h : (isI (.str z) || isT (.str z)) = true := h
  have ht : isT (.str z) = true := by simpa [isI] using h
  have ht : (decide (z.length ≤ 200) && z.cps.toList.all chOk) = true := ht
  have h2 := (Bool.and_eq_true_iff.mp ht).2
  rw [List.all_eq_true] at h2 ⊢
  exact fun c hc => chX_of (h2 c hc)), isV_sd (isP_okd h) (isP_V h)⟩
def spWord (K : PySem.W.Frag) : Sp := fun vs H Q _ => ∃ (s : Addr) (B : Hp) (F : List MP), vs = [.ref s] ∧ At B (PlM s :: F) H ∧ ∀ v d B1 H1, Ex B B1 → Dp K B1 v d → WdP d → At B1 (PlM s :: F) H1 → Q v H1
theorem ok_word {f f_n f_g : Addr} {fd fd_n fd_g : FuncData} (F : Fun K "_law_word" "_law_word" s__law_word f fd) (D__law_next : Df K mg "_law_next" s__law_next ["pool", "many"] f_n fd_n) (G__law_next : FnOk P w K mg base CX0 1 f_n fd_n ["pool", "many"] spPN) (D__law_good : Df K mg "_law_good" s__law_good ["pool"] f_g fd_g) (G__law_good : FnOk P w K mg base CX0 3 f_g fd_g ["pool"] (spGood K)) (T : Glo mg) : FnOk P w K mg base CX0 4 f fd ["pool"] (spWord K) := by
  refine F.ok sc__law_word (fun vs H Q E h => ?_) (fun cdv A outer s H vs Q E hr h => ?_)
  · obtain ⟨s, B, F, rfl, _⟩ := h
    rfl
  · obtain ⟨s, B, Fr, rfl, hA, q⟩ := h
    refine ⟨_, (pss_cons (ps_set (i := 1) sc__law_word.nd rfl (.inl rfl) (pe_call G__law_next (hr.mono (by decide)) (by rfl) D__law_next.g D__law_next.F.kp D__law_next.b .nil pass0 (pa_cons (pv 0) (pa_cons pe_int pa_nil))))
  (pss_cons (ps_set (i := 2) sc__law_word.nd rfl (.inl rfl) (pe_lst (pa_cons pe_str (pa_cons pe_str (pa_cons pe_str (pa_cons pe_int (pa_cons pe_int (pa_cons pe_int (pa_cons pe_int (pa_cons (pe_un un_neg pe_int) (pa_cons (pe_op op_pow pe_int pe_int) (pa_cons (pe_op op_add (pe_op op_pow pe_int pe_int) pe_int) (pa_cons (pe_un un_neg (pe_op op_pow pe_int pe_int)) (pa_cons (pe_op op_sub (pe_un un_neg (pe_op op_pow pe_int pe_int)) pe_int) (pa_cons (pe_op op_pow pe_int pe_int) (pa_cons pe_str (pa_cons pe_str (pa_cons pe_str pa_nil))))))))))))))))))
  (pss_cons (ps_set (i := 2) sc__law_word.nd rfl (.inl rfl) (pe_op op_cat (pv 2) (pe_lst (pa_cons (pe_op op_mulS pe_str pe_int) (pa_cons (pe_op op_mulS pe_str pe_int) (pa_cons pe_non (pa_cons pe_bl (pa_cons pe_bl (pa_cons (pe_lst pa_nil) (pa_cons (pe_tup pa_nil) (pa_cons (pe_lst (pa_cons pe_str (pa_cons pe_int pa_nil))) (pa_cons pe_str (pa_cons (pe_op op_add_str (pe_op op_mulS pe_str pe_int) pe_str) pa_nil)))))))))))))
  (pss_cons (ps_if (pt_cmpR op_lt (pv 1) (pe_callB call_len_seq (by rfl) T.len PySem.boot_len (pa_cons (pv 2) pa_nil)) (nomark _))
  (pss_one (ps_ret (pe_ix ix_list (pv 2) (pv 1) (fun _ _ => rfl))))
  pss_nil)
  (pss_cons (ps_if (pt_cmpR op_lt (pv 1) pe_int (nomark _))
  (pss_one (ps_ret (pe_ix ix_list (pe_lst (pa_cons pe_str (pa_cons pe_str (pa_cons pe_str (pa_cons pe_int (pa_cons pe_int pa_nil)))))) (pe_call G__law_next (hr.mono (by decide)) (by rfl) D__law_next.g D__law_next.F.kp D__law_next.b .nil pass0 (pa_cons (pv 0) (pa_cons pe_int pa_nil))) (fun _ _ => rfl))))
  pss_nil)
  (pss_one (ps_ret (pe_call G__law_good (hr.mono (by decide)) (by rfl) D__law_good.g D__law_good.F.kp D__law_good.b .nil pass0 (pa_cons (pv 0) pa_nil))))))))), ?_⟩
    refine qw_asg hA (wv_pn 0 rfl rfl (fun H => ev_c) (by decide) (by decide)) fun v B1 H1 b1 hA ⟨ch, hv, hch⟩ => ?_
    subst hv
    have p40 : ∀ {σ : L2.St} {H : Hp}, Ev (tOp (rI CPow fun i j => .int (i ^ j.toNat)) (tC (.int 10)) (tC (.int 40))) σ H (.int 10000000000000000000000000000000000000000) := fun {σ H} => by
      refine' ev_is ?c ?d
      case c => walk_at "ev"
      case d => rfl
    refine wn_asg (K := K) (ds := oddVs) hA (fun B2 b2 => en_lst (eds_cons ed_str (eds_cons ed_str (eds_cons ed_str (eds_cons (ed_int ev_c) (eds_cons (ed_int ev_c) (eds_cons (ed_int ev_c) (eds_cons (ed_int ev_c) (eds_cons (ed_int (ev_un ev_c ru_neg)) (eds_cons (ed_int p18) (eds_cons (ed_int (ev_op p18 ev_c rv_I0)) (eds_cons (ed_int (ev_un p18 ru_neg)) (eds_cons (ed_int (ev_op (ev_un p18 ru_neg) ev_c rv_I0)) (eds_cons (ed_int p40) (eds_cons ed_str (eds_cons ed_str (eds_cons ed_str eds_nil)))))))))))))))) (by decide)) fun p xs B2 H2 b2 hp hd hA => ?_
    refine wn_asg (K := K) (ds := oddVs ++ oddWs) hA (fun B3 b3 => en_catV (ev_var rfl) (b3 _ _ hp) (dpa_mono b3 _ _ hd) (en_lst (eds_cons (ed_of (ev_mulS ev_c ev_c (mul_ok (n := 200) (by decide) (by decide) (by decide))) (.str _)) (eds_cons (ed_of (ev_mulS ev_c ev_c (mul_ok (n := 201) (by decide) (by decide) (by decide))) (.str _)) (eds_cons ed_non (eds_cons (ed_bool ev_c) (eds_cons (ed_bool ev_c) (eds_cons (ed_new (en_lst eds_nil (by decide))) (eds_cons (ed_tup eds_nil (by decide)) (eds_cons (ed_new (en_lst (eds_cons ed_str (eds_cons (ed_int ev_c) eds_nil)) (by show 2 ≤ 100000; decide))) (eds_cons ed_str (eds_cons (ed_of (ev_addS (ev_mulS ev_c ev_c (mul_ok (n := 150) (by decide) (by decide) (by decide))) ev_c (by decide +kernel)) (.str _)) eds_nil)))))))))) (by decide)) (by decide)) fun p2 ys B3 H3 b3 hp2 hd2 hA => ?_
    have hyl := dpa_len hd2
    have hS := sq_of (K := K) ((at_base hA) _ _ hp2)
    refine qe_when (b := decide (ch < 26)) hA (et_test (ev_is (ev_op (ev_var rfl) (ev_cb (ea_cons (ev_var rfl) ea_nil) (rc_len hS)) rv_I0) (by rw [hyl]; rfl))) (fun hb H4 hA => ?_) (fun hb H4 hA => ?_)
    · have hb := of_decide_eq_true hb
      obtain ⟨k, rfl⟩ : ∃ k : Nat, ch = (k : Int) := ⟨ch.toNat, by omega⟩
      have hk : k < (oddVs ++ oddWs).length := by show k < 26; omega
      obtain ⟨x, hx, hxd⟩ := dpa_at hd2 (List.getElem?_eq_getElem hk)
      exact se_ret hA (ev_op (ev_var rfl) (ev_var rfl) (rv_ixL (sq_of ((at_base hA) _ _ hp2)) (atI_nat hx))) fun H5 hA => q x _ B3 H5 (b1.trans (b2.trans b3)) hxd (odd_ok _ (List.getElem_mem hk)) hA
    · refine qe_when (b := decide (ch < 37)) hA (et_test (ev_op (ev_var rfl) ev_c rv_I0)) (fun _ H5 hA => ?_) (fun _ H5 hA => ?_)
      · exact sw_ret hA (wv_ixLG (K := K) (ds := [.str "i", .str "s", .str "t", .int 0, .int 1]) (φ := fun r => 0 ≤ r ∧ r < 5) (by decide) (fun B1 b1 => eds_cons ed_str (eds_cons ed_str (eds_cons ed_str (eds_cons (ed_int ev_c) (eds_cons (ed_int ev_c) eds_nil))))) (wv_pn 0 rfl rfl (fun H => ev_c) (by decide) (by decide)) fun j hj => hj) fun v B4 H6 b4 hA ⟨d, hv, hd⟩ => q v d B4 H6 (b1.trans (b2.trans (b3.trans b4))) hv (odd_ok d (by
          simp only [List.mem_cons, List.not_mem_nil, or_false] at hd
          simp only [oddVs, oddWs, List.mem_append, List.mem_cons, List.not_mem_nil, or_false]
          rcases hd with rfl | rfl | rfl | rfl | rfl <;> simp)) hA
      · exact go_call (go_cons (ev_var rfl) fun H6 e6 => go_nil ⟨s, B3, _, rfl, at_ex hA e6, fun v d B4 H7 b4 hv hd hA => q v d B4 H7 (b1.trans (b2.trans (b3.trans b4))) hv (isP_wd hd) hA⟩)

def IS (x : PyData) : Prop := (∃ i, x = .int i) ∨ ∃ z, x = .str z ∧ isT (.str z) = true
mutual
theorem words_is : ∀ (d : PyData), isV d = true → ∀ x ∈ wordsOf d, IS x
  | .tuple ds, hv => by
    intro x hx
    have hx : x ∈ PyData.str "t" :: .int (ds.length : Int) :: wordsOfs ds := hx
    rcases List.mem_cons.mp hx with rfl | hx
    · exact .inr ⟨_, rfl, by decide⟩
    · rcases List.mem_cons.mp hx with rfl | hx
      · exact .inl ⟨_, rfl⟩
      · exact wordss_is ds hv x hx
  | .str z, hv => by
    intro x hx
    have ht : isT (.str z) = true := by simpa [isV, isP, isI] using hv
    have hx : x ∈ [PyData.str "s", .str z] := hx
    rcases List.mem_cons.mp hx with rfl | hx
    · exact .inr ⟨_, rfl, by decide⟩
    · rw [List.mem_singleton.mp hx]
      exact .inr ⟨_, rfl, ht⟩
  | .int i, hv => by
    intro x hx
    have hx : x ∈ [PyData.str "i", .int i] := hx
    rcases List.mem_cons.mp hx with rfl | hx
    · exact .inr ⟨_, rfl, by decide⟩
    · rw [List.mem_singleton.mp hx]
      exact .inl ⟨_, rfl⟩
  | .none, hv => by simp [isV, isP, isI, isT] at hv
  | .bool _, hv => by simp [isV, isP, isI, isT] at hv
  | .list _, hv => by simp [isV, isP, isI, isT] at hv
  | .dict _, hv => by simp [isV, isP, isI, isT] at hv
theorem wordss_is : ∀ (ds : List PyData), isVs ds = true → ∀ x ∈ wordsOfs ds, IS x
  | [], _ => fun _ h => nomatch h
  | d :: r, hv => by
    have hv := Bool.and_eq_true_iff.mp (show (isV d && isVs r) = true from hv)
    intro x hx
    rcases List.mem_append.mp (show x ∈ wordsOf d ++ wordsOfs r from hx) with hx | hx
    · exact words_is d hv.1 x hx
    · exact wordss_is r hv.2 x hx
end
theorem is_wd {x : PyData} (h : IS x) : WdP x := by
  rcases h with ⟨i, rfl⟩ | ⟨z, rfl, hz⟩
  · exact wd_int i
  · refine isP_wd ?_
    show (isI (.str z) || isT (.str z)) = true
    rw [hz]
    exact Bool.or_true _
/-! ### lists of words that are cut and put together -/
theorem go_slM {σ : L2.St} {B H : Hp} {l : List MP} {te : TE} {tl th : TO} {a : Addr} {ds : List PyData} {lo hi : Option Int} {Q : VK} (n : Nat) (e : l[n]? = some (LstM K a ds)) (hA : At B l H) (h : ∀ H1, Ev te σ H1 (.ref a)) (h1 : ∀ H1, EvO tl σ H1 lo) (h2 : ∀ H1, EvO th σ H1 hi)
    (k : ∀ p es H1, At B (LstM K p es :: l) H1 → es.length ≤ ds.length → (∀ d ∈ es, d ∈ ds) → Q (.ref p) H1) : tSl (rSlL K) te tl th σ H Q := by
  obtain ⟨xs, hd, hH⟩ := lst_at n e hA
  refine (el_sl (K := K) (h H) (h1 H) (h2 H) (sq_of hH)) H (Ex.refl H) _ fun p H1 np e1 hp => ?_
  refine k p (cutA ds lo hi) H1 (lst_new hA np e1 hp (dpa_cut hd)) ?_ fun d hd => ?_
  · unfold cutA
    rw [List.length_take, List.length_drop]
    omega
  · unfold cutA at hd
    exact List.mem_of_mem_drop (List.mem_of_mem_take hd)
theorem go_catM {B H : Hp} {l : List MP} {a b : Addr} {ds es : List PyData} {Q : VK} (i j : Nat) (e1 : l[i]? = some (LstM K a ds)) (e2 : l[j]? = some (LstM K b es)) (hA : At B l H) (hz : ds.length + es.length ≤ 100000) (k : ∀ p H1, At B (LstM K p (ds ++ es) :: l) H1 → Q (.ref p) H1) : rCat (.ref a) (.ref b) H Q := by
  obtain ⟨xs, hd1, h1⟩ := lst_at i e1 hA
  obtain ⟨ys, hd2, h2⟩ := lst_at j e2 hA
  refine ⟨a, b, xs, ys, rfl, rfl, h1, h2, by rw [dpa_len hd1, dpa_len hd2]; exact sz_of hz, fun p hp => k p _ ?_⟩
  exact lst_new hA hp (Ex.new hp) upd_same (dpa_app hd1 hd2)
theorem wl_lcGW {σ : L2.St} {B : Hp} {l : List MP} {te tn : TE} {t : TT} {j : Nat} {φ : PyData → Prop} {ψ : Int → Prop} {m : Nat} {vs : List Nat} (hψ : ∀ n, ψ n → 0 ≤ n ∧ n ≤ (m : Int)) (hm : m ≤ 40000) (h : Wv tn σ B l (rN ψ)) (hw : ∀ x, wipe ((wipe σ vs).set j (some x)) vs = wipe σ vs)
    (ht : ∀ (i : Nat) H, EvT t ((wipe σ vs).set j (some (.int (i : Int)))) H true) (he : ∀ (i : Nat) p acc, Wv te ((wipe σ vs).set j (some (.int (i : Int)))) B (Pt p (.lst acc) :: l) (rG K φ)) :
    ∀ B1 H, Ex B B1 → At B1 l H → ∀ Q : VK, (∀ p ds B2 H2, Ex B1 B2 → At B2 (LstM K p ds :: l) H2 → (∀ d ∈ ds, φ d) → ds.length ≤ m → Q (.ref p) H2) → tLc (iRng1 (tCons tn tNil)) (gName j) t te vs σ H Q := fun B1 H0 e0 hA Q q => h B1 H0 e0 hA _ fun v B2 H1 e1 hA1 ⟨n, hv, hn⟩ => by
  subst hv
  have hn := hψ n hn
  refine ⟨n, rfl, by omega, by omega, fun Dl hD => ?_⟩
  refine lc_range (lo := 0) (n := n.toNat) (fun i H' => ∃ B' acc ds, Ex B2 B' ∧ At B' (Pt Dl (.lst acc) :: l) H' ∧ DpAll K B' acc ds ∧ (∀ d ∈ ds, φ d) ∧ ds.length = i) ⟨B2, [], [], Ex.refl B2, at_new hA1 hD (Ex.new hD) upd_same, .nil, fun x hx => absurd hx List.not_mem_nil, rfl⟩ (fun i H' hi p => ?_) (fun H' p => ?_)
  · have e0' : (0 : Int) + (i : Int) = (i : Int) := Int.zero_add _
    rw [e0']
    obtain ⟨B', acc, ds, b1, hA', ha, hp, hl⟩ := p
    refine ⟨hw _, ht i H' H' (Ex.refl H') _ fun H3 e3 => ?_⟩
    rw [if_pos rfl]
    refine he i Dl acc B' H3 ((e0.trans e1).trans b1) (at_ex hA' e3) _ fun y B4 H4 e4 hA4 ⟨d, hy, hd⟩ => ⟨acc, at_get 0 rfl hA4, sz_lt (by rw [dpa_len ha]; omega), B4, acc ++ [y], ds ++ [d], b1.trans e4, at_upd (u := .lst (acc ++ [y])) 0 rfl hA4, dpa_app (dpa_mono e4 _ _ ha) (dpa_one hy), fun x hx => ?_, by rw [List.length_append, hl]; rfl⟩
    rcases List.mem_append.mp hx with hx | hx
    · exact hp x hx
    · rw [List.mem_singleton.mp hx]
      exact hd
  · obtain ⟨B', acc, ds, b1, hA', ha, hp, hl⟩ := p
    exact q Dl ds B' H' (e1.trans b1) (at_closeL (K := K) 0 rfl ha hA') hp (by omega)
theorem wv_word {σ : L2.St} {B : Hp} {l : List MP} {s : Addr} {E : XK} {i : Nat} (j : Nat) (hj : l[j]? = some (PlM s)) (hs : σ[i]? = some (some (.ref s))) : Wv (tCall (spWord K) [] E (tCons (tVar i) tNil)) σ B l (rG K WdP) := fun B1 H e1 hA Q q =>
  go_call (go_cons (ev_var hs) fun H1 e2 => go_nil ⟨s, B1, l.eraseIdx j, rfl, at_pull j hj (at_ex hA e2), fun v d B2 H2 b2 hv hd hA2 => q v B2 H2 b2 (by
    have := at_put j hj hA2
    rwa [List.set_getElem?_self' hj] at this) ⟨d, hv, hd⟩⟩)
/-- a statement, then what holds behind it -/
theorem q_seqJ {σ : L2.St} {H : Hp} {D : Ends} {ts tz : TS} (C : L2.St → Hp → Prop) (h : ∀ nx' : L2.St → Hp → Prop, (∀ σ1 H1, C σ1 H1 → nx' σ1 H1) → ts { D with nx := nx' } σ H) (k : ∀ σ1 H1, C σ1 H1 → tz D σ1 H1) : tSeq ts tz D σ H := h (tz D) k

theorem dpa_set : ∀ {H : Hp} {xs : List V} {ds : List PyData} {v : V} {d : PyData} (i : Nat), DpAll K H xs ds → Dp K H v d → DpAll K H (xs.set i v) (ds.set i d)
  | _, _, _, _, _, _, .nil, _ => .nil
  | _, _, _, _, _, 0, .cons _ h2, h => .cons h h2
  | _, _, _, _, _, i + 1, .cons h1 h2, h => .cons h1 (dpa_set i h2 h)
def spWList (K : PySem.W.Frag) : Sp := fun vs H Q _ => ∃ (s : Addr) (B : Hp) (F : List MP), vs = [.ref s] ∧ At B (PlM s :: F) H ∧ ∀ p ds B1 H1, Ex B B1 → ds.length ≤ 40000 → (∀ d ∈ ds, WdP d) → At B1 (LstM K p ds :: PlM s :: F) H1 → Q (.ref p) H1
theorem pow8 {i : Nat} (h : i ≤ 3) : 8 ^ i ≤ 512 := by
  have h2 : i = 0 ∨ i = 1 ∨ i = 2 ∨ i = 3 := by omega
  rcases h2 with rfl | rfl | rfl | rfl <;> decide
theorem ok_wlist {f f_n f_w f_t : Addr} {fd fd_n fd_w fd_t : FuncData} (F : Fun K "_law_list" "_law_list" s__law_list f fd) (D__law_next : Df K mg "_law_next" s__law_next ["pool", "many"] f_n fd_n) (G__law_next : FnOk P w K mg base CX0 1 f_n fd_n ["pool", "many"] spPN) (D__law_word : Df K mg "_law_word" s__law_word ["pool"] f_w fd_w) (G__law_word : FnOk P w K mg base CX0 4 f_w fd_w ["pool"] (spWord K))
    (D__law_tree : Df K mg "_law_tree" s__law_tree ["pool", "steps"] f_t fd_t) (G__law_tree : FnOk P w K mg base CX0 4 f_t fd_t ["pool", "steps"] (spTree K)) (T : Glo mg) : FnOk P w K mg base CX0 5 f fd ["pool"] (spWList K) := by
  refine F.ok sc__law_list (fun vs H Q E h => ?_) (fun cdv A outer s H vs Q E hr h => ?_)
  · obtain ⟨s, B, F, rfl, _⟩ := h
    rfl
  · obtain ⟨s, B, Fr, rfl, hA, q⟩ := h
    refine ⟨_, (pss_cons (ps_set (i := 1) sc__law_list.nd rfl (.inl rfl) (pe_callTy call_list_of (by rfl) T.list (by decide +kernel) (pa_cons (pe_ix ix_list (pe_call G__law_tree (hr.mono (by decide)) (by rfl) D__law_tree.g D__law_tree.F.kp D__law_tree.b .nil pass0 (pa_cons (pv 0) (pa_cons (pe_call G__law_next (hr.mono (by decide)) (by rfl) D__law_next.g D__law_next.F.kp D__law_next.b .nil pass0 (pa_cons (pv 0) (pa_cons pe_int pa_nil))) pa_nil))) pe_int (fun _ _ => rfl)) pa_nil)))
  (pss_cons (ps_if (pt_cmpR op_eq (pe_call G__law_next (hr.mono (by decide)) (by rfl) D__law_next.g D__law_next.F.kp D__law_next.b .nil pass0 (pa_cons (pv 0) (pa_cons pe_int pa_nil))) pe_int (nomark _))
  (pss_one (ps_setLc (i := 1) (own := [("k", 2)]) (g := gName 2) rfl sc__law_list.nd rfl rfl (sw_true rfl rfl rfl (by decide +kernel)) (pi_range1 (by rfl) T.range (pa_cons (pe_call G__law_next (hr.mono (by decide)) (by rfl) D__law_next.g D__law_next.F.kp D__law_next.b .nil pass0 (pa_cons (pv 0) (pa_cons pe_int pa_nil))) pa_nil)) (blkOk_by (N := N__law_list) (sc := defScope s__law_list) (by decide +kernel)) (fun _ _ _ _ _ => (pg_name (i := 2) sc__law_list.nd rfl (.inl rfl))) (fun _ _ _ _ _ => pts_nil) (fun _ _ _ _ _ => (pe_call G__law_word (hr.mono (by decide)) (by rfl) D__law_word.g D__law_word.F.kp D__law_word.b .nil pass0 (pa_cons (pv 0) pa_nil)))))
  pss_nil)
  (pss_cons (ps_if (pt_cmpR op_eq (pe_call G__law_next (hr.mono (by decide)) (by rfl) D__law_next.g D__law_next.F.kp D__law_next.b .nil pass0 (pa_cons (pv 0) (pa_cons pe_int pa_nil))) pe_int (nomark _))
  (pss_one (ps_set (i := 1) sc__law_list.nd rfl (.inl rfl) (pe_op op_cat (pe_op op_rep (pe_lst (pa_cons pe_str (pa_cons pe_int pa_nil))) (pe_call G__law_next (hr.mono (by decide)) (by rfl) D__law_next.g D__law_next.F.kp D__law_next.b .nil pass0 (pa_cons (pv 0) (pa_cons pe_int pa_nil)))) (pv 1))))
  pss_nil)
  (pss_cons (ps_for PassesOwn.never rfl (pi_range1 (by rfl) T.range (pa_cons (pe_call G__law_next (hr.mono (by decide)) (by rfl) D__law_next.g D__law_next.F.kp D__law_next.b .nil pass0 (pa_cons (pv 0) (pa_cons pe_int pa_nil))) pa_nil)) (pg_name (i := 2) sc__law_list.nd rfl (.inl rfl))
  (pss_cons (ps_set (i := 3) sc__law_list.nd rfl (.inl rfl) (pe_call G__law_next (hr.mono (by decide)) (by rfl) D__law_next.g D__law_next.F.kp D__law_next.b .nil pass0 (pa_cons (pv 0) (pa_cons pe_int pa_nil))))
  (pss_cons (ps_set (i := 4) sc__law_list.nd rfl (.inl rfl) (pe_call G__law_next (hr.mono (by decide)) (by rfl) D__law_next.g D__law_next.F.kp D__law_next.b .nil pass0 (pa_cons (pv 0) (pa_cons (pe_op op_add (pe_callB call_len_seq (by rfl) T.len PySem.boot_len (pa_cons (pv 1) pa_nil)) pe_int) pa_nil))))
  (pss_cons (ps_set (i := 5) sc__law_list.nd rfl (.inl rfl) (pe_call G__law_next (hr.mono (by decide)) (by rfl) D__law_next.g D__law_next.F.kp D__law_next.b .nil pass0 (pa_cons (pv 0) (pa_cons (pe_op op_add (pe_callB call_len_seq (by rfl) T.len PySem.boot_len (pa_cons (pv 1) pa_nil)) pe_int) pa_nil))))
  (pss_cons (ps_if (pt_cmpR op_eq (pv 3) pe_int (nomark _))
  (pss_one (ps_set (i := 1) sc__law_list.nd rfl (.inl rfl) (pe_op op_cat (pe_op op_cat (pe_slice sl_list (pv 1) po_none (po_some (pv 4))) (pe_lst (pa_cons (pe_call G__law_word (hr.mono (by decide)) (by rfl) D__law_word.g D__law_word.F.kp D__law_word.b .nil pass0 (pa_cons (pv 0) pa_nil)) pa_nil))) (pe_slice sl_list (pv 1) (po_some (pe_op op_add (pv 4) pe_int)) po_none))))
  pss_nil)
  (pss_cons (ps_if (pt_cmpR op_eq (pv 3) pe_int (nomark _))
  (pss_one (ps_set (i := 1) sc__law_list.nd rfl (.inl rfl) (pe_op op_cat (pe_slice sl_list (pv 1) po_none (po_some (pv 4))) (pe_slice sl_list (pv 1) (po_some (pe_op op_add (pv 4) pe_int)) po_none))))
  pss_nil)
  (pss_cons (ps_if (pt_cmpR op_eq (pv 3) pe_int (nomark _))
  (pss_one (ps_set (i := 1) sc__law_list.nd rfl (.inl rfl) (pe_op op_cat (pe_op op_cat (pe_slice sl_list (pv 1) po_none (po_some (pv 4))) (pe_lst (pa_cons (pe_call G__law_word (hr.mono (by decide)) (by rfl) D__law_word.g D__law_word.F.kp D__law_word.b .nil pass0 (pa_cons (pv 0) pa_nil)) pa_nil))) (pe_slice sl_list (pv 1) (po_some (pv 4)) po_none))))
  pss_nil)
  (pss_one (ps_if (PW.pt (pw_and (pt_cmpR op_eq (pv 3) pe_int (nomark _)) (pw_and (pt_cmpR op_lt (pv 4) (pe_callB call_len_seq (by rfl) T.len PySem.boot_len (pa_cons (pv 1) pa_nil)) (nomark _)) (pw_and1 (pt_cmpR op_lt (pv 5) (pe_callB call_len_seq (by rfl) T.len PySem.boot_len (pa_cons (pv 1) pa_nil)) (nomark _))))))
  (pss_cons (ps_set (i := 6) sc__law_list.nd rfl (.inl rfl) (pe_ix ix_list (pv 1) (pv 4) (fun _ _ => rfl)))
  (pss_cons (ps_asg (pe_ix ix_list (pv 1) (pv 5) (fun _ _ => rfl)) (pg_sub (pv 1) (pv 4) set_list))
  (pss_one (ps_asg (pv 6) (pg_sub (pv 1) (pv 5) set_list)))))
  pss_nil)))))))))
  (pss_one (ps_ret (pv 1))))))), ?_⟩
    refine q_do (go_cons' (go_op (go_call (go_cons (ev_var rfl) fun H1 e1 => go_cons' (wv_pn 0 rfl rfl (fun H => ev_c) (by decide) (by decide) B H1 (Ex.refl B) (at_ex hA e1) _ fun v B2 H2 b2 hA ⟨n0, hv, hn0⟩ => go_nil ?_)))))
    subst hv
    obtain ⟨n, rfl⟩ : ∃ k : Nat, n0 = (k : Int) := ⟨n0.toNat, by have := hn0.1; omega⟩
    refine ⟨s, n, B2, Fr, rfl, hA, by have := hn0.2; omega, fun r d B3 H3 b3 hrow hvd hdd hcd hA => go_ev ev_c fun H4 e4 => ?_⟩
    obtain ⟨ar, wr, v0, wd, rfl, g1, g2, g3, g4⟩ := hrow
    refine ⟨ar, _, 1, .ref wr, rfl, rfl, sq_of ((at_base (at_ex hA e4)) _ _ g1), rfl, go_nil ⟨wr, wd, rfl, .inl (sq_of ((at_base (at_ex hA e4)) _ _ g2)), fun pw hpw => ?_⟩⟩
    have hA := at_new (o := .lst wd) (at_ex hA e4) hpw (Ex.new hpw) upd_same
    have hA : At B3 (LstM K pw (wordsOf d) :: PlM s :: Fr) _ := at_closeL (K := K) 0 rfl g3 hA
    have hwl := words_len d
    have hl0 : (wordsOf d).length ≤ 40 := by have := hn0.2; omega
    have hw0 : ∀ x ∈ wordsOf d, WdP x := fun x hx => is_wd (words_is d hvd x hx)
    have b03 := b2.trans b3
    generalize wordsOf d = W0 at hA hl0 hw0
    clear hwl hcd hvd hdd g1 g2 g3 g4
    -- words drawn one by one
    refine q_seqJ (fun σ1 H1 => ∃ (a : Addr) (ds : List PyData) (B' : Hp), σ1 = [some (.ref s), some (.ref a), none, none, none, none, none] ∧ Ex B B' ∧ At B' (LstM K a ds :: PlM s :: Fr) H1 ∧ ds.length ≤ 40 ∧ ∀ x ∈ ds, WdP x) (fun nx' hnx => ?_) (fun σ1 H1 hC => ?_)
    · refine sw_ifEq hA (wv_pn 1 rfl rfl (fun H => ev_c) (by decide) (by decide)) (fun B5 H5 b5 hA => ?_) (fun B5 H5 b5 hA => ?_)
      · refine s_do (wl_lcGW (K := K) (m := 20) (φ := WdP) (fun n hn => ⟨hn.1, by have := hn.2; omega⟩) (by decide) (wv_pn 1 rfl rfl (fun H => ev_c) (by decide) (by decide)) (fun _ => rfl) (fun i H => et_nil) (fun i p acc => wv_word (K := K) 2 rfl rfl) B5 H5 (Ex.refl B5) hA _ fun p ds B6 H6 b6 hA hall hl => hnx _ _ ⟨p, ds, B6, rfl, b03.trans (b5.trans b6), at_mid hA, by omega, hall⟩)
      · exact hnx _ _ ⟨pw, W0, B5, rfl, b03.trans b5, hA, hl0, hw0⟩
    clear hA hl0 hw0 b03 b2 b3
    obtain ⟨a, ds, B', rfl, b0, hA, hl, hw⟩ := hC
    -- pairs ahead
    refine q_seqJ (fun σ1 H1 => ∃ (a : Addr) (ds : List PyData) (B' : Hp), σ1 = [some (.ref s), some (.ref a), none, none, none, none, none] ∧ Ex B B' ∧ At B' (LstM K a ds :: PlM s :: Fr) H1 ∧ ds.length ≤ 70 ∧ ∀ x ∈ ds, WdP x) (fun nx' hnx => ?_) (fun σ1 H1 hC => ?_)
    · refine sw_ifEq hA (wv_pn 1 rfl rfl (fun H => ev_c) (by decide) (by decide)) (fun B5 H5 b5 hA => ?_) (fun B5 H5 b5 hA => ?_)
      · refine s_do (go_op (go_op (go_lst (go_cons ev_c fun H6 e6 => go_cons ev_c fun H7 e7 => go_nil ⟨by show 2 ≤ sizeLine; decide, fun pl hpl => ?_⟩))))
        have hA := at_new (o := .lst [.str "t", .int 1]) (at_ex hA (e6.trans e7)) hpl (Ex.new hpl) upd_same
        refine wv_pn 2 rfl rfl (fun H => ev_c) (by decide) (by decide) B5 _ (Ex.refl B5) hA _ fun v B8 H8 b8 hA ⟨n1, hv, hn1⟩ => ?_
        subst hv
        obtain ⟨h1, h2⟩ := hn1
        refine ⟨pl, n1, _, rfl, rfl, at_get 0 rfl hA, by omega, by omega, ?_, fun pr hpr => ?_⟩
        · show 2 * n1.toNat ≤ sizeLine
          exact sz_of (by omega)
        have hrep : ∀ k : Nat, ∃ es : List PyData, DpAll K B8 (List.replicate k [V.str "t", .int 1]).flatten es ∧ es.length = 2 * k ∧ ∀ x ∈ es, WdP x := fun k => by
          induction k with
          | zero => exact ⟨[], .nil, rfl, fun _ h => nomatch h⟩
          | succ k ih =>
            obtain ⟨es, h1, h2, h3⟩ := ih
            refine ⟨.str "t" :: .int 1 :: es, ?_, by rw [List.length_cons, List.length_cons, h2]; omega, fun x hx => ?_⟩
            · rw [List.replicate_succ, List.flatten_cons]
              exact .cons (.str _) (.cons (.int _) h1)
            · rcases List.mem_cons.mp hx with rfl | hx
              · exact wd_str (by decide) (by decide +kernel)
              · rcases List.mem_cons.mp hx with rfl | hx
                · exact wd_int _
                · exact h3 x hx
        obtain ⟨es, r1, r2, r3⟩ := hrep n1.toNat
        have hA := at_new (o := .lst (List.replicate n1.toNat [V.str "t", .int 1]).flatten) hA hpr (Ex.new hpr) upd_same
        have hA : At B8 (LstM K pr es :: LstM K a ds :: PlM s :: Fr) _ := at_mid (at_closeL (K := K) 0 rfl r1 hA)
        refine go_ev (ev_var rfl) fun H9 e9 => go_catM (K := K) 0 1 rfl rfl (at_ex hA e9) (by omega) fun p H10 hA => hnx _ _ ⟨p, es ++ ds, B8, rfl, b0.trans (b5.trans b8), at_mid (at_mid hA), by rw [List.length_append]; omega, fun x hx => ?_⟩
        rcases List.mem_append.mp hx with hx | hx
        · exact r3 x hx
        · exact hw x hx
      · exact hnx _ _ ⟨a, ds, B5, rfl, b0.trans b5, hA, by omega, hw⟩
    clear hA hl hw b0
    obtain ⟨a, ds, B', rfl, b0, hA, hl, hw⟩ := hC
    -- the changes
    refine q_forR1W hA (wv_pn 1 rfl rfl (fun H => ev_c) (by decide) (by decide)) (fun n hn => ⟨hn.1, by have := hn.2; omega⟩) (fun n i σ' H' => ∃ (a : Addr) (ds : List PyData) (B' : Hp) (y2 y3 y4 y5 y6 : Option V), σ' = [some (.ref s), some (.ref a), y2, y3, y4, y5, y6] ∧ Ex B B' ∧ At B' (LstM K a ds :: PlM s :: Fr) H' ∧ ds.length + 1 ≤ 71 * 8 ^ i ∧ ∀ x ∈ ds, WdP x) (fun n B1 H2 hn b1 hA => ⟨a, ds, B1, _, _, _, _, _, rfl, b0.trans b1, hA, by show ds.length + 1 ≤ 71 * 1; omega, hw⟩) (fun n i σ' H' hn hi p => ?_) (fun n σ' H' hn p => ?_)
    · clear hA hl hw b0 a ds B'
      obtain ⟨a, ds, B', y2, y3, y4, y5, y6, rfl, b0, hA, hl, hw⟩ := p
      have hi2 : i ≤ 2 := by have := hn.2; omega
      have h8 := pow8 (i := i) (by omega)
      refine qw_asg hA (wv_pn 1 rfl rfl (fun H => ev_c) (by decide) (by decide)) fun v B1 H1 b1 hA ⟨ch, hv, hch⟩ => ?_
      subst hv
      refine q_do (go_call (go_cons (ev_var rfl) fun H2 e2 => go_cons (ev_op (ev_lenM (K := K) 0 rfl (at_ex hA e2) (ev_var rfl)) ev_c rv_I0) fun H3 e3 => go_nil ⟨s, _, B1, _, rfl, at_swap (at_ex hA (e2.trans e3)), by omega, by omega, fun pl H4 p0 p1 hA => ?_⟩))
      have hA := at_swap hA
      refine q_do (go_call (go_cons (ev_var rfl) fun H5 e5 => go_cons (ev_op (ev_lenM (K := K) 0 rfl (at_ex hA e5) (ev_var rfl)) ev_c rv_I0) fun H6 e6 => go_nil ⟨s, _, B1, _, rfl, at_swap (at_ex hA (e5.trans e6)), by omega, by omega, fun ot H7 t0 t1 hA => ?_⟩))
      have hA : At B1 (LstM K a ds :: PlM s :: Fr) H7 := at_swap hA
      have b0 := b0.trans b1
      generalize hm : 71 * 8 ^ i = m at hl
      have hm2 : m ≤ 71 * 64 := by
        have : i = 0 ∨ i = 1 ∨ i = 2 := by omega
        rcases this with rfl | rfl | rfl <;> omega
      -- a word put in the place of one
      refine q_seqJ (fun σ1 H1 => ∃ (a : Addr) (ds : List PyData) (B' : Hp) (y6 : Option V), σ1 = [some (.ref s), some (.ref a), some (.int (i : Int)), some (.int ch), some (.int pl), some (.int ot), y6] ∧ Ex B B' ∧ At B' (LstM K a ds :: PlM s :: Fr) H1 ∧ ds.length + 1 ≤ 2 * m ∧ ∀ x ∈ ds, WdP x) (fun nx' hnx => ?_) (fun σ1 H1 hC => ?_)
      · refine se_when (b := decide (ch = 0)) hA (et_test (ev_op (ev_var rfl) ev_c rv_eqI)) (fun hb H8 hA => ?_) (fun hb H8 hA => hnx _ _ ⟨a, ds, B1, _, rfl, b0, hA, by omega, hw⟩)
        refine s_do (go_op (go_op (go_slM (K := K) 0 rfl hA (fun H => ev_var rfl) (fun H => eo_none) (fun H => eo_some (ev_var rfl)) fun q1 es1 H9 hA l1 m1 => go_lst (go_cons' (wv_word (K := K) 2 rfl rfl B1 H9 (Ex.refl B1) hA _ fun v B10 H10 b10 hA ⟨d, hv, hd⟩ => go_nil ⟨by show 1 ≤ sizeLine; decide, fun pL hpL => ?_⟩)))))
        have hA := at_new (o := .lst [v]) hA hpL (Ex.new hpL) upd_same
        have hA : At B10 (LstM K pL [d] :: _) _ := at_closeL (K := K) 0 rfl (dpa_one hv) hA
        refine go_catM (K := K) 1 0 rfl rfl hA (by show es1.length + 1 ≤ 100000; omega) fun q2 H11 hA => go_slM (K := K) 3 rfl hA (fun H => ev_var rfl) (fun H => eo_some (ev_op (ev_var rfl) ev_c rv_I0)) (fun H => eo_none) fun q3 es3 H12 hA l3 m3 => go_catM (K := K) 1 0 rfl rfl hA (by rw [List.length_append]; show es1.length + 1 + es3.length ≤ 100000; omega) fun q4 H13 hA => hnx _ _ ⟨q4, es1 ++ [d] ++ es3, B10, _, rfl, b0.trans b10, at_mid (at_mid (at_mid (at_mid (at_mid hA)))), ?_, fun x hx => ?_⟩
        · rw [List.length_append, List.length_append]
          show es1.length + 1 + es3.length + 1 ≤ 2 * m
          omega
        · rcases List.mem_append.mp hx with hx | hx
          · rcases List.mem_append.mp hx with hx | hx
            · exact hw x (m1 x hx)
            · rw [List.mem_singleton.mp hx]; exact hd
          · exact hw x (m3 x hx)
      clear hA hl hw
      obtain ⟨a, ds, B', y6, rfl, b0, hA, hl, hw⟩ := hC
      -- a word left out
      refine q_seqJ (fun σ1 H1 => ∃ (a : Addr) (ds : List PyData) (B' : Hp) (y6 : Option V), σ1 = [some (.ref s), some (.ref a), some (.int (i : Int)), some (.int ch), some (.int pl), some (.int ot), y6] ∧ Ex B B' ∧ At B' (LstM K a ds :: PlM s :: Fr) H1 ∧ ds.length + 1 ≤ 4 * m ∧ ∀ x ∈ ds, WdP x) (fun nx' hnx => ?_) (fun σ1 H1 hC => ?_)
      · refine se_when (b := decide (ch = 1)) hA (et_test (ev_op (ev_var rfl) ev_c rv_eqI)) (fun hb H8 hA => ?_) (fun hb H8 hA => hnx _ _ ⟨a, ds, B', _, rfl, b0, hA, by omega, hw⟩)
        refine s_do (go_op (go_slM (K := K) 0 rfl hA (fun H => ev_var rfl) (fun H => eo_none) (fun H => eo_some (ev_var rfl)) fun q1 es1 H9 hA l1 m1 => go_slM (K := K) 1 rfl hA (fun H => ev_var rfl) (fun H => eo_some (ev_op (ev_var rfl) ev_c rv_I0)) (fun H => eo_none) fun q3 es3 H12 hA l3 m3 => go_catM (K := K) 1 0 rfl rfl hA (by omega) fun q4 H13 hA => hnx _ _ ⟨q4, es1 ++ es3, B', _, rfl, b0, at_mid (at_mid (at_mid hA)), ?_, fun x hx => ?_⟩))
        · rw [List.length_append]
          omega
        · rcases List.mem_append.mp hx with hx | hx
          · exact hw x (m1 x hx)
          · exact hw x (m3 x hx)
      clear hA hl hw
      obtain ⟨a, ds, B', y6, rfl, b0, hA, hl, hw⟩ := hC
      -- a word put in
      refine q_seqJ (fun σ1 H1 => ∃ (a : Addr) (ds : List PyData) (B' : Hp) (y6 : Option V), σ1 = [some (.ref s), some (.ref a), some (.int (i : Int)), some (.int ch), some (.int pl), some (.int ot), y6] ∧ Ex B B' ∧ At B' (LstM K a ds :: PlM s :: Fr) H1 ∧ ds.length + 1 ≤ 8 * m ∧ ∀ x ∈ ds, WdP x) (fun nx' hnx => ?_) (fun σ1 H1 hC => ?_)
      · refine se_when (b := decide (ch = 2)) hA (et_test (ev_op (ev_var rfl) ev_c rv_eqI)) (fun hb H8 hA => ?_) (fun hb H8 hA => hnx _ _ ⟨a, ds, B', _, rfl, b0, hA, by omega, hw⟩)
        refine s_do (go_op (go_op (go_slM (K := K) 0 rfl hA (fun H => ev_var rfl) (fun H => eo_none) (fun H => eo_some (ev_var rfl)) fun q1 es1 H9 hA l1 m1 => go_lst (go_cons' (wv_word (K := K) 2 rfl rfl B' H9 (Ex.refl B') hA _ fun v B10 H10 b10 hA ⟨d, hv, hd⟩ => go_nil ⟨by show 1 ≤ sizeLine; decide, fun pL hpL => ?_⟩)))))
        have hA := at_new (o := .lst [v]) hA hpL (Ex.new hpL) upd_same
        have hA : At B10 (LstM K pL [d] :: _) _ := at_closeL (K := K) 0 rfl (dpa_one hv) hA
        refine go_catM (K := K) 1 0 rfl rfl hA (by show es1.length + 1 ≤ 100000; omega) fun q2 H11 hA => go_slM (K := K) 3 rfl hA (fun H => ev_var rfl) (fun H => eo_some (ev_var rfl)) (fun H => eo_none) fun q3 es3 H12 hA l3 m3 => go_catM (K := K) 1 0 rfl rfl hA (by rw [List.length_append]; show es1.length + 1 + es3.length ≤ 100000; omega) fun q4 H13 hA => hnx _ _ ⟨q4, es1 ++ [d] ++ es3, B10, _, rfl, b0.trans b10, at_mid (at_mid (at_mid (at_mid (at_mid hA)))), ?_, fun x hx => ?_⟩
        · rw [List.length_append, List.length_append]
          show es1.length + 1 + es3.length + 1 ≤ 8 * m
          omega
        · rcases List.mem_append.mp hx with hx | hx
          · rcases List.mem_append.mp hx with hx | hx
            · exact hw x (m1 x hx)
            · rw [List.mem_singleton.mp hx]; exact hd
          · exact hw x (m3 x hx)
      clear hA hl hw
      obtain ⟨a, ds, B', y6, rfl, b0, hA, hl, hw⟩ := hC
      have hl : ds.length + 1 ≤ 71 * 8 ^ (i + 1) := by rw [Nat.pow_succ]; omega
      -- two words exchanged
      refine se_when (b := (decide (ch = 3) && (decide (pl < (ds.length : Int)) && decide (ot < (ds.length : Int))))) hA (et_and (et_test (ev_op (ev_var rfl) ev_c rv_eqI)) fun _ => et_and (et_test (ev_op (ev_var rfl) (ev_lenM (K := K) 0 rfl hA (ev_var rfl)) rv_I0)) fun _ => et_test (ev_op (ev_var rfl) (ev_lenM (K := K) 0 rfl hA (ev_var rfl)) rv_I0)) (fun hb H8 hA => ?_) (fun hb H8 hA => ⟨a, ds, B', _, _, _, _, _, rfl, b0, hA, hl, hw⟩)
      obtain ⟨_, hb⟩ := Bool.and_eq_true_iff.mp hb
      obtain ⟨hb1, hb2⟩ := Bool.and_eq_true_iff.mp hb
      have hb1 := of_decide_eq_true hb1
      have hb2 := of_decide_eq_true hb2
      obtain ⟨k1, rfl⟩ : ∃ k : Nat, pl = (k : Int) := ⟨pl.toNat, by omega⟩
      obtain ⟨k2, rfl⟩ : ∃ k : Nat, ot = (k : Int) := ⟨ot.toNat, by omega⟩
      have hk1 : k1 < ds.length := by omega
      have hk2 : k2 < ds.length := by omega
      obtain ⟨xs, hd, hA⟩ := at_openL (K := K) 0 rfl hA
      have hA : At B' (Pt a (.lst xs) :: PlM s :: Fr) H8 := hA
      have hxl := dpa_len hd
      obtain ⟨x1, hx1, hd1⟩ := dpa_at hd (List.getElem?_eq_getElem hk1)
      obtain ⟨x2, hx2, hd2⟩ := dpa_at hd (List.getElem?_eq_getElem hk2)
      refine qe_asg hA (ev_op (ev_var rfl) (ev_var rfl) (rv_ixL (sq_of (at_get 0 rfl hA)) (atI_nat hx1))) fun H9 hA => ?_
      refine qe_set (i := k1) (m := k1) 0 rfl hA (ev_op (ev_var rfl) (ev_var rfl) (rv_ixL (sq_of (at_get 0 rfl hA)) (atI_nat hx2))) (fun H => ev_var rfl) (fun H => ev_var rfl) (ixN_nat (by omega)) fun H10 hA => ?_
      have hA : At B' (Pt a (.lst (xs.set k1 x2)) :: PlM s :: Fr) H10 := hA
      refine (ev_var rfl) H10 (Ex.refl H10) _ fun H11 e11 => (ev_var rfl) H11 (Ex.refl H11) _ fun H12 e12 => (ev_var rfl) H12 (Ex.refl H12) _ fun H13 e13 => ⟨a, xs.set k1 x2, (k2 : Int), k2, rfl, rfl, at_get 0 rfl (at_ex hA ((e11.trans e12).trans e13)), ixN_nat (by rw [List.length_set]; omega), ?_⟩
      have hA := at_upd (u := .lst ((xs.set k1 x2).set k2 x1)) 0 rfl (at_ex hA ((e11.trans e12).trans e13))
      have hA := at_closeL (K := K) 0 rfl (dpa_set k2 (dpa_set k1 hd hd2) hd1) hA
      refine ⟨a, _, B', _, _, _, _, _, rfl, b0, hA, by rw [List.length_set, List.length_set]; exact hl, fun x hx => ?_⟩
      rcases List.mem_or_eq_of_mem_set hx with hx | rfl
      · rcases List.mem_or_eq_of_mem_set hx with hx | rfl
        · exact hw x hx
        · exact hw _ (List.getElem_mem hk2)
      · exact hw _ (List.getElem_mem hk1)
    · obtain ⟨a, ds, B', y2, y3, y4, y5, y6, rfl, b0, hA, hl, hw⟩ := p
      have h8 := pow8 (i := n.toNat) (by have := hn.1; have := hn.2; omega)
      exact se_ret hA (ev_var rfl) fun H4 hA => q a ds B' H4 b0 (by omega) hw hA

/-! ### the reading with a stack says the same as takeD -/
structure Fm where
  e : Addr
  r : Addr
  c : Int
  row : List PyData
def finS (ds : List PyData) : List Fm → PyData → Int → Option (PyData × Int)
  | [], d, e => some (d, e)
  | x :: S, d, e => match takeN (takeD ds (12 - (S.length + 1))) (x.c.toNat - x.row.length - 1) e with
    | none => none
    | some (l, e2) => finS ds S (.tuple (x.row ++ d :: l)) e2
def goS (ds : List PyData) (S : List Fm) (i : Int) : Option (PyData × Int) := match takeD ds (12 - S.length) i with
  | none => none
  | some (d, e) => finS ds S d e
theorem goS_nil (ds : List PyData) (i : Int) : goS ds [] i = takeD ds 12 i := by
  show (match takeD ds 12 i with | none => none | some (d, e) => finS ds [] d e) = takeD ds 12 i
  cases takeD ds 12 i with
  | none => rfl
  | some p => obtain ⟨d, e⟩ := p; rfl
theorem goS_none {ds : List PyData} {S : List Fm} {i : Int} (h : takeD ds (12 - S.length) i = none) : goS ds S i = none := by
  unfold goS
  rw [h]
theorem goS_val {ds : List PyData} {S : List Fm} {i : Int} {d : PyData} {e : Int} (h : takeD ds (12 - S.length) i = some (d, e)) : goS ds S i = finS ds S d e := by
  unfold goS
  rw [h]
theorem takeN_succ {f : Int → Option (PyData × Int)} {n : Nat} {i : Int} : takeN f (n + 1) i = (match f i with
    | none => none
    | some (d, e) => match takeN f n e with
      | none => none
      | some (l, e2) => some (d :: l, e2)) := rfl
theorem goS_push {ds : List PyData} {S : List Fm} {i b : Int} (e r : Addr) (hS : S.length < 12) (hp : pairD ds i = some (.str "t", .int b)) (hb : isN (.int b) = true) (h0 : 0 < b) : goS ds S i = goS ds (⟨e, r, b, []⟩ :: S) (i + 2) := by
  obtain ⟨n, hn⟩ : ∃ n : Nat, b.toNat = n + 1 := ⟨b.toNat - 1, by omega⟩
  have e1 : 12 - S.length = (12 - (S.length + 1)) + 1 := by omega
  have h1 : takeD ds (12 - S.length) i = (match takeN (takeD ds (12 - (S.length + 1))) (n + 1) (i + 2) with
        | some (l, e) => some (.tuple l, e)
        | none => none) := by
    rw [e1]
    show takeB ds (some (takeD ds (12 - (S.length + 1)))) i = _
    rw [takeB_str hp, if_neg (by decide), if_neg (by decide), if_pos rfl, if_pos hb]
    show (match takeN (takeD ds (12 - (S.length + 1))) b.toNat (i + 2) with
        | some (l, e) => some (PyData.tuple l, e)
        | none => none) = _
    rw [hn]
  unfold goS
  rw [h1, takeN_succ]
  show _ = (match takeD ds (12 - (S.length + 1)) (i + 2) with
    | none => none
    | some (d, e1) => match takeN (takeD ds (12 - (S.length + 1))) (b.toNat - 0 - 1) e1 with
      | none => none
      | some (l, e2) => finS ds S (.tuple ([] ++ d :: l)) e2)
  cases h2 : takeD ds (12 - (S.length + 1)) (i + 2) with
  | none => rfl
  | some p =>
    obtain ⟨d, e2⟩ := p
    have e3 : b.toNat - 0 - 1 = n := by omega
    rw [e3]
    cases h3 : takeN (takeD ds (12 - (S.length + 1))) n e2 with
    | none => simp only [h3]
    | some q =>
      obtain ⟨l, e4⟩ := q
      simp only [h3]
      rfl
theorem finS_more {ds : List PyData} {S : List Fm} {x : Fm} {d : PyData} {e : Int} (h : x.row.length + 1 < x.c.toNat) : finS ds (x :: S) d e = goS ds ({ x with row := x.row ++ [d] } :: S) e := by
  obtain ⟨n, hn⟩ : ∃ n : Nat, x.c.toNat - x.row.length - 1 = n + 1 := ⟨x.c.toNat - x.row.length - 2, by omega⟩
  have h2 : x.c.toNat - (x.row ++ [d]).length - 1 = n := by rw [List.length_append, List.length_singleton]; omega
  show (match takeN (takeD ds (12 - (S.length + 1))) (x.c.toNat - x.row.length - 1) e with
    | none => none
    | some (l, e2) => finS ds S (.tuple (x.row ++ d :: l)) e2) = (match takeD ds (12 - (S.length + 1)) e with
    | none => none
    | some (d2, e1) => match takeN (takeD ds (12 - (S.length + 1))) (x.c.toNat - (x.row ++ [d]).length - 1) e1 with
      | none => none
      | some (l, e2) => finS ds S (.tuple (x.row ++ [d] ++ d2 :: l)) e2)
  rw [hn, h2, takeN_succ]
  cases h3 : takeD ds (12 - (S.length + 1)) e with
  | none => rfl
  | some p =>
    obtain ⟨d2, e1⟩ := p
    cases h4 : takeN (takeD ds (12 - (S.length + 1))) n e1 with
    | none => simp only [h4]
    | some q =>
      obtain ⟨l, e4⟩ := q
      simp only [h4]
      rw [List.append_assoc]
      rfl
theorem finS_done {ds : List PyData} {S : List Fm} {x : Fm} {d : PyData} {e : Int} (h : x.c.toNat = x.row.length + 1) : finS ds (x :: S) d e = finS ds S (.tuple (x.row ++ [d])) e := by
  have h2 : x.c.toNat - x.row.length - 1 = 0 := by omega
  show (match takeN (takeD ds (12 - (S.length + 1))) (x.c.toNat - x.row.length - 1) e with
    | none => none
    | some (l, e2) => finS ds S (.tuple (x.row ++ d :: l)) e2) = _
  rw [h2]
  rfl

theorem cpow18 : CPow 10 18 := ⟨by decide, by decide, by decide⟩
theorem bnot_t {b : Bool} (h : (!b) = true) : b = false := by
  cases b
  · rfl
  · cases h
theorem ok_linteger {n : Nat} {f : Addr} {fd : FuncData} (F : Fun K "_law_integer" "_law_integer" s__law_integer f fd) (T : Glo mg) : FnOk P w K mg base CX0 1 f fd ["word"] (spB K n isI) := by
  refine F.ok sc__law_integer (fun vs H Q E h => ?_) (fun cdv A outer s H vs Q E hr h => ?_)
  · obtain ⟨v, d, rfl, _⟩ := h
    rfl
  · obtain ⟨v, d, rfl, hd, ok, q⟩ := h
    refine ⟨_, (pss_one (ps_ret (pe_and (pe_callB call_isi (by rfl) T.isinstance (by decide +kernel) (pa_cons (pv 0) (pa_cons (pe_bltn (v := .ty "int") (u := .type "int") (by rfl) T.int (by decide +kernel) rfl) pa_nil))) (pe_and (pe_not (pe_callB call_isi (by rfl) T.isinstance (by decide +kernel) (pa_cons (pv 0) (pa_cons (pe_bltn (v := .ty "bool") (u := .type "bool") (by rfl) T.bool (by decide +kernel) rfl) pa_nil)))) (pe_and (pe_cmpR op_le (pe_un un_neg (pe_op op_pow pe_int pe_int)) (pv 0) (nomark _)) (pe_one (pe_cmpR op_le (pv 0) (pe_op op_pow pe_int pe_int) (nomark _)))))))), ?_⟩
    have hv : (isInt d && (!isBoo d && isI d)) = isI d := by
      cases d <;> simp [isInt, isBoo, isI]
    rw [← hv] at q
    refine s_ret (ev_andV (a := isInt d) (b := !isBoo d && isI d) (ev_isiX (K := K) (ex_var rfl hd) (kit_int d)) (fun h1 => ev_andV (a := !isBoo d) (b := isI d) (ev_notV (ev_isiX (K := K) (ex_var rfl hd) (kit_bool d))) (fun h2 => ?_))) q
    obtain ⟨i, rfl⟩ := int_of (d := d) (by rw [h1, bnot_t h2]; rfl)
    cases hd
    exact ev_is (ev_andV (a := decide (-(10 ^ (18 : Int).toNat) ≤ i)) (b := decide (i ≤ 10 ^ (18 : Int).toNat)) (ev_op (ev_un (ev_op ev_c ev_c (rv_I cpow18)) ru_neg) (ev_var rfl) rv_I0) (fun _ => ev_op (ev_var rfl) (ev_op ev_c ev_c (rv_I cpow18)) rv_I0)) rfl
theorem ev_notin {σ : L2.St} {H : Hp} {ta tb : TE} {y z : Str} (ha : Ev ta σ H (.str y)) (hb : Ev tb σ H (.str z)) : Ev (tOp (fun x y H Q => ∃ i j, x = .str i ∧ y = .str j ∧ Q (.bl (!(!(Builtin.Str.occurrences j i 0 j.length 1).isEmpty))) H) ta tb) σ H (.bl (!(!(Builtin.Str.occurrences z y 0 z.length 1).isEmpty))) :=
  ev_op ha hb fun H1 e Q q => ⟨y, z, rfl, rfl, q H1 (Ex.refl H1)⟩
theorem chX_iff {c : Nat} : chX c = (chOk c || (decide (c = 10) || decide (c = 9))) := by
  unfold chX
  rw [Bool.or_assoc]
theorem text_iff {z : Str} (h : z.cps.toList.all chX = true) : (!decide (10 ∈ z.cps.toList) && !decide (9 ∈ z.cps.toList)) = z.cps.toList.all chOk := by
  by_cases h1 : 10 ∈ z.cps.toList
  · rw [decide_eq_true h1]
    have : z.cps.toList.all chOk = false := by
      rw [← Bool.not_eq_true]
      intro h2
      have := (List.all_eq_true.mp h2) 10 h1
      exact absurd this (by decide)
    rw [this]
    rfl
  · by_cases h3 : 9 ∈ z.cps.toList
    · rw [decide_eq_true h3]
      have : z.cps.toList.all chOk = false := by
        rw [← Bool.not_eq_true]
        intro h2
        have := (List.all_eq_true.mp h2) 9 h3
        exact absurd this (by decide)
      rw [this]
      exact Bool.and_false _
    · rw [decide_eq_false h1, decide_eq_false h3]
      symm
      rw [show (!false && !false) = true from rfl, List.all_eq_true]
      intro c hc
      have h4 := (List.all_eq_true.mp h) c hc
      rw [chX_iff] at h4
      rcases Bool.or_eq_true_iff.mp h4 with h5 | h5
      · exact h5
      · rcases Bool.or_eq_true_iff.mp h5 with h5 | h5
        · exact absurd (of_decide_eq_true h5 ▸ hc) h1
        · exact absurd (of_decide_eq_true h5 ▸ hc) h3
def spTx (K : PySem.W.Frag) : Sp := fun vs H Q _ => ∃ (v : V) (d : PyData), vs = [v] ∧ Dx K H v d ∧ WdP d ∧ RetV (.bl (isT d)) H Q
theorem ok_ltext {f : Addr} {fd : FuncData} (F : Fun K "_law_text" "_law_text" s__law_text f fd) (T : Glo mg) : FnOk P w K mg base CX0 1 f fd ["word"] (spTx K) := by
  refine F.ok sc__law_text (fun vs H Q E h => ?_) (fun cdv A outer s H vs Q E hr h => ?_)
  · obtain ⟨v, d, rfl, _⟩ := h
    rfl
  · obtain ⟨v, d, rfl, hd, ⟨ok, ok2, ok3, _⟩, q⟩ := h
    refine ⟨_, (pss_one (ps_ret (pe_and (pe_callB call_isi (by rfl) T.isinstance (by decide +kernel) (pa_cons (pv 0) (pa_cons (pe_bltn (v := .ty "str") (u := .type "str") (by rfl) T.str (by decide +kernel) rfl) pa_nil))) (pe_and (pe_cmpR op_le (pe_callB call_len_str (by rfl) T.len PySem.boot_len (pa_cons (pv 0) pa_nil)) pe_int (nomark _)) (pe_and (pe_cmpR op_notin_str pe_str (pv 0) (by rfl)) (pe_one (pe_cmpR op_notin_str pe_str (pv 0) (by rfl)))))))), ?_⟩
    have hv : (isStr d && isT d) = isT d := by
      cases d <;> simp [isStr, isT]
    rw [← hv] at q
    refine s_ret (ev_andV (a := isStr d) (b := isT d) (ev_isiX (K := K) (ex_var rfl hd) (kit_str d)) (fun h1 => ?_)) q
    obtain ⟨z, rfl⟩ := str_of h1
    have hzl : z.length ≤ 1000 := by
      cases ok
      assumption
    cases hd
    have hT : isT (.str z) = (decide (z.length ≤ 200) && z.cps.toList.all chOk) := rfl
    rw [hT, ← text_iff (ok3 z rfl)]
    have hle : decide (z.length ≤ 200) = decide ((z.length : Int) ≤ 200) := by
      by_cases h : z.length ≤ 200
      · rw [decide_eq_true h, decide_eq_true (by omega)]
      · rw [decide_eq_false h, decide_eq_false (by omega)]
    rw [hle]
    refine ev_andV (ev_op (ev_cb (ea_cons (ev_var rfl) ea_nil) (rc_lenS (by omega))) ev_c rv_I0) (fun _ => ev_andV (ev_is (ev_notin ev_c (ev_var rfl)) ?_) (fun _ => ev_is (ev_notin ev_c (ev_var rfl)) ?_))
    · rw [show Str.ofString "\n" = ⟨#[10]⟩ from by decide, PySem.StrLaws.found_one]
    · rw [show Str.ofString "\t" = ⟨#[9]⟩ from by decide, PySem.StrLaws.found_one]

def isSt (x : Str) : PyData → Bool
  | .str z => decide (z = x)
  | _ => false
theorem isSt_eq {x : Str} {a : PyData} (h : isSt x a = true) : a = .str x := by
  cases a with
  | str z => rw [of_decide_eq_true (show decide (z = x) = true from h)]
  | _ => cases h
theorem eqv_str {a : PyData} {x : Str} : PyData.eqv a (.str x) = isSt x a := by
  cases a with
  | str z =>
    show PyData.eqv (.str z) (.str x) = decide (z = x)
    by_cases h : z = x
    · subst h
      rw [decide_eq_true rfl]
      simp [PyData.eqv]
    · rw [decide_eq_false h]
      simp [PyData.eqv, h]
  | _ => simp [PyData.eqv, isSt]
theorem isN_iff {b : PyData} (h : isI b = true) : ∃ n : Int, b = .int n ∧ isN b = decide (0 ≤ n) := by
  cases b with
  | int n =>
    refine ⟨n, rfl, ?_⟩
    show (isI (.int n) && decide (0 ≤ n)) = decide (0 ≤ n)
    rw [h]
    rfl
  | _ => simp [isI] at h
theorem isN_isI {b : PyData} (h : isI b = false) : isN b = false := by
  unfold isN
  rw [h]
  rfl
theorem takeB_other {ds : List PyData} {sub : Option (Int → Option (PyData × Int))} {i : Int} {a b : PyData} (h : pairD ds i = some (a, b)) (ht : isSt "t" a = false) (hi : (isSt "i" a && isI b) = false) (hs : (isSt "s" a && isT b) = false) : takeB ds sub i = none := by
  cases a with
  | str z =>
    rw [takeB_str h]
    by_cases h1 : z = "i"
    · subst h1
      rw [show isSt "i" (.str "i") = true from by decide, Bool.true_and] at hi
      rw [if_pos rfl, hi, if_neg Bool.false_ne_true]
    · rw [if_neg h1]
      by_cases h2 : z = "s"
      · subst h2
        rw [show isSt "s" (.str "s") = true from by decide, Bool.true_and] at hs
        rw [if_pos rfl, hs, if_neg Bool.false_ne_true]
      · rw [if_neg h2, if_neg fun e => absurd ht (by rw [e]; decide)]
  | _ => exact takeB_not h rfl
theorem takeB_atom {ds : List PyData} {sub : Option (Int → Option (PyData × Int))} {i : Int} {a b : PyData} (h : pairD ds i = some (a, b)) (hv : ((isSt "i" a && isI b) || (isSt "s" a && isT b)) = true) : takeB ds sub i = some (b, i + 2) := by
  rcases Bool.or_eq_true_iff.mp hv with hv | hv
  · obtain ⟨h1, h2⟩ := Bool.and_eq_true_iff.mp hv
    have h1 := isSt_eq h1
    subst h1
    rw [takeB_str h, if_pos rfl, if_pos h2]
  · obtain ⟨h1, h2⟩ := Bool.and_eq_true_iff.mp hv
    have h1 := isSt_eq h1
    subst h1
    rw [takeB_str h, if_neg (by decide), if_pos rfl, if_pos h2]
theorem takeB_tNo {ds : List PyData} {sub : Option (Int → Option (PyData × Int))} {i : Int} {b : PyData} (h : pairD ds i = some (.str "t", b)) (hv : isN b = false ∨ sub = none) : takeB ds sub i = none := by
  rw [takeB_str h, if_neg (by decide), if_neg (by decide), if_pos rfl]
  rcases hv with hv | hv
  · rw [hv, if_neg Bool.false_ne_true]
  · subst hv
    split <;> rfl
theorem takeB_t0 {ds : List PyData} {f : Int → Option (PyData × Int)} {i : Int} (h : pairD ds i = some (.str "t", .int 0)) : takeB ds (some f) i = some (.tuple [], i + 2) := by
  rw [takeB_str h, if_neg (by decide), if_neg (by decide), if_pos rfl, if_pos (by decide)]
  rfl
theorem atI_last {α : Type} {xs : List α} {v : α} : atI (xs ++ [v]) (-1) = some v := by
  unfold atI ixN
  rw [if_neg (by decide), if_pos (by rw [List.length_append, List.length_singleton]; omega)]
  show (xs ++ [v])[((-1 : Int) + ((xs ++ [v]).length : Int)).toNat]? = _
  rw [show ((-1 : Int) + ((xs ++ [v]).length : Int)).toNat = xs.length by rw [List.length_append, List.length_singleton]; omega, List.getElem?_append_right (Nat.le_refl _), Nat.sub_self]
  rfl
/-! ### the stack in the heap -/
def stM (K : PySem.W.Frag) : List Fm → List MP → List MP
  | [], F => F
  | x :: S, F => LstM K x.r x.row :: stM K S F
def esOf : List Fm → List V
  | [] => []
  | x :: S => esOf S ++ [V.ref x.e]
theorem esOf_len : ∀ S : List Fm, (esOf S).length = S.length
  | [] => rfl
  | x :: S => by
    show (esOf S ++ [V.ref x.e]).length = S.length + 1
    rw [List.length_append, esOf_len S]
    rfl
def FmsOk (B : Hp) (n : Nat) (S : List Fm) : Prop := ∀ x ∈ S, B x.e = some (.lst [.int x.c, .ref x.r]) ∧ x.row.length < x.c.toNat ∧ 0 < x.c ∧ x.row.length ≤ n
theorem FmsOk.mono {B B' : Hp} {n m : Nat} {S : List Fm} (h : FmsOk B n S) (e : Ex B B') (hn : n ≤ m) : FmsOk B' m S := fun x hx => ⟨e _ _ (h x hx).1, (h x hx).2.1, (h x hx).2.2.1, Nat.le_trans (h x hx).2.2.2 hn⟩
theorem at_dropS {B H : Hp} {P : MP} {F : List MP} : ∀ S : List Fm, At B (P :: stM K S F) H → At B (P :: F) H
  | [], h => h
  | x :: S, h => at_dropS S (at_drop (at_swap h))
def dueD : Option (PyData × Int) → List PyData
  | none => []
  | some (d, e) => [d, .int e]
def spRead (K : PySem.W.Frag) : Sp := fun vs H Q _ => ∃ (w : Addr) (ds : List PyData) (B : Hp) (F : List MP), vs = [.ref w] ∧ At B (LstM K w ds :: F) H ∧ ds.length ≤ 40000 ∧ (∀ d ∈ ds, WdP d) ∧ ∀ p B1 H1, Ex B B1 → At B1 (LstM K p (dueD (takeD ds 12 0)) :: LstM K w ds :: F) H1 → Q (.ref p) H1

theorem at_dropS2 {B H : Hp} {P R : MP} {F : List MP} : ∀ S : List Fm, At B (P :: R :: stM K S F) H → At B (P :: R :: F) H
  | [], h => h
  | x :: S, h => by
    have h : At B (P :: R :: LstM K x.r x.row :: stM K S F) H := h
    have h2 : At B (LstM K x.r x.row :: P :: R :: stM K S F) H := at_ix 3 [2, 0, 1] h
    exact at_dropS2 S (at_drop h2)
theorem q_forRN {σ : L2.St} {H : Hp} {D : Ends} {tz tu : TS} {te : TE} {j : Nat} {n : Int} (h : Ev te σ H (.int n)) (hn : -1000 ≤ n ∧ n ≤ 100000) (Pv : Nat → L2.St → Hp → Prop) (h0 : ∀ H1, Ex H H1 → Pv 0 σ H1)
    (hs : ∀ (i : Nat) σ' H', (i : Int) < n → Pv i σ' H' → tu { D with nx := Pv (i + 1), ct := Pv (i + 1), bk := tz D } (σ'.set j (some (.int (i : Int)))) H') (hd : ∀ σ' H', Pv n.toNat σ' H' → tz D σ' H') : tSeq (tFor (iRng1 (tCons te tNil)) (gName j) tu) tz D σ H :=
  h H (Ex.refl H) _ fun H1 e1 => ⟨n, rfl, by omega, by omega, for_range (lo := 0) (n := n.toNat) Pv (h0 H1 e1) (fun i σ' H' hi p => by
      have e0 : (0 : Int) + (i : Int) = (i : Int) := Int.zero_add _
      show tu { D with nx := Pv (i + 1), ct := Pv (i + 1), bk := tz D } (σ'.set j (some (.int ((0 : Int) + (i : Int))))) H'
      rw [e0]
      exact hs i σ' H' (by omega) p) hd⟩
theorem ok_lread {f f_i f_t : Addr} {fd fd_i fd_t : FuncData} (F : Fun K "_law_read" "_law_read" s__law_read f fd) (D__law_integer : Df K mg "_law_integer" s__law_integer ["word"] f_i fd_i) (G__law_integer : FnOk P w K mg base CX0 1 f_i fd_i ["word"] (spB K 12 isI)) (D__law_text : Df K mg "_law_text" s__law_text ["word"] f_t fd_t) (G__law_text : FnOk P w K mg base CX0 1 f_t fd_t ["word"] (spTx K)) (T : Glo mg) : FnOk P w K mg base CX0 2 f fd ["words"] (spRead K) := by
  refine F.ok sc__law_read (fun vs H Q E h => ?_) (fun cdv A outer s H vs Q E hr h => ?_)
  · obtain ⟨w, ds, B, F, rfl, _⟩ := h
    rfl
  · obtain ⟨wa, ds, B, Fr, rfl, hA, hl, hw, q⟩ := h
    refine ⟨_, (pss_cons (ps_set (i := 1) sc__law_read.nd rfl (.inl rfl) (pe_lst pa_nil))
  (pss_cons (ps_set (i := 2) sc__law_read.nd rfl (.inl rfl) pe_int)
  (pss_cons (ps_for PassesOwn.never rfl (pi_range1 (by rfl) T.range (pa_cons (pe_op op_add (pe_callB call_len_seq (by rfl) T.len PySem.boot_len (pa_cons (pv 0) pa_nil)) pe_int) pa_nil)) (pg_name (i := 3) sc__law_read.nd rfl (.inl rfl))
  (pss_cons (ps_if (pt_cmpR op_ge (pe_op op_add (pv 2) pe_int) (pe_callB call_len_seq (by rfl) T.len PySem.boot_len (pa_cons (pv 0) pa_nil)) (nomark _))
  (pss_one (ps_ret (pe_lst pa_nil)))
  pss_nil)
  (pss_cons (ps_set (i := 4) sc__law_read.nd rfl (.inl rfl) (pe_ix ix_list (pv 0) (pv 2) (fun _ _ => rfl)))
  (pss_cons (ps_set (i := 5) sc__law_read.nd rfl (.inl rfl) (pe_ix ix_list (pv 0) (pe_op op_add (pv 2) pe_int) (fun _ _ => rfl)))
  (pss_cons (ps_set (i := 2) sc__law_read.nd rfl (.inl rfl) (pe_op op_add (pv 2) pe_int))
  (pss_cons (ps_set (i := 6) sc__law_read.nd rfl (.inl rfl) (pe_tup pa_nil))
  (pss_cons (ps_if (pt_cmpR (op_eqD hr.units) (pv 4) pe_str (nomark _))
  (pss_cons (ps_if (PW.pt (pw_or (pt_not (pt_val (pe_call G__law_integer (hr.mono (by decide)) (by rfl) D__law_integer.g D__law_integer.F.kp D__law_integer.b .nil pass0 (pa_cons (pv 5) pa_nil)))) (pw_or (pt_cmpR op_lt (pv 5) pe_int (nomark _)) (pw_or1 (pt_cmpR op_ge (pe_callB call_len_seq (by rfl) T.len PySem.boot_len (pa_cons (pv 1) pa_nil)) pe_int (nomark _))))))
  (pss_one (ps_ret (pe_lst pa_nil)))
  pss_nil)
  (pss_one (ps_if (pt_cmpR op_gt (pv 5) pe_int (nomark _))
  (pss_cons (ps_expr (pe_bm PySem.F.plainAttrs_list PySem.F.slot_list_append PySem.F.type_list_append mt_append (pv 1) (pa_cons (pe_lst (pa_cons (pv 5) (pa_cons (pe_lst pa_nil) pa_nil))) pa_nil)))
  (pss_one ps_continue))
  pss_nil)))
  (pss_one (ps_if (PW.pt (pw_or (PW.pt (pw_and (pt_cmpR (op_eqD hr.units) (pv 4) pe_str (nomark _)) (pw_and1 (pt_val (pe_call G__law_integer (hr.mono (by decide)) (by rfl) D__law_integer.g D__law_integer.F.kp D__law_integer.b .nil pass0 (pa_cons (pv 5) pa_nil)))))) (pw_or1 (PW.pt (pw_and (pt_cmpR (op_eqD hr.units) (pv 4) pe_str (nomark _)) (pw_and1 (pt_val (pe_call G__law_text (hr.mono (by decide)) (by rfl) D__law_text.g D__law_text.F.kp D__law_text.b .nil pass0 (pa_cons (pv 5) pa_nil)))))))))
  (pss_one (ps_set (i := 6) sc__law_read.nd rfl (.inl rfl) (pv 5)))
  (pss_one (ps_ret (pe_lst pa_nil))))))
  (pss_one (ps_for PassesOwn.never rfl (pi_range1 (by rfl) T.range (pa_cons pe_int pa_nil)) (pg_name (i := 7) sc__law_read.nd rfl (.inl rfl))
  (pss_cons (ps_if (pt_cmpR op_eq (pe_callB call_len_seq (by rfl) T.len PySem.boot_len (pa_cons (pv 1) pa_nil)) pe_int (nomark _))
  (pss_one (ps_ret (pe_lst (pa_cons (pv 6) (pa_cons (pv 2) pa_nil)))))
  pss_nil)
  (pss_cons (ps_set (i := 8) sc__law_read.nd rfl (.inl rfl) (pe_ix ix_list (pe_ix ix_list (pv 1) (pe_un un_neg pe_int) (fun _ _ => rfl)) pe_int (fun _ _ => rfl)))
  (pss_cons (ps_expr (pe_bm PySem.F.plainAttrs_list PySem.F.slot_list_append PySem.F.type_list_append mt_append (pv 8) (pa_cons (pv 6) pa_nil)))
  (pss_cons (ps_if (pt_cmpR op_lt (pe_callB call_len_seq (by rfl) T.len PySem.boot_len (pa_cons (pv 8) pa_nil)) (pe_ix ix_list (pe_ix ix_list (pv 1) (pe_un un_neg pe_int) (fun _ _ => rfl)) pe_int (fun _ _ => rfl)) (nomark _))
  (pss_one ps_break)
  pss_nil)
  (pss_cons (ps_set (i := 6) sc__law_read.nd rfl (.inl rfl) (pe_tupleOf (by rfl) T.tuple (pv 8)))
  (pss_one (ps_expr (pe_bm0 PySem.F.plainAttrs_list PySem.F.slot_list_pop PySem.F.type_list_pop mt_pop (pv 1))))))))))))))))))
  (pss_one (ps_ret (pe_lst pa_nil)))))), ?_⟩
    -- nothing is read
    have qn : takeD ds 12 0 = none → ∀ {σ : L2.St} {B' : Hp} {H' : Hp} {P0 : MP} {S : List Fm} {D : Ends}, D.rt = Q → Ex B B' → At B' (P0 :: LstM K wa ds :: stM K S Fr) H' → tRet (tLst tNil) D σ H' := fun hn {σ B' H' P0 S D} hD b hA => by
      refine go_lst (go_nil ⟨by show 0 ≤ sizeLine; decide, fun p hp => ?_⟩)
      have hA := at_new (o := .lst []) hA hp (Ex.new hp) upd_same
      have hA := at_closeL (K := K) (ds := []) 0 rfl .nil hA
      have hA : At B' (LstM K p [] :: LstM K wa ds :: Fr) _ := at_dropS2 S (at_drop (at_swap hA))
      rw [hD]
      refine q p B' _ b ?_
      rw [hn]
      exact hA
    refine qe_lst (xs := []) hA (el_lst ea_nil (by decide)) fun pk H1 hA => ?_
    refine qe_asg (x := .int ((0 : Nat) : Int)) hA ev_c fun H2 hA => ?_
    refine q_forRN (n := (ds.length : Int) + 1) (ev_op (ev_lenM (K := K) 1 rfl hA (ev_var rfl)) ev_c rv_I0) (by omega) (fun i σ' H' => ∃ (S : List Fm) (B' : Hp) (y3 y4 y5 y6 y7 y8 : Option V), σ' = [some (.ref wa), some (.ref pk), some (.int ((2 * i : Nat) : Int)), y3, y4, y5, y6, y7, y8] ∧ Ex B B' ∧ At B' (Pt pk (.lst (esOf S)) :: LstM K wa ds :: stM K S Fr) H' ∧ S.length ≤ 12 ∧ FmsOk B' i S ∧ goS ds S ((2 * i : Nat) : Int) = takeD ds 12 0) (fun H3 e3 => ⟨[], B, none, none, none, none, none, none, rfl, Ex.refl B, at_ex hA e3, by decide, (fun _ h => nomatch h), goS_nil ds _⟩) (fun i σ' H' hi p => ?_) (fun σ' H' p => ?_)
    · clear hA
      obtain ⟨S, B', y3, y4, y5, y6, y7, y8, rfl, b0, hA, hS, hF, hg⟩ := p
      refine qe_when (b := decide (((2 * i : Nat) : Int) + 1 ≥ (ds.length : Int))) hA (et_test (ev_op (ev_op (ev_var rfl) ev_c rv_I0) (ev_lenM (K := K) 1 rfl hA (ev_var rfl)) rv_I0)) (fun hb H3 hA => ?_) (fun hb H3 hA => ?_)
      · have hb := of_decide_eq_true hb
        exact qn (by rw [← hg]; exact goS_none (by rw [takeD_eq, takeB_none (pairD_none (.inr (by omega)))])) rfl b0 hA
      have hb := of_decide_eq_false hb
      obtain ⟨a, b, hp⟩ := pairD_get (ds := ds) (i := ((2 * i : Nat) : Int)) (by omega) (by omega)
      obtain ⟨_, _, ha, hbb⟩ := pairD_some hp
      have hia : ds[2 * i]? = some a := by rwa [Int.toNat_natCast] at ha
      have hib : ds[2 * i + 1]? = some b := by rwa [Int.toNat_natCast] at hbb
      have wa1 := hw a (List.mem_of_getElem? hia)
      have wb1 := hw b (List.mem_of_getElem? hib)
      obtain ⟨xs, hxs, hH⟩ := lst_at (K := K) 1 rfl hA
      obtain ⟨va, hva, hda⟩ := dpa_at hxs hia
      obtain ⟨vb, hvb, hdb⟩ := dpa_at hxs hib
      refine q_asg (ev_op (ev_var rfl) (ev_var rfl) (rv_ixL (sq_of hH) (atI_nat hva))) fun H4 e4 => ?_
      refine q_asg (ev_op (ev_var rfl) (ev_is (w := .int ((2 * i + 1 : Nat) : Int)) (ev_op (ev_var rfl) ev_c rv_I0) (by congr 1)) (rv_ixL (sq_of (e4 _ _ hH)) (atI_nat hvb))) fun H5 e5 => ?_
      have hA := at_ex hA (e4.trans e5)
      refine qe_asg (x := .int ((2 * (i + 1) : Nat) : Int)) hA (ev_is (ev_op (ev_var rfl) ev_c rv_I0) (by congr 1)) fun H6 hA => ?_
      have e2i : ((2 * i : Nat) : Int) + 2 = ((2 * (i + 1) : Nat) : Int) := by omega
      refine qw_asg (R := rD K (.tuple [])) hA (wv_tup wa_nil (by decide)) fun v6 B1 H7 b1 hA hv6 => ?_
      have hda := dp_mono b1 _ _ hda
      have hdb := dp_mono b1 _ _ hdb
      have hF := hF.mono b1 (Nat.le_refl i)
      have b0 := b0.trans b1
      clear hxs hH hva hvb
      have eqT : ∀ {σ : L2.St} {H' : Hp} {l : List MP} {x : Str}, σ[4]? = some (some va) → (∀ n, Sd n (.str x)) → At B1 l H' → Ev (tOp (rEqD K) (tVar 4) (tC (.str x))) σ H' (.bl (isSt x a)) := fun h hx hA => ev_is (ev_eqD (n := 3) (m := 1) (ed_var h (dp_mono (at_base hA) _ _ hda)) ed_str wa1.2.2.2 (hx 1) (by decide) (by decide)) (by rw [eqv_str])
      refine q_seqJ (fun σ1 H1 => ∃ (B'' : Hp) (v : V) (d : PyData) (y7 y8 : Option V), σ1 = [some (.ref wa), some (.ref pk), some (.int ((2 * (i + 1) : Nat) : Int)), some (.int (i : Int)), some va, some vb, some v, y7, y8] ∧ Ex B B'' ∧ Ex B1 B'' ∧ At B'' (Pt pk (.lst (esOf S)) :: LstM K wa ds :: stM K S Fr) H1 ∧ Dp K B'' v d ∧ finS ds S d ((2 * (i + 1) : Nat) : Int) = takeD ds 12 0) (fun nx' hnx => ?_) (fun σ1 H1 hC => ?_)
      · refine se_if (b := isSt "t" a) hA (et_test (eqT rfl (fun n => chX_sd (by decide +kernel)) hA)) (fun ht H8 hA => ?_) (fun ht H8 hA => ?_)
        · -- a tuple
          have ht := isSt_eq ht
          subst ht
          have lenK : ∀ {σ : L2.St} {H' : Hp} {B2 : Hp} {S : List Fm} {l : List MP}, σ[1]? = some (some (.ref pk)) → At B2 (Pt pk (.lst (esOf S)) :: l) H' → Ev (tCB (fun xs H Q => ∃ p ys, xs = [V.ref p] ∧ (SqL K H p ys ∨ SqT K H p ys) ∧ Q (.int (ys.length : Int)) H) (tCons (tVar 1) tNil)) σ H' (.int (S.length : Int)) := fun h hA => ev_is (ev_cb (ea_cons (ev_var h) ea_nil) (rc_len (sq_of (at_get 0 rfl hA)))) (by rw [esOf_len])
          by_cases hI : isI b = true
          · obtain ⟨n, rfl, hN⟩ := isN_iff hI
            cases hdb
            refine qe_when (b := (decide (n < 0) || decide ((12 : Int) ≤ (S.length : Int)))) hA (et_is (et_or (a := false) (b := (decide (n < 0) || decide ((12 : Int) ≤ (S.length : Int)))) (et_is (et_not (et_B (ev_call (ea_cons (ev_var rfl) ea_nil) (spB_v (at_dx hA (.int n)) wb1.1)))) (by rw [hI]; rfl)) (fun _ => et_or (et_test (ev_op (ev_var rfl) ev_c rv_I0)) (fun _ => et_test (ev_op (lenK rfl hA) ev_c rv_I0)))) (Bool.false_or _)) (fun hb H9 hA => ?_) (fun hb H9 hA => ?_)
            · have hno : isN (.int n) = false ∨ subD ds (12 - S.length) = none := by
                rcases Bool.or_eq_true_iff.mp hb with hb | hb
                · have hb := of_decide_eq_true hb
                  exact .inl (by rw [hN]; exact decide_eq_false (by omega))
                · have hb := of_decide_eq_true hb
                  have : 12 - S.length = 0 := by omega
                  rw [this]
                  exact .inr rfl
              exact qn (by rw [← hg]; exact goS_none (by rw [takeD_eq]; exact takeB_tNo hp hno)) rfl b0 hA
            obtain ⟨hb1, hb2⟩ := Bool.or_eq_false_iff.mp hb
            have hb1 := of_decide_eq_false hb1
            have hb2 := of_decide_eq_false hb2
            have hNt : isN (.int n) = true := by rw [hN]; exact decide_eq_true (by omega)
            refine se_when (b := decide (0 < n)) hA (et_test (ev_op (ev_var rfl) ev_c rv_I0)) (fun hb H10 hA => ?_) (fun hb H10 hA => ?_)
            · have hb := of_decide_eq_true hb
              refine q_drop0 ((show Ev (tVar 1) _ H10 (.ref pk) from ev_var rfl) H10 (Ex.refl H10) _ fun H11 e11 => ?_)
              refine ⟨.inl ⟨rfl, esOf S, sq_of (at_get 0 rfl (at_ex hA e11))⟩, go_cons' (go_lst (go_cons (ev_var rfl) fun H12 e12 => go_cons' (go_lst (go_nil ⟨by show 0 ≤ sizeLine; decide, fun pr hpr => go_nil ⟨by show 2 ≤ sizeLine; decide, fun pe hpe => go_nil ?_⟩⟩))))⟩
              have hA := at_new (o := .lst []) (at_ex hA (e11.trans e12)) hpr (Ex.new hpr) upd_same
              have hA := at_new (o := .lst [.int n, .ref pr]) hA hpe (Ex.new hpe) upd_same
              refine ⟨pk, esOf S, .ref pe, rfl, rfl, at_get 2 rfl hA, sz_lt (by rw [esOf_len]; omega), ?_⟩
              have hA := at_upd (u := .lst (esOf S ++ [.ref pe])) 2 rfl hA
              obtain ⟨c1, hA⟩ := at_freeze hA
              have hA : At _ (LstM K pr [] :: Pt pk (.lst (esOf S ++ [.ref pe])) :: LstM K wa ds :: stM K S Fr) _ := at_closeL (K := K) 0 rfl .nil hA
              have hA : At _ (Pt pk (.lst (esOf S ++ [.ref pe])) :: LstM K wa ds :: LstM K pr [] :: stM K S Fr) _ := at_ix 3 [1, 2, 0] hA
              have hF2 := hF.mono c1 (Nat.le_succ i)
              refine ⟨⟨pe, pr, n, []⟩ :: S, _, _, _, _, _, _, _, rfl, b0.trans c1, hA, by show S.length + 1 ≤ 12; omega, fun x hx => ?_, ?_⟩
              · rcases List.mem_cons.mp hx with rfl | hx
                · exact ⟨upd_same, by show 0 < n.toNat; omega, hb, Nat.zero_le _⟩
                · exact hF2 x hx
              · rw [← hg, goS_push pe pr (by omega) hp hNt hb, e2i]
            · have hb := of_decide_eq_false hb
              have h0 : n = 0 := by omega
              subst h0
              obtain ⟨m, hm⟩ : ∃ m, 12 - S.length = m + 1 := ⟨11 - S.length, by omega⟩
              exact hnx _ _ ⟨B1, v6, .tuple [], _, _, rfl, b0, Ex.refl B1, hA, hv6, by
                rw [← hg, goS_val (d := .tuple []) (e := ((2 * (i + 1) : Nat) : Int)) (by
                  rw [hm]
                  show takeB ds (some (takeD ds m)) _ = _
                  rw [takeB_t0 hp, e2i])]⟩
          · have hI : isI b = false := by simpa using hI
            refine qe_when (b := true) hA (et_is (et_or (a := true) (b := true) (et_is (et_not (et_B (ev_call (ea_cons (ev_var rfl) ea_nil) (spB_v (at_dx hA hdb) wb1.1)))) (by rw [hI]; rfl)) (fun h => nomatch h)) rfl) (fun _ H9 hA => ?_) (fun hb => nomatch hb)
            exact qn (by rw [← hg]; exact goS_none (by rw [takeD_eq, takeB_tNo hp (.inl (isN_isI hI))])) rfl b0 hA
        · -- an atom
          refine se_if (b := ((isSt "i" a && isI b) || (isSt "s" a && isT b))) hA (et_or (et_and (et_test (eqT rfl (fun n => chX_sd (by decide +kernel)) hA)) (fun _ => et_B (ev_call (ea_cons (ev_var rfl) ea_nil) (spB_v (at_dx hA hdb) wb1.1)))) (fun _ => et_and (et_test (eqT rfl (fun n => chX_sd (by decide +kernel)) hA)) (fun _ => et_B (ev_call (ea_cons (ev_var rfl) ea_nil) (fun H1 e Q q _ => ⟨vb, b, rfl, dx_mono e _ _ (at_dx hA hdb), wb1, fun H2 e2 => q H2 e2⟩))))) (fun hv H9 hA => ?_) (fun hv H9 hA => ?_)
          · exact se_asg hA (ev_var rfl) fun H10 hA => hnx _ _ ⟨B1, vb, b, _, _, rfl, b0, Ex.refl B1, hA, hdb, by
              rw [← hg, goS_val (d := b) (e := ((2 * (i + 1) : Nat) : Int)) (by rw [takeD_eq, takeB_atom hp hv, e2i])]⟩
          · obtain ⟨h1, h2⟩ := Bool.or_eq_false_iff.mp hv
            exact qn (by rw [← hg]; exact goS_none (by rw [takeD_eq, takeB_other hp ht h1 h2])) rfl b0 hA
      clear hA hv6 hda hdb eqT hg
      obtain ⟨B2, v, d, y7, y8, rfl, b0, b12, hA, hv, hg⟩ := hC
      have hF := hF.mono b12 (Nat.le_refl i)
      refine s_forR1 (n := 13) (ea_cons ev_c ea_nil) (by decide) (fun j σ' H' => ∃ (S' : List Fm) (B3 : Hp) (v : V) (d : PyData) (y7 y8 : Option V), σ' = [some (.ref wa), some (.ref pk), some (.int ((2 * (i + 1) : Nat) : Int)), some (.int (i : Int)), some va, some vb, some v, y7, y8] ∧ Ex B B3 ∧ At B3 (Pt pk (.lst (esOf S')) :: LstM K wa ds :: stM K S' Fr) H' ∧ S'.length + j ≤ 12 ∧ FmsOk B3 i S' ∧ Dp K B3 v d ∧ finS ds S' d ((2 * (i + 1) : Nat) : Int) = takeD ds 12 0) (fun H8 e8 => ⟨S, B2, v, d, _, _, rfl, b0, at_ex hA e8, by omega, hF, hv, hg⟩) (fun j σ' H' hj p => ?_) (fun σ' H' p => ?_)
      · clear hA hv hg hF b12
        obtain ⟨S', B3, v, d, y7, y8, rfl, b3, hA, hSj, hF, hv, hg⟩ := p
        have lenK : Ev (tCB (fun xs H Q => ∃ p ys, xs = [V.ref p] ∧ (SqL K H p ys ∨ SqT K H p ys) ∧ Q (.int (ys.length : Int)) H) (tCons (tVar 1) tNil)) [some (.ref wa), some (.ref pk), some (.int ((2 * (i + 1) : Nat) : Int)), some (.int (i : Int)), some va, some vb, some v, some (.int (j : Int)), y8] H' (.int (S'.length : Int)) := ev_is (ev_cb (ea_cons (ev_var rfl) ea_nil) (rc_len (sq_of (at_get 0 rfl hA)))) (by rw [esOf_len])
        cases S' with
        | nil =>
          refine qe_when (b := true) hA (et_is (et_test (ev_op lenK ev_c rv_eqI)) rfl) (fun _ H9 hA => ?_) (fun hb => nomatch hb)
          refine go_lst (go_cons (ev_var rfl) fun H10 e10 => go_cons (ev_var rfl) fun H11 e11 => go_nil ⟨by show 2 ≤ sizeLine; decide, fun p hp => ?_⟩)
          have hA := at_new (o := .lst [v, .int ((2 * (i + 1) : Nat) : Int)]) (at_ex hA (e10.trans e11)) hp (Ex.new hp) upd_same
          have hA := at_closeL (K := K) (ds := [d, .int ((2 * (i + 1) : Nat) : Int)]) 0 rfl (.cons hv (.cons (.int _) .nil)) hA
          refine q p B3 _ b3 ?_
          rw [← hg]
          exact at_drop (at_swap hA)
        | cons x S'' =>
          have hx := hF x List.mem_cons_self
          refine qe_when (b := false) hA (et_is (et_test (ev_op lenK ev_c rv_eqI)) (decide_eq_false (by show ¬ (((S''.length + 1 : Nat) : Int) = 0); omega))) (fun hb => nomatch hb) (fun _ H9 hA => ?_)
          have top : ∀ {σ : L2.St} {B' H' : Hp} {l : List MP} {k : Int} {u : V}, σ[1]? = some (some (.ref pk)) → Ex B3 B' → At B' (Pt pk (.lst (esOf S'' ++ [V.ref x.e])) :: l) H' → atI [V.int x.c, .ref x.r] k = some u → Ev (tOp (rIxL K) (tOp (rIxL K) (tVar 1) (tUn (rU fun i => .int (-i)) (tC (.int 1)))) (tC (.int k))) σ H' u := fun h b hA hk => ev_op (ev_op (ev_var h) (ev_un ev_c ru_neg) (rv_ixL (sq_of (at_get 0 rfl hA)) atI_last)) ev_c (rv_ixL (sq_of ((at_base hA) _ _ (b _ _ hx.1))) hk)
          refine qe_asg hA (top rfl (Ex.refl B3) hA rfl) fun H10 hA => ?_
          have hrl := hx.2.2.2
          refine qm_app (K := K) (ds := x.row) (d := d) 2 rfl hA (fun _ => ev_var rfl) (wv_var rfl hv) (by omega) fun B4 H11 b4 hA => ?_
          have hA : At B4 (Pt pk (.lst (esOf S'' ++ [V.ref x.e])) :: LstM K wa ds :: LstM K x.r (x.row ++ [d]) :: stM K S'' Fr) H11 := hA
          have hrn : (x.row ++ [d]).length = x.row.length + 1 := by rw [List.length_append]; rfl
          have hF4 := hF.mono b4 (Nat.le_refl i)
          refine qe_when (b := decide (((x.row ++ [d]).length : Int) < x.c)) hA (et_test (ev_op (ev_lenM (K := K) 2 rfl hA (ev_var rfl)) (top rfl b4 hA rfl) rv_I0)) (fun hb H12 hA => ?_) (fun hb H12 hA => ?_)
          · have hb := of_decide_eq_true hb
            refine ⟨{ x with row := x.row ++ [d] } :: S'', B4, _, _, _, _, _, _, rfl, b3.trans b4, hA, by show S''.length + 1 ≤ 12; have : S''.length + 1 + j ≤ 12 := hSj; omega, fun z hz => ?_, ?_⟩
            · rcases List.mem_cons.mp hz with rfl | hz
              · exact ⟨(hF4 x List.mem_cons_self).1, by show (x.row ++ [d]).length < x.c.toNat; omega, hx.2.2.1, by show (x.row ++ [d]).length ≤ i + 1; omega⟩
              · have := hF4 z (List.mem_cons_of_mem _ hz)
                exact ⟨this.1, this.2.1, this.2.2.1, by omega⟩
            · rw [← hg, finS_more (by omega)]
          · have hb := of_decide_eq_false hb
            have hcr : x.c.toNat = x.row.length + 1 := by have := hx.2.1; omega
            obtain ⟨xs, hxs, hH⟩ := lst_at (K := K) 2 rfl hA
            refine q_do ((show Ev (tVar 8) _ H12 (.ref x.r) from ev_var rfl) H12 (Ex.refl H12) _ fun H13 e13 => ?_)
            refine .inl ⟨x.r, xs, rfl, sq_of (e13 _ _ hH), fun p hp => ?_⟩
            have hA := at_new (o := .tup xs) (at_ex hA e13) hp (Ex.new hp) upd_same
            obtain ⟨c1, hA⟩ := at_freeze hA
            have hv5 : Dp K (upd B4 p (.tup xs)) (.ref p) (.tuple (x.row ++ [d])) := .tup (st_of upd_same) (dpa_mono c1 _ _ hxs)
            have hF5 := hF4.mono c1 (Nat.le_refl i)
            refine s_drop0 ((show Ev (tVar 1) _ _ (.ref pk) from ev_var rfl) _ (Ex.refl _) _ fun H14 e14 => ?_)
            refine ⟨.inl ⟨rfl, esOf S'' ++ [V.ref x.e], sq_of (at_get 0 rfl (at_ex hA e14))⟩, pk, esOf S'' ++ [V.ref x.e], .ref x.e, rfl, rfl, at_get 0 rfl (at_ex hA e14), by rw [List.length_append, List.length_singleton, Nat.add_sub_cancel, List.getElem?_append_right (Nat.le_refl _), Nat.sub_self]; rfl, ?_⟩
            rw [List.dropLast_concat]
            have hA := at_upd (u := .lst (esOf S'')) 0 rfl (at_ex hA e14)
            have hA : At _ (Pt pk (.lst (esOf S'')) :: LstM K wa ds :: LstM K x.r (x.row ++ [d]) :: stM K S'' Fr) _ := hA
            have hA : At _ (LstM K x.r (x.row ++ [d]) :: Pt pk (.lst (esOf S'')) :: LstM K wa ds :: stM K S'' Fr) _ := at_ix 3 [2, 0, 1] hA
            exact ⟨S'', _, _, _, _, _, rfl, b3.trans (b4.trans c1), at_drop hA, by have : S''.length + 1 + j ≤ 12 := hSj; omega, (fun z hz => hF5 z (List.mem_cons_of_mem _ hz)), hv5, by rw [← hg, finS_done hcr]⟩
      · obtain ⟨S', B3, v, d, y7, y8, rfl, b3, hA, hSj, hF, hv, hg⟩ := p
        have : (13 : Int).toNat = 13 := rfl
        omega
    · obtain ⟨S, B', y3, y4, y5, y6, y7, y8, rfl, b0, hA, hS, hF, hg⟩ := p
      have hN : ((ds.length : Int) + 1).toNat = ds.length + 1 := by omega
      rw [hN] at hg
      exact qn (by rw [← hg]; exact goS_none (by rw [takeD_eq, takeB_none (pairD_none (.inr (by omega)))])) rfl b0 hA

def askD (whole : Bool) (ds : List PyData) : List PyData := match takeD ds 12 0 with
  | none => []
  | some (d, e) => if whole = true then (if e = (ds.length : Int) then [d] else []) else [d, .int e]
def spAsked (K : PySem.W.Frag) : Sp := fun vs H Q _ => ∃ (w : Addr) (whole : Bool) (ds : List PyData) (B : Hp) (F : List MP), vs = [.ref w, .bl whole] ∧ At B (LstM K w ds :: F) H ∧ ds.length ≤ 40000 ∧ (∀ d ∈ ds, WdP d) ∧ ∀ p B1 H1, Ex B B1 → At B1 (LstM K p (askD whole ds) :: LstM K w ds :: F) H1 → Q (.ref p) H1
theorem ok_asked {f f_w f_f C_BadValue C_HallError C_BadWords : Addr} {fd fd_w fd_f : FuncData} (F : Fun K "_law_asked" "_law_asked" s__law_asked f fd) (D_take_value : Df K mg "take_value" s_take_value ["words", "at"] f_w fd_w) (G_take_value : FnOk P w K mg base (L2.CX P w) 28 f_w fd_w ["words", "at"] (spTV K C_BadWords))
    (D_from_words : Df K mg "from_words" s_from_words ["words"] f_f fd_f) (G_from_words : FnOk P w K mg base (L2.CX P w) 29 f_f fd_f ["words"] (spFW K C_BadWords)) (E_BadWords : Err K mg "BadWords" C_BadWords C_HallError) (g_HallError : mg "HallError" = some (.ref C_HallError)) (g_BadValue : mg "BadValue" = some (.ref C_BadValue)) (K_BW : PySem.W.kitOne K (.ref C_BadWords) (.ref C_BadWords) = some true) (M_BW_HE : PySem.W.exmOne K (.ref C_BadWords) (.ref C_HallError) = some true) (N_BW_BV : PySem.W.kitOne K (.ref C_BadWords) (.ref C_BadValue) = some false) (T : Glo mg) : FnOk P w K mg base CX0 30 f fd ["words", "whole"] (spAsked K) := by
  have g_BadWords := E_BadWords.g
  refine F.ok sc__law_asked (fun vs H Q E h => ?_) (fun cdv A outer s H vs Q E hr h => ?_)
  · obtain ⟨w, wh, ds, B, F, rfl, _⟩ := h
    rfl
  · obtain ⟨wa, whole, ds, B, Fr, rfl, hA, hl, hw, q⟩ := h
    refine ⟨_, (pss_cons (ps_try_own (C := C_BadWords) (i := 3) rfl rfl sc__law_asked.nd rfl rfl ⟨rfl, by decide, .inl g_HallError⟩ takes0 (fun W pn xe tk => (pss_cons (ps_if (pt_val (pv 1))
  (pss_one (ps_ret (pe_lst (pa_cons (pe_callS G_from_words (hr.mono (by decide)) (by rfl) D_from_words.g D_from_words.F.kp D_from_words.b (fun σ => passAt tk σ) (pa_cons (pv 0) pa_nil)) pa_nil))))
  pss_nil)
  (pss_cons (ps_set (i := 2) sc__law_asked.nd rfl (.inl rfl) (pe_callS G_take_value (hr.mono (by decide)) (by rfl) D_take_value.g D_take_value.F.kp D_take_value.b (fun σ => passAt tk σ) (pa_cons (pv 0) (pa_cons pe_int pa_nil))))
  (pss_cons (ps_if (PW.pt (pw_and (pt_val (show PE _ _ (tCB (rIsi K) (tCons (tVar 2) (tCons (tC (.ty "tuple")) tNil))) from pe_callB call_isi (by rfl) T.isinstance (by decide +kernel) (pa_cons (pv 2) (pa_cons (pe_bltn (v := .ty "tuple") (u := .type "tuple") (by rfl) T.tuple (by decide +kernel) rfl) pa_nil)))) (pw_and1 (pt_cmpR op_eq (show PE _ _ (tCB (fun xs H Q => ∃ p ys, xs = [V.ref p] ∧ (SqL K H p ys ∨ SqT K H p ys) ∧ Q (.int (ys.length : Int)) H) (tCons (tVar 2) tNil)) from pe_callB call_len_seq (by rfl) T.len PySem.boot_len (pa_cons (pv 2) pa_nil)) pe_int (nomark _)))))
  (pss_one (ps_ret (pe_lst (pa_cons (show PE _ _ (tOp (rIxT K) (tVar 2) (tC (.int 0))) from pe_ix ix_tup (pv 2) pe_int (fun _ _ => rfl)) (pa_cons (show PE _ _ (tOp (rIxT K) (tVar 2) (tC (.int 1))) from pe_ix ix_tup (pv 2) pe_int (fun _ _ => rfl)) pa_nil)))))
  pss_nil)
  (pss_one (ps_ret (pe_lst (pa_cons pe_non pa_nil)))))))) (fun a oe pn hz hf => (pss_one (ps_if (PW.pt (pw_and (pt_val (pe_callB (call_isE E_BadWords.ec hz hf) (by rfl) T.isinstance (by decide +kernel) (pa_cons (pv 3) (pa_cons (pe_glob (v := .ref C_BadWords) (by rfl) g_BadWords rfl) pa_nil)))) (pw_and1 (pt_not (pt_val (pe_callB (call_isE E_BadWords.ec hz hf) (by rfl) T.isinstance (by decide +kernel) (pa_cons (pv 3) (pa_cons (pe_glob (v := .ref C_BadValue) (by rfl) g_BadValue rfl) pa_nil))))))))
  (pss_one (ps_ret (pe_lst pa_nil)))
  pss_nil))))
  (pss_one (ps_ret (pe_lst (pa_cons pe_non pa_nil))))), ?_⟩
    have hok : ∀ d ∈ ds, Okd 12 d := fun d hd => (hw d hd).1
    have nil : ∀ {σ : L2.St} {B' : Hp} {H' : Hp} {D : Ends}, askD whole ds = [] → D.rt = Q → Ex B B' → At B' (LstM K wa ds :: Fr) H' → tRet (tLst tNil) D σ H' := fun {σ B' H' D} hn hD b hA => by
      refine go_lst (go_nil ⟨by show 0 ≤ sizeLine; decide, fun p hp => ?_⟩)
      have hA := at_new (o := .lst []) hA hp (Ex.new hp) upd_same
      have hA := at_closeL (K := K) (ds := []) 0 rfl .nil hA
      rw [hD]
      refine q p B' _ b ?_
      rw [hn]
      exact hA
    cases whole with
    | true =>
      refine qe_when (b := true) hA (et_B (ev_var rfl)) (fun _ H1 hA => ?_) (fun hb => nomatch hb)
      refine go_lst (go_cons' (go_call (go_cons (ev_var rfl) fun H2 e2 => go_nil ⟨wa, ds, B, Fr, rfl, at_ex hA e2, by omega, hok, fun d ht v B1 H3 b1 hv hA => go_nil ⟨by show 1 ≤ sizeLine; decide, fun p hp => ?_⟩, fun hno B1 H3 b1 hA => ⟨true, M_BW_HE, fun _ a na => ⟨⟨rfl, rfl⟩, ?_⟩, fun z => nomatch z⟩⟩)))
      · have hA := at_new (o := .lst [v]) hA hp (Ex.new hp) upd_same
        have hA := at_closeL (K := K) (ds := [d]) 0 rfl (dpa_one hv) hA
        refine q p B1 _ b1 ?_
        have : askD true ds = [d] := by
          unfold askD
          rw [ht]
          show (if (true : Bool) = true then (if (ds.length : Int) = (ds.length : Int) then [d] else []) else _) = _
          rw [if_pos rfl, if_pos rfl]
        rw [this]
        exact hA
      · have : askD true ds = [] := by
          unfold askD
          cases h : takeD ds 12 0 with
          | none => rfl
          | some p =>
            obtain ⟨d, e⟩ := p
            show (if (true : Bool) = true then (if e = (ds.length : Int) then [d] else []) else _) = _
            rw [if_pos rfl, if_neg fun he => hno d (by rw [h, he])]
        exact s_if (b := true) (et_and (a := true) (b := true) (et_B (ev_isE rfl ev_c (fun u hu => hu) K_BW)) fun _ => et_not (a := false) (et_B (ev_isE rfl ev_c (fun u hu => hu) N_BW_BV))) (fun _ H4 e4 => nil this rfl b1 (at_ex hA e4)) (fun hb => nomatch hb)
    | false =>
      refine qe_when (b := false) hA (et_B (ev_var rfl)) (fun hb => nomatch hb) (fun _ H1 hA => ?_)
      refine q_do (go_call (go_cons (ev_var rfl) fun H2 e2 => go_cons ev_c fun H3 e3 => go_nil ⟨wa, 0, ds, B, Fr, rfl, at_ex hA (e2.trans e3), by omega, hok, fun d e ht v B1 H4 b1 hv hA => ?_, fun hno B1 H4 b1 hA => ⟨true, M_BW_HE, fun _ a na => ⟨⟨rfl, rfl⟩, ?_⟩, fun z => nomatch z⟩⟩))
      · have : askD false ds = [d, .int e] := by
          unfold askD
          rw [ht]
          rfl
        have hd' := hv
        cases hv with
        | @tup ta xs _ hs hd =>
          have hx : ∃ v1, xs = [v1, V.int e] ∧ Dp K B1 v1 d := by
            cases hd with
            | cons h1 h2 => cases h2 with
              | cons h2 h3 =>
                cases h3
                cases h2
                exact ⟨_, rfl, h1⟩
          obtain ⟨v1, rfl, h1⟩ := hx
          refine qe_when (b := true) hA (et_and (a := true) (b := true) (et_B (ev_isiX (K := K) (ex_var rfl (at_dx hA hd')) (kit_tup _))) (fun _ => et_is (et_test (ev_op (ev_cb (ea_cons (ev_var rfl) ea_nil) (rc_lenT (ex_t (at_base hA) hs))) ev_c rv_eqI)) rfl)) (fun _ H5 hA => ?_) (fun hb => nomatch hb)
          refine go_lst (go_cons (ev_op (ev_var rfl) ev_c (rv_ixT (ex_t (at_base hA) hs) rfl)) fun H6 e6 => go_cons (ev_op (ev_var rfl) ev_c (rv_ixT (ex_t (at_base (at_ex hA e6)) hs) rfl)) fun H7 e7 => go_nil ⟨by show 2 ≤ sizeLine; decide, fun p hp => ?_⟩)
          have hA := at_new (o := .lst [v1, .int e]) (at_ex hA (e6.trans e7)) hp (Ex.new hp) upd_same
          have hA := at_closeL (K := K) (ds := [d, .int e]) 0 rfl (.cons h1 (.cons (.int _) .nil)) hA
          refine q p B1 _ b1 ?_
          rw [this]
          exact hA
      · have : askD false ds = [] := by
          unfold askD
          rw [hno]
        exact s_if (b := true) (et_and (a := true) (b := true) (et_B (ev_isE rfl ev_c (fun u hu => hu) K_BW)) fun _ => et_not (a := false) (et_B (ev_isE rfl ev_c (fun u hu => hu) N_BW_BV))) (fun _ H4 e4 => nil this rfl b1 (at_ex hA e4)) (fun hb => nomatch hb)

/-! ### the kinds of the errors -/
def clsAt (l : List Addr) (c : Nat) : Addr := l.getD c 0
def spRaise (l : List Addr) : Sp := fun vs H Q E => ∃ c : Nat, vs = [.int (c : Int)] ∧ c ≤ 12 ∧ ∀ H1, Ex H H1 → E (.ref (clsAt l c)) none H1
theorem ok_raise {f C_BadValue C_BadWords C_BadBlock C_BadPath C_BadCommand C_OutOfRange C_Busy C_TooFew C_PowerLoss C_MachineDown C_Destroyed C_Unknown C_HallError B_BadValue B_BadWords B_BadBlock B_BadPath B_BadCommand B_OutOfRange B_Busy B_TooFew B_PowerLoss B_MachineDown B_Destroyed B_Unknown B_HallError : Addr} {fd : FuncData} (F : Fun K "_law_raise" "_law_raise" s__law_raise f fd) (E_BadValue : Err K mg "BadValue" C_BadValue B_BadValue) (E_BadWords : Err K mg "BadWords" C_BadWords B_BadWords) (E_BadBlock : Err K mg "BadBlock" C_BadBlock B_BadBlock) (E_BadPath : Err K mg "BadPath" C_BadPath B_BadPath) (E_BadCommand : Err K mg "BadCommand" C_BadCommand B_BadCommand) (E_OutOfRange : Err K mg "OutOfRange" C_OutOfRange B_OutOfRange) (E_Busy : Err K mg "Busy" C_Busy B_Busy) (E_TooFew : Err K mg "TooFew" C_TooFew B_TooFew) (E_PowerLoss : Err K mg "PowerLoss" C_PowerLoss B_PowerLoss) (E_MachineDown : Err K mg "MachineDown" C_MachineDown B_MachineDown) (E_Destroyed : Err K mg "Destroyed" C_Destroyed B_Destroyed) (E_Unknown : Err K mg "Unknown" C_Unknown B_Unknown) (E_HallError : Err K mg "HallError" C_HallError B_HallError) (T : Glo mg) : FnOk P w K mg base (L2.CX P w) 1 f fd ["choice"] (spRaise [C_BadValue, C_BadWords, C_BadBlock, C_BadPath, C_BadCommand, C_OutOfRange, C_Busy, C_TooFew, C_PowerLoss, C_MachineDown, C_Destroyed, C_Unknown, C_HallError]) := by
  refine F.okX sc__law_raise (fun vs H Q E h => ?_) (fun cdv A outer s H vs Q E hr h => ?_)
  · obtain ⟨c, rfl, _⟩ := h
    rfl
  · obtain ⟨c, rfl, hc, q⟩ := h
    refine ⟨_, (pss_cons (ps_if (pt_cmpR op_eq (pv 0) pe_int (nomark _))
  (pss_one (ps_raise rfl (takes_of rfl rfl rfl rfl) (Err.mk' E_BadValue rfl)))
  pss_nil)
  (pss_cons (ps_if (pt_cmpR op_eq (pv 0) pe_int (nomark _))
  (pss_one (ps_raise rfl (takes_of rfl rfl rfl rfl) (Err.mk' E_BadWords rfl)))
  pss_nil)
  (pss_cons (ps_if (pt_cmpR op_eq (pv 0) pe_int (nomark _))
  (pss_one (ps_raise rfl (takes_of rfl rfl rfl rfl) (Err.mk' E_BadBlock rfl)))
  pss_nil)
  (pss_cons (ps_if (pt_cmpR op_eq (pv 0) pe_int (nomark _))
  (pss_one (ps_raise rfl (takes_of rfl rfl rfl rfl) (Err.mk' E_BadPath rfl)))
  pss_nil)
  (pss_cons (ps_if (pt_cmpR op_eq (pv 0) pe_int (nomark _))
  (pss_one (ps_raise rfl (takes_of rfl rfl rfl rfl) (Err.mk' E_BadCommand rfl)))
  pss_nil)
  (pss_cons (ps_if (pt_cmpR op_eq (pv 0) pe_int (nomark _))
  (pss_one (ps_raise rfl (takes_of rfl rfl rfl rfl) (Err.mk' E_OutOfRange rfl)))
  pss_nil)
  (pss_cons (ps_if (pt_cmpR op_eq (pv 0) pe_int (nomark _))
  (pss_one (ps_raise rfl (takes_of rfl rfl rfl rfl) (Err.mk' E_Busy rfl)))
  pss_nil)
  (pss_cons (ps_if (pt_cmpR op_eq (pv 0) pe_int (nomark _))
  (pss_one (ps_raise rfl (takes_of rfl rfl rfl rfl) (Err.mk' E_TooFew rfl)))
  pss_nil)
  (pss_cons (ps_if (pt_cmpR op_eq (pv 0) pe_int (nomark _))
  (pss_one (ps_raise rfl (takes_of rfl rfl rfl rfl) (Err.mk' E_PowerLoss rfl)))
  pss_nil)
  (pss_cons (ps_if (pt_cmpR op_eq (pv 0) pe_int (nomark _))
  (pss_one (ps_raise rfl (takes_of rfl rfl rfl rfl) (Err.mk' E_MachineDown rfl)))
  pss_nil)
  (pss_cons (ps_if (pt_cmpR op_eq (pv 0) pe_int (nomark _))
  (pss_one (ps_raise rfl (takes_of rfl rfl rfl rfl) (Err.mk' E_Destroyed rfl)))
  pss_nil)
  (pss_cons (ps_if (pt_cmpR op_eq (pv 0) pe_int (nomark _))
  (pss_one (ps_raise rfl (takes_of rfl rfl rfl rfl) (Err.mk' E_Unknown rfl)))
  pss_nil)
  (pss_one (ps_raise rfl (takes_of rfl rfl rfl rfl) (Err.mk' E_HallError rfl))))))))))))))), ?_⟩
    refine q_when (b := decide ((c : Int) = 0)) (et_test (ev_op (ev_var rfl) ev_c rv_eqI)) (fun hb H0 e0 => ?_) (fun hb H0 e0 => ?_)
    · obtain rfl : c = 0 := by have := of_decide_eq_true hb; omega
      exact q H0 e0
    have n0 := of_decide_eq_false hb
    refine q_when (b := decide ((c : Int) = 1)) (et_test (ev_op (ev_var rfl) ev_c rv_eqI)) (fun hb H1 e1 => ?_) (fun hb H1 e1 => ?_)
    · obtain rfl : c = 1 := by have := of_decide_eq_true hb; omega
      exact q H1 (e0.trans e1)
    have n1 := of_decide_eq_false hb
    refine q_when (b := decide ((c : Int) = 2)) (et_test (ev_op (ev_var rfl) ev_c rv_eqI)) (fun hb H2 e2 => ?_) (fun hb H2 e2 => ?_)
    · obtain rfl : c = 2 := by have := of_decide_eq_true hb; omega
      exact q H2 ((e0.trans e1).trans e2)
    have n2 := of_decide_eq_false hb
    refine q_when (b := decide ((c : Int) = 3)) (et_test (ev_op (ev_var rfl) ev_c rv_eqI)) (fun hb H3 e3 => ?_) (fun hb H3 e3 => ?_)
    · obtain rfl : c = 3 := by have := of_decide_eq_true hb; omega
      exact q H3 (((e0.trans e1).trans e2).trans e3)
    have n3 := of_decide_eq_false hb
    refine q_when (b := decide ((c : Int) = 4)) (et_test (ev_op (ev_var rfl) ev_c rv_eqI)) (fun hb H4 e4 => ?_) (fun hb H4 e4 => ?_)
    · obtain rfl : c = 4 := by have := of_decide_eq_true hb; omega
      exact q H4 ((((e0.trans e1).trans e2).trans e3).trans e4)
    have n4 := of_decide_eq_false hb
    refine q_when (b := decide ((c : Int) = 5)) (et_test (ev_op (ev_var rfl) ev_c rv_eqI)) (fun hb H5 e5 => ?_) (fun hb H5 e5 => ?_)
    · obtain rfl : c = 5 := by have := of_decide_eq_true hb; omega
      exact q H5 (((((e0.trans e1).trans e2).trans e3).trans e4).trans e5)
    have n5 := of_decide_eq_false hb
    refine q_when (b := decide ((c : Int) = 6)) (et_test (ev_op (ev_var rfl) ev_c rv_eqI)) (fun hb H6 e6 => ?_) (fun hb H6 e6 => ?_)
    · obtain rfl : c = 6 := by have := of_decide_eq_true hb; omega
      exact q H6 ((((((e0.trans e1).trans e2).trans e3).trans e4).trans e5).trans e6)
    have n6 := of_decide_eq_false hb
    refine q_when (b := decide ((c : Int) = 7)) (et_test (ev_op (ev_var rfl) ev_c rv_eqI)) (fun hb H7 e7 => ?_) (fun hb H7 e7 => ?_)
    · obtain rfl : c = 7 := by have := of_decide_eq_true hb; omega
      exact q H7 (((((((e0.trans e1).trans e2).trans e3).trans e4).trans e5).trans e6).trans e7)
    have n7 := of_decide_eq_false hb
    refine q_when (b := decide ((c : Int) = 8)) (et_test (ev_op (ev_var rfl) ev_c rv_eqI)) (fun hb H8 e8 => ?_) (fun hb H8 e8 => ?_)
    · obtain rfl : c = 8 := by have := of_decide_eq_true hb; omega
      exact q H8 ((((((((e0.trans e1).trans e2).trans e3).trans e4).trans e5).trans e6).trans e7).trans e8)
    have n8 := of_decide_eq_false hb
    refine q_when (b := decide ((c : Int) = 9)) (et_test (ev_op (ev_var rfl) ev_c rv_eqI)) (fun hb H9 e9 => ?_) (fun hb H9 e9 => ?_)
    · obtain rfl : c = 9 := by have := of_decide_eq_true hb; omega
      exact q H9 (((((((((e0.trans e1).trans e2).trans e3).trans e4).trans e5).trans e6).trans e7).trans e8).trans e9)
    have n9 := of_decide_eq_false hb
    refine q_when (b := decide ((c : Int) = 10)) (et_test (ev_op (ev_var rfl) ev_c rv_eqI)) (fun hb H10 e10 => ?_) (fun hb H10 e10 => ?_)
    · obtain rfl : c = 10 := by have := of_decide_eq_true hb; omega
      exact q H10 ((((((((((e0.trans e1).trans e2).trans e3).trans e4).trans e5).trans e6).trans e7).trans e8).trans e9).trans e10)
    have n10 := of_decide_eq_false hb
    refine q_when (b := decide ((c : Int) = 11)) (et_test (ev_op (ev_var rfl) ev_c rv_eqI)) (fun hb H11 e11 => ?_) (fun hb H11 e11 => ?_)
    · obtain rfl : c = 11 := by have := of_decide_eq_true hb; omega
      exact q H11 (((((((((((e0.trans e1).trans e2).trans e3).trans e4).trans e5).trans e6).trans e7).trans e8).trans e9).trans e10).trans e11)
    have n11 := of_decide_eq_false hb
    obtain rfl : c = 12 := by omega
    exact q _ (((((((((((e0.trans e1).trans e2).trans e3).trans e4).trans e5).trans e6).trans e7).trans e8).trans e9).trans e10).trans e11)
/-! ### what takeD reads is a value -/
def GoodR (L : List PyData) (lv : Nat) (f : Int → Option (PyData × Int)) : Prop := ∀ i d e, f i = some (d, e) → isV d = true ∧ depD d ≤ lv ∧ (2 * cntD d : Int) = e - i
theorem takeN_good {L : List PyData} {lv : Nat} {f : Int → Option (PyData × Int)} (hf : GoodR L lv f) : ∀ (n : Nat) (i : Int) (l : List PyData) (e : Int), takeN f n i = some (l, e) → isVs l = true ∧ depDs l ≤ lv ∧ (2 * cntDs l : Int) = e - i
  | 0, i, l, e, h => by
    cases h
    exact ⟨rfl, Nat.zero_le _, by show (2 * ((0 : Nat) : Int)) = i - i; omega⟩
  | n + 1, i, l, e, h => by
    rw [takeN_succ] at h
    cases h1 : f i with
    | none => rw [h1] at h; cases h
    | some p =>
      obtain ⟨d, e1⟩ := p
      rw [h1] at h
      obtain ⟨a1, a2, a3⟩ := hf i d e1 h1
      cases h2 : takeN f n e1 with
      | none => simp only [h2] at h; cases h
      | some q =>
        obtain ⟨l2, e2⟩ := q
        simp only [h2] at h
        cases h
        obtain ⟨b1, b2, b3⟩ := takeN_good hf n e1 l2 _ h2
        refine ⟨?_, Nat.max_le.mpr ⟨a2, b2⟩, ?_⟩
        · show (isV d && isVs l2) = true
          rw [a1, b1]
          rfl
        · show (2 * ((cntD d + cntDs l2 : Nat) : Int)) = e - i
          omega
theorem takeB_good {L : List PyData} {lv : Nat} {sub : Option (Int → Option (PyData × Int))} (hs : ∀ f, sub = some f → ∃ m, lv = m + 1 ∧ GoodR L m f) : GoodR L lv (takeB L sub) := by
  intro i d e h
  unfold takeB at h
  split at h
  · rename_i z b hp
    split at h
    · split at h
      · rename_i hb
        cases h
        have hP : isP d = true := by
          show (isI d || isT d) = true
          rw [hb]
          rfl
        rcases isP_cases hP with ⟨k, rfl, _⟩ | ⟨z, rfl, _⟩
        · exact ⟨isP_V hP, Nat.zero_le _, by show (2 * ((1 : Nat) : Int)) = i + 2 - i; omega⟩
        · exact ⟨isP_V hP, Nat.zero_le _, by show (2 * ((1 : Nat) : Int)) = i + 2 - i; omega⟩
      · cases h
    · split at h
      · split at h
        · rename_i hb
          cases h
          have hP : isP d = true := by
            show (isI d || isT d) = true
            rw [hb]
            exact Bool.or_true _
          rcases isP_cases hP with ⟨k, rfl, _⟩ | ⟨z, rfl, _⟩
          · exact ⟨isP_V hP, Nat.zero_le _, by show (2 * ((1 : Nat) : Int)) = i + 2 - i; omega⟩
          · exact ⟨isP_V hP, Nat.zero_le _, by show (2 * ((1 : Nat) : Int)) = i + 2 - i; omega⟩
        · cases h
      · split at h
        · split at h
          · split at h
            · rename_i f
              split at h
              · rename_i l e2 hn
                cases h
                obtain ⟨m, rfl, hf⟩ := hs f rfl
                obtain ⟨a1, a2, a3⟩ := takeN_good hf _ _ _ _ hn
                refine ⟨a1, by show depDs l + 1 ≤ m + 1; omega, ?_⟩
                show (2 * ((1 + cntDs l : Nat) : Int)) = e - i
                omega
              · cases h
            · cases h
          · cases h
        · cases h
  · cases h
theorem takeD_good (L : List PyData) : ∀ lv, GoodR L lv (takeD L lv)
  | 0 => takeB_good fun f h => nomatch h
  | lv + 1 => takeB_good fun f h => by cases h; exact ⟨lv, rfl, takeD_good L lv⟩

theorem wn_ret {σ : L2.St} {B H : Hp} {l : List MP} {D : Ends} {te : TE} {ds : List PyData} (hA : At B l H) (h : ∀ B1, Ex B B1 → EvN K te σ B1 ds) (k : ∀ p xs B1 H1, Ex B B1 → B1 p = some (.lst xs) → DpAll K B1 xs ds → At B1 l H1 → D.rt (.ref p) H1) : tRet te D σ H :=
  h B (Ex.refl B) H (at_base hA) _ fun p xs H2 np e2 hp hs => k p xs (ov B H H2) H2 ov_base (by
    have h1 := fresh_back (at_base hA) np
    unfold ov
    rw [h1, np]
    exact hp) hs (at_grow hA e2)
def kindsD (c : Nat) : List PyData := ((List.range 12).map fun k => PyData.bool (decide (c = k))) ++ [.bool true]
def spKinds (K : PySem.W.Frag) : Sp := fun vs H Q _ => ∃ (c : Nat) (B : Hp) (F : List MP), vs = [.int (c : Int)] ∧ c ≤ 12 ∧ At B F H ∧ ∀ p xs B1 H1, Ex B B1 → B1 p = some (.lst xs) → DpAll K B1 xs (kindsD c) → At B1 F H1 → Q (.ref p) H1
theorem ok_kinds {f f_r C_BadValue C_BadWords C_BadBlock C_BadPath C_BadCommand C_OutOfRange C_Busy C_TooFew C_PowerLoss C_MachineDown C_Destroyed C_Unknown C_HallError B_BadValue B_BadWords B_BadBlock B_BadPath B_BadCommand B_OutOfRange B_Busy B_TooFew B_PowerLoss B_MachineDown B_Destroyed B_Unknown B_HallError : Addr} {fd fd_r : FuncData} (F : Fun K "_law_kinds" "_law_kinds" s__law_kinds f fd) (D__law_raise : Df K mg "_law_raise" s__law_raise ["choice"] f_r fd_r) (G__law_raise : FnOk P w K mg base (L2.CX P w) 1 f_r fd_r ["choice"] (spRaise [C_BadValue, C_BadWords, C_BadBlock, C_BadPath, C_BadCommand, C_OutOfRange, C_Busy, C_TooFew, C_PowerLoss, C_MachineDown, C_Destroyed, C_Unknown, C_HallError])) (E_BadValue : Err K mg "BadValue" C_BadValue B_BadValue) (E_BadWords : Err K mg "BadWords" C_BadWords B_BadWords) (E_BadBlock : Err K mg "BadBlock" C_BadBlock B_BadBlock) (E_BadPath : Err K mg "BadPath" C_BadPath B_BadPath) (E_BadCommand : Err K mg "BadCommand" C_BadCommand B_BadCommand) (E_OutOfRange : Err K mg "OutOfRange" C_OutOfRange B_OutOfRange) (E_Busy : Err K mg "Busy" C_Busy B_Busy) (E_TooFew : Err K mg "TooFew" C_TooFew B_TooFew) (E_PowerLoss : Err K mg "PowerLoss" C_PowerLoss B_PowerLoss) (E_MachineDown : Err K mg "MachineDown" C_MachineDown B_MachineDown) (E_Destroyed : Err K mg "Destroyed" C_Destroyed B_Destroyed) (E_Unknown : Err K mg "Unknown" C_Unknown B_Unknown) (E_HallError : Err K mg "HallError" C_HallError B_HallError)
    (KK : ∀ i j : Nat, i ≤ 12 → j < 12 → PySem.W.kitOne K (.ref (clsAt [C_BadValue, C_BadWords, C_BadBlock, C_BadPath, C_BadCommand, C_OutOfRange, C_Busy, C_TooFew, C_PowerLoss, C_MachineDown, C_Destroyed, C_Unknown, C_HallError] i)) (.ref (clsAt [C_BadValue, C_BadWords, C_BadBlock, C_BadPath, C_BadCommand, C_OutOfRange, C_Busy, C_TooFew, C_PowerLoss, C_MachineDown, C_Destroyed, C_Unknown, C_HallError] j)) = some (decide (i = j))) (MM : ∀ i : Nat, i ≤ 12 → PySem.W.exmOne K (.ref (clsAt [C_BadValue, C_BadWords, C_BadBlock, C_BadPath, C_BadCommand, C_OutOfRange, C_Busy, C_TooFew, C_PowerLoss, C_MachineDown, C_Destroyed, C_Unknown, C_HallError] i)) (.ref C_HallError) = some true) (T : Glo mg) : FnOk P w K mg base CX0 2 f fd ["choice"] (spKinds K) := by
  have g_BadValue := E_BadValue.g
  have g_BadWords := E_BadWords.g
  have g_BadBlock := E_BadBlock.g
  have g_BadPath := E_BadPath.g
  have g_BadCommand := E_BadCommand.g
  have g_OutOfRange := E_OutOfRange.g
  have g_Busy := E_Busy.g
  have g_TooFew := E_TooFew.g
  have g_PowerLoss := E_PowerLoss.g
  have g_MachineDown := E_MachineDown.g
  have g_Destroyed := E_Destroyed.g
  have g_Unknown := E_Unknown.g
  have g_HallError := E_HallError.g
  refine F.ok sc__law_kinds (fun vs H Q E h => ?_) (fun cdv A outer s H vs Q E hr h => ?_)
  · obtain ⟨c, B, F, rfl, _⟩ := h
    rfl
  · obtain ⟨c, B, Fr, rfl, hc, hA, q⟩ := h
    have hcs : c = 0 ∨ c = 1 ∨ c = 2 ∨ c = 3 ∨ c = 4 ∨ c = 5 ∨ c = 6 ∨ c = 7 ∨ c = 8 ∨ c = 9 ∨ c = 10 ∨ c = 11 ∨ c = 12 := by omega
    rcases hcs with rfl | rfl | rfl | rfl | rfl | rfl | rfl | rfl | rfl | rfl | rfl | rfl | rfl
    · refine ⟨_, (pss_cons (ps_try_own (C := C_BadValue) (i := 1) rfl rfl sc__law_kinds.nd rfl rfl ⟨rfl, by decide, .inl g_HallError⟩ takes0 (fun W pn xe tk => (pss_one (ps_expr (pe_callS G__law_raise (hr.mono (by decide)) (by rfl) D__law_raise.g D__law_raise.F.kp D__law_raise.b (fun σ => passAt tk σ) (pa_cons (pv 0) pa_nil))))) (fun a oe pn hz hf => (pss_cons (ps_set (i := 2) sc__law_kinds.nd rfl (.inl rfl) (pe_lst (pa_cons (pe_callB (call_isE E_BadValue.ec hz hf) (by rfl) T.isinstance (by decide +kernel) (pa_cons (pv 1) (pa_cons (pe_glob (v := .ref C_BadValue) (by rfl) g_BadValue rfl) pa_nil))) (pa_cons (pe_callB (call_isE E_BadValue.ec hz hf) (by rfl) T.isinstance (by decide +kernel) (pa_cons (pv 1) (pa_cons (pe_glob (v := .ref C_BadWords) (by rfl) g_BadWords rfl) pa_nil))) (pa_cons (pe_callB (call_isE E_BadValue.ec hz hf) (by rfl) T.isinstance (by decide +kernel) (pa_cons (pv 1) (pa_cons (pe_glob (v := .ref C_BadBlock) (by rfl) g_BadBlock rfl) pa_nil))) (pa_cons (pe_callB (call_isE E_BadValue.ec hz hf) (by rfl) T.isinstance (by decide +kernel) (pa_cons (pv 1) (pa_cons (pe_glob (v := .ref C_BadPath) (by rfl) g_BadPath rfl) pa_nil))) pa_nil))))))
  (pss_cons (ps_set (i := 2) sc__law_kinds.nd rfl (.inl rfl) (pe_op op_cat (pv 2) (pe_lst (pa_cons (pe_callB (call_isE E_BadValue.ec hz hf) (by rfl) T.isinstance (by decide +kernel) (pa_cons (pv 1) (pa_cons (pe_glob (v := .ref C_BadCommand) (by rfl) g_BadCommand rfl) pa_nil))) (pa_cons (pe_callB (call_isE E_BadValue.ec hz hf) (by rfl) T.isinstance (by decide +kernel) (pa_cons (pv 1) (pa_cons (pe_glob (v := .ref C_OutOfRange) (by rfl) g_OutOfRange rfl) pa_nil))) (pa_cons (pe_callB (call_isE E_BadValue.ec hz hf) (by rfl) T.isinstance (by decide +kernel) (pa_cons (pv 1) (pa_cons (pe_glob (v := .ref C_Busy) (by rfl) g_Busy rfl) pa_nil))) pa_nil))))))
  (pss_cons (ps_set (i := 2) sc__law_kinds.nd rfl (.inl rfl) (pe_op op_cat (pv 2) (pe_lst (pa_cons (pe_callB (call_isE E_BadValue.ec hz hf) (by rfl) T.isinstance (by decide +kernel) (pa_cons (pv 1) (pa_cons (pe_glob (v := .ref C_TooFew) (by rfl) g_TooFew rfl) pa_nil))) (pa_cons (pe_callB (call_isE E_BadValue.ec hz hf) (by rfl) T.isinstance (by decide +kernel) (pa_cons (pv 1) (pa_cons (pe_glob (v := .ref C_PowerLoss) (by rfl) g_PowerLoss rfl) pa_nil))) (pa_cons (pe_callB (call_isE E_BadValue.ec hz hf) (by rfl) T.isinstance (by decide +kernel) (pa_cons (pv 1) (pa_cons (pe_glob (v := .ref C_MachineDown) (by rfl) g_MachineDown rfl) pa_nil))) pa_nil))))))
  (pss_one (ps_ret (pe_op op_cat (pv 2) (pe_lst (pa_cons (pe_callB (call_isE E_BadValue.ec hz hf) (by rfl) T.isinstance (by decide +kernel) (pa_cons (pv 1) (pa_cons (pe_glob (v := .ref C_Destroyed) (by rfl) g_Destroyed rfl) pa_nil))) (pa_cons (pe_callB (call_isE E_BadValue.ec hz hf) (by rfl) T.isinstance (by decide +kernel) (pa_cons (pv 1) (pa_cons (pe_glob (v := .ref C_Unknown) (by rfl) g_Unknown rfl) pa_nil))) (pa_cons (pe_callB (call_isE E_BadValue.ec hz hf) (by rfl) T.isinstance (by decide +kernel) (pa_cons (pv 1) (pa_cons (pe_bltn (v := .ty "ValueError") (u := .type "ValueError") (by rfl) T.ValueError (by decide +kernel) rfl) pa_nil))) pa_nil))))))))))))
  (pss_one (ps_ret (pe_lst pa_nil)))), ?_⟩
      refine s_drop0 (go_call (go_cons (ev_var rfl) fun H1 e1 => go_nil ⟨0, rfl, by decide, fun H2 e2 => ⟨true, MM 0 (by decide), fun _ a na => ⟨⟨rfl, rfl⟩, ?_⟩, fun z => nomatch z⟩⟩))
      have hA := at_ex hA (e1.trans e2)
      refine wn_asg (K := K) (ds := [.bool (decide (0 = 0)), .bool (decide (0 = 1)), .bool (decide (0 = 2)), .bool (decide (0 = 3))]) hA (fun B2 b2 => (en_lst (eds_cons (ed_bool (ev_isE (c := .ref C_BadValue) (cv := .ref C_BadValue) rfl ev_c (fun u hu => hu) (KK 0 0 (by decide) (by decide)))) (eds_cons (ed_bool (ev_isE (c := .ref C_BadWords) (cv := .ref C_BadWords) rfl ev_c (fun u hu => hu) (KK 0 1 (by decide) (by decide)))) (eds_cons (ed_bool (ev_isE (c := .ref C_BadBlock) (cv := .ref C_BadBlock) rfl ev_c (fun u hu => hu) (KK 0 2 (by decide) (by decide)))) (eds_cons (ed_bool (ev_isE (c := .ref C_BadPath) (cv := .ref C_BadPath) rfl ev_c (fun u hu => hu) (KK 0 3 (by decide) (by decide)))) eds_nil)))) (by decide))) fun p xs B3 H3 b3 hp hd hA => ?_
      refine wn_asg (K := K) (ds := [.bool (decide (0 = 0)), .bool (decide (0 = 1)), .bool (decide (0 = 2)), .bool (decide (0 = 3))] ++ [.bool (decide (0 = 4)), .bool (decide (0 = 5)), .bool (decide (0 = 6))]) hA (fun B2 b2 => en_catV (ev_var rfl) (b2 _ _ hp) (dpa_mono b2 _ _ hd) (en_lst (eds_cons (ed_bool (ev_isE (c := .ref C_BadCommand) (cv := .ref C_BadCommand) rfl ev_c (fun u hu => hu) (KK 0 4 (by decide) (by decide)))) (eds_cons (ed_bool (ev_isE (c := .ref C_OutOfRange) (cv := .ref C_OutOfRange) rfl ev_c (fun u hu => hu) (KK 0 5 (by decide) (by decide)))) (eds_cons (ed_bool (ev_isE (c := .ref C_Busy) (cv := .ref C_Busy) rfl ev_c (fun u hu => hu) (KK 0 6 (by decide) (by decide)))) eds_nil))) (by decide)) (by decide)) fun p2 xs2 B4 H4 b4 hp2 hd2 hA => ?_
      refine wn_asg (K := K) (ds := [.bool (decide (0 = 0)), .bool (decide (0 = 1)), .bool (decide (0 = 2)), .bool (decide (0 = 3))] ++ [.bool (decide (0 = 4)), .bool (decide (0 = 5)), .bool (decide (0 = 6))] ++ [.bool (decide (0 = 7)), .bool (decide (0 = 8)), .bool (decide (0 = 9))]) hA (fun B2 b2 => en_catV (ev_var rfl) (b2 _ _ hp2) (dpa_mono b2 _ _ hd2) (en_lst (eds_cons (ed_bool (ev_isE (c := .ref C_TooFew) (cv := .ref C_TooFew) rfl ev_c (fun u hu => hu) (KK 0 7 (by decide) (by decide)))) (eds_cons (ed_bool (ev_isE (c := .ref C_PowerLoss) (cv := .ref C_PowerLoss) rfl ev_c (fun u hu => hu) (KK 0 8 (by decide) (by decide)))) (eds_cons (ed_bool (ev_isE (c := .ref C_MachineDown) (cv := .ref C_MachineDown) rfl ev_c (fun u hu => hu) (KK 0 9 (by decide) (by decide)))) eds_nil))) (by decide)) (by decide)) fun p3 xs3 B5 H5 b5 hp3 hd3 hA => ?_
      exact wn_ret (K := K) (ds := kindsD 0) hA (fun B2 b2 => en_catV (es := [.bool (decide (0 = 10)), .bool (decide (0 = 11)), .bool true]) (ev_var rfl) (b2 _ _ hp3) (dpa_mono b2 _ _ hd3) (en_lst (eds_cons (ed_bool (ev_isE (c := .ref C_Destroyed) (cv := .ref C_Destroyed) rfl ev_c (fun u hu => hu) (KK 0 10 (by decide) (by decide)))) (eds_cons (ed_bool (ev_isE (c := .ref C_Unknown) (cv := .ref C_Unknown) rfl ev_c (fun u hu => hu) (KK 0 11 (by decide) (by decide)))) (eds_cons (ed_bool (ev_isE (c := .ty "ValueError") (cv := .type "ValueError") rfl ev_c (fun u hu => hu) E_BadValue.k2)) eds_nil))) (by decide)) (by decide)) fun p4 xs4 B6 H6 b6 hp4 hd4 hA => q p4 xs4 B6 H6 (b3.trans (b4.trans (b5.trans b6))) hp4 hd4 hA
    · refine ⟨_, (pss_cons (ps_try_own (C := C_BadWords) (i := 1) rfl rfl sc__law_kinds.nd rfl rfl ⟨rfl, by decide, .inl g_HallError⟩ takes0 (fun W pn xe tk => (pss_one (ps_expr (pe_callS G__law_raise (hr.mono (by decide)) (by rfl) D__law_raise.g D__law_raise.F.kp D__law_raise.b (fun σ => passAt tk σ) (pa_cons (pv 0) pa_nil))))) (fun a oe pn hz hf => (pss_cons (ps_set (i := 2) sc__law_kinds.nd rfl (.inl rfl) (pe_lst (pa_cons (pe_callB (call_isE E_BadWords.ec hz hf) (by rfl) T.isinstance (by decide +kernel) (pa_cons (pv 1) (pa_cons (pe_glob (v := .ref C_BadValue) (by rfl) g_BadValue rfl) pa_nil))) (pa_cons (pe_callB (call_isE E_BadWords.ec hz hf) (by rfl) T.isinstance (by decide +kernel) (pa_cons (pv 1) (pa_cons (pe_glob (v := .ref C_BadWords) (by rfl) g_BadWords rfl) pa_nil))) (pa_cons (pe_callB (call_isE E_BadWords.ec hz hf) (by rfl) T.isinstance (by decide +kernel) (pa_cons (pv 1) (pa_cons (pe_glob (v := .ref C_BadBlock) (by rfl) g_BadBlock rfl) pa_nil))) (pa_cons (pe_callB (call_isE E_BadWords.ec hz hf) (by rfl) T.isinstance (by decide +kernel) (pa_cons (pv 1) (pa_cons (pe_glob (v := .ref C_BadPath) (by rfl) g_BadPath rfl) pa_nil))) pa_nil))))))
  (pss_cons (ps_set (i := 2) sc__law_kinds.nd rfl (.inl rfl) (pe_op op_cat (pv 2) (pe_lst (pa_cons (pe_callB (call_isE E_BadWords.ec hz hf) (by rfl) T.isinstance (by decide +kernel) (pa_cons (pv 1) (pa_cons (pe_glob (v := .ref C_BadCommand) (by rfl) g_BadCommand rfl) pa_nil))) (pa_cons (pe_callB (call_isE E_BadWords.ec hz hf) (by rfl) T.isinstance (by decide +kernel) (pa_cons (pv 1) (pa_cons (pe_glob (v := .ref C_OutOfRange) (by rfl) g_OutOfRange rfl) pa_nil))) (pa_cons (pe_callB (call_isE E_BadWords.ec hz hf) (by rfl) T.isinstance (by decide +kernel) (pa_cons (pv 1) (pa_cons (pe_glob (v := .ref C_Busy) (by rfl) g_Busy rfl) pa_nil))) pa_nil))))))
  (pss_cons (ps_set (i := 2) sc__law_kinds.nd rfl (.inl rfl) (pe_op op_cat (pv 2) (pe_lst (pa_cons (pe_callB (call_isE E_BadWords.ec hz hf) (by rfl) T.isinstance (by decide +kernel) (pa_cons (pv 1) (pa_cons (pe_glob (v := .ref C_TooFew) (by rfl) g_TooFew rfl) pa_nil))) (pa_cons (pe_callB (call_isE E_BadWords.ec hz hf) (by rfl) T.isinstance (by decide +kernel) (pa_cons (pv 1) (pa_cons (pe_glob (v := .ref C_PowerLoss) (by rfl) g_PowerLoss rfl) pa_nil))) (pa_cons (pe_callB (call_isE E_BadWords.ec hz hf) (by rfl) T.isinstance (by decide +kernel) (pa_cons (pv 1) (pa_cons (pe_glob (v := .ref C_MachineDown) (by rfl) g_MachineDown rfl) pa_nil))) pa_nil))))))
  (pss_one (ps_ret (pe_op op_cat (pv 2) (pe_lst (pa_cons (pe_callB (call_isE E_BadWords.ec hz hf) (by rfl) T.isinstance (by decide +kernel) (pa_cons (pv 1) (pa_cons (pe_glob (v := .ref C_Destroyed) (by rfl) g_Destroyed rfl) pa_nil))) (pa_cons (pe_callB (call_isE E_BadWords.ec hz hf) (by rfl) T.isinstance (by decide +kernel) (pa_cons (pv 1) (pa_cons (pe_glob (v := .ref C_Unknown) (by rfl) g_Unknown rfl) pa_nil))) (pa_cons (pe_callB (call_isE E_BadWords.ec hz hf) (by rfl) T.isinstance (by decide +kernel) (pa_cons (pv 1) (pa_cons (pe_bltn (v := .ty "ValueError") (u := .type "ValueError") (by rfl) T.ValueError (by decide +kernel) rfl) pa_nil))) pa_nil))))))))))))
  (pss_one (ps_ret (pe_lst pa_nil)))), ?_⟩
      refine s_drop0 (go_call (go_cons (ev_var rfl) fun H1 e1 => go_nil ⟨1, rfl, by decide, fun H2 e2 => ⟨true, MM 1 (by decide), fun _ a na => ⟨⟨rfl, rfl⟩, ?_⟩, fun z => nomatch z⟩⟩))
      have hA := at_ex hA (e1.trans e2)
      refine wn_asg (K := K) (ds := [.bool (decide (1 = 0)), .bool (decide (1 = 1)), .bool (decide (1 = 2)), .bool (decide (1 = 3))]) hA (fun B2 b2 => (en_lst (eds_cons (ed_bool (ev_isE (c := .ref C_BadValue) (cv := .ref C_BadValue) rfl ev_c (fun u hu => hu) (KK 1 0 (by decide) (by decide)))) (eds_cons (ed_bool (ev_isE (c := .ref C_BadWords) (cv := .ref C_BadWords) rfl ev_c (fun u hu => hu) (KK 1 1 (by decide) (by decide)))) (eds_cons (ed_bool (ev_isE (c := .ref C_BadBlock) (cv := .ref C_BadBlock) rfl ev_c (fun u hu => hu) (KK 1 2 (by decide) (by decide)))) (eds_cons (ed_bool (ev_isE (c := .ref C_BadPath) (cv := .ref C_BadPath) rfl ev_c (fun u hu => hu) (KK 1 3 (by decide) (by decide)))) eds_nil)))) (by decide))) fun p xs B3 H3 b3 hp hd hA => ?_
      refine wn_asg (K := K) (ds := [.bool (decide (1 = 0)), .bool (decide (1 = 1)), .bool (decide (1 = 2)), .bool (decide (1 = 3))] ++ [.bool (decide (1 = 4)), .bool (decide (1 = 5)), .bool (decide (1 = 6))]) hA (fun B2 b2 => en_catV (ev_var rfl) (b2 _ _ hp) (dpa_mono b2 _ _ hd) (en_lst (eds_cons (ed_bool (ev_isE (c := .ref C_BadCommand) (cv := .ref C_BadCommand) rfl ev_c (fun u hu => hu) (KK 1 4 (by decide) (by decide)))) (eds_cons (ed_bool (ev_isE (c := .ref C_OutOfRange) (cv := .ref C_OutOfRange) rfl ev_c (fun u hu => hu) (KK 1 5 (by decide) (by decide)))) (eds_cons (ed_bool (ev_isE (c := .ref C_Busy) (cv := .ref C_Busy) rfl ev_c (fun u hu => hu) (KK 1 6 (by decide) (by decide)))) eds_nil))) (by decide)) (by decide)) fun p2 xs2 B4 H4 b4 hp2 hd2 hA => ?_
      refine wn_asg (K := K) (ds := [.bool (decide (1 = 0)), .bool (decide (1 = 1)), .bool (decide (1 = 2)), .bool (decide (1 = 3))] ++ [.bool (decide (1 = 4)), .bool (decide (1 = 5)), .bool (decide (1 = 6))] ++ [.bool (decide (1 = 7)), .bool (decide (1 = 8)), .bool (decide (1 = 9))]) hA (fun B2 b2 => en_catV (ev_var rfl) (b2 _ _ hp2) (dpa_mono b2 _ _ hd2) (en_lst (eds_cons (ed_bool (ev_isE (c := .ref C_TooFew) (cv := .ref C_TooFew) rfl ev_c (fun u hu => hu) (KK 1 7 (by decide) (by decide)))) (eds_cons (ed_bool (ev_isE (c := .ref C_PowerLoss) (cv := .ref C_PowerLoss) rfl ev_c (fun u hu => hu) (KK 1 8 (by decide) (by decide)))) (eds_cons (ed_bool (ev_isE (c := .ref C_MachineDown) (cv := .ref C_MachineDown) rfl ev_c (fun u hu => hu) (KK 1 9 (by decide) (by decide)))) eds_nil))) (by decide)) (by decide)) fun p3 xs3 B5 H5 b5 hp3 hd3 hA => ?_
      exact wn_ret (K := K) (ds := kindsD 1) hA (fun B2 b2 => en_catV (es := [.bool (decide (1 = 10)), .bool (decide (1 = 11)), .bool true]) (ev_var rfl) (b2 _ _ hp3) (dpa_mono b2 _ _ hd3) (en_lst (eds_cons (ed_bool (ev_isE (c := .ref C_Destroyed) (cv := .ref C_Destroyed) rfl ev_c (fun u hu => hu) (KK 1 10 (by decide) (by decide)))) (eds_cons (ed_bool (ev_isE (c := .ref C_Unknown) (cv := .ref C_Unknown) rfl ev_c (fun u hu => hu) (KK 1 11 (by decide) (by decide)))) (eds_cons (ed_bool (ev_isE (c := .ty "ValueError") (cv := .type "ValueError") rfl ev_c (fun u hu => hu) E_BadWords.k2)) eds_nil))) (by decide)) (by decide)) fun p4 xs4 B6 H6 b6 hp4 hd4 hA => q p4 xs4 B6 H6 (b3.trans (b4.trans (b5.trans b6))) hp4 hd4 hA
    · refine ⟨_, (pss_cons (ps_try_own (C := C_BadBlock) (i := 1) rfl rfl sc__law_kinds.nd rfl rfl ⟨rfl, by decide, .inl g_HallError⟩ takes0 (fun W pn xe tk => (pss_one (ps_expr (pe_callS G__law_raise (hr.mono (by decide)) (by rfl) D__law_raise.g D__law_raise.F.kp D__law_raise.b (fun σ => passAt tk σ) (pa_cons (pv 0) pa_nil))))) (fun a oe pn hz hf => (pss_cons (ps_set (i := 2) sc__law_kinds.nd rfl (.inl rfl) (pe_lst (pa_cons (pe_callB (call_isE E_BadBlock.ec hz hf) (by rfl) T.isinstance (by decide +kernel) (pa_cons (pv 1) (pa_cons (pe_glob (v := .ref C_BadValue) (by rfl) g_BadValue rfl) pa_nil))) (pa_cons (pe_callB (call_isE E_BadBlock.ec hz hf) (by rfl) T.isinstance (by decide +kernel) (pa_cons (pv 1) (pa_cons (pe_glob (v := .ref C_BadWords) (by rfl) g_BadWords rfl) pa_nil))) (pa_cons (pe_callB (call_isE E_BadBlock.ec hz hf) (by rfl) T.isinstance (by decide +kernel) (pa_cons (pv 1) (pa_cons (pe_glob (v := .ref C_BadBlock) (by rfl) g_BadBlock rfl) pa_nil))) (pa_cons (pe_callB (call_isE E_BadBlock.ec hz hf) (by rfl) T.isinstance (by decide +kernel) (pa_cons (pv 1) (pa_cons (pe_glob (v := .ref C_BadPath) (by rfl) g_BadPath rfl) pa_nil))) pa_nil))))))
  (pss_cons (ps_set (i := 2) sc__law_kinds.nd rfl (.inl rfl) (pe_op op_cat (pv 2) (pe_lst (pa_cons (pe_callB (call_isE E_BadBlock.ec hz hf) (by rfl) T.isinstance (by decide +kernel) (pa_cons (pv 1) (pa_cons (pe_glob (v := .ref C_BadCommand) (by rfl) g_BadCommand rfl) pa_nil))) (pa_cons (pe_callB (call_isE E_BadBlock.ec hz hf) (by rfl) T.isinstance (by decide +kernel) (pa_cons (pv 1) (pa_cons (pe_glob (v := .ref C_OutOfRange) (by rfl) g_OutOfRange rfl) pa_nil))) (pa_cons (pe_callB (call_isE E_BadBlock.ec hz hf) (by rfl) T.isinstance (by decide +kernel) (pa_cons (pv 1) (pa_cons (pe_glob (v := .ref C_Busy) (by rfl) g_Busy rfl) pa_nil))) pa_nil))))))
  (pss_cons (ps_set (i := 2) sc__law_kinds.nd rfl (.inl rfl) (pe_op op_cat (pv 2) (pe_lst (pa_cons (pe_callB (call_isE E_BadBlock.ec hz hf) (by rfl) T.isinstance (by decide +kernel) (pa_cons (pv 1) (pa_cons (pe_glob (v := .ref C_TooFew) (by rfl) g_TooFew rfl) pa_nil))) (pa_cons (pe_callB (call_isE E_BadBlock.ec hz hf) (by rfl) T.isinstance (by decide +kernel) (pa_cons (pv 1) (pa_cons (pe_glob (v := .ref C_PowerLoss) (by rfl) g_PowerLoss rfl) pa_nil))) (pa_cons (pe_callB (call_isE E_BadBlock.ec hz hf) (by rfl) T.isinstance (by decide +kernel) (pa_cons (pv 1) (pa_cons (pe_glob (v := .ref C_MachineDown) (by rfl) g_MachineDown rfl) pa_nil))) pa_nil))))))
  (pss_one (ps_ret (pe_op op_cat (pv 2) (pe_lst (pa_cons (pe_callB (call_isE E_BadBlock.ec hz hf) (by rfl) T.isinstance (by decide +kernel) (pa_cons (pv 1) (pa_cons (pe_glob (v := .ref C_Destroyed) (by rfl) g_Destroyed rfl) pa_nil))) (pa_cons (pe_callB (call_isE E_BadBlock.ec hz hf) (by rfl) T.isinstance (by decide +kernel) (pa_cons (pv 1) (pa_cons (pe_glob (v := .ref C_Unknown) (by rfl) g_Unknown rfl) pa_nil))) (pa_cons (pe_callB (call_isE E_BadBlock.ec hz hf) (by rfl) T.isinstance (by decide +kernel) (pa_cons (pv 1) (pa_cons (pe_bltn (v := .ty "ValueError") (u := .type "ValueError") (by rfl) T.ValueError (by decide +kernel) rfl) pa_nil))) pa_nil))))))))))))
  (pss_one (ps_ret (pe_lst pa_nil)))), ?_⟩
      refine s_drop0 (go_call (go_cons (ev_var rfl) fun H1 e1 => go_nil ⟨2, rfl, by decide, fun H2 e2 => ⟨true, MM 2 (by decide), fun _ a na => ⟨⟨rfl, rfl⟩, ?_⟩, fun z => nomatch z⟩⟩))
      have hA := at_ex hA (e1.trans e2)
      refine wn_asg (K := K) (ds := [.bool (decide (2 = 0)), .bool (decide (2 = 1)), .bool (decide (2 = 2)), .bool (decide (2 = 3))]) hA (fun B2 b2 => (en_lst (eds_cons (ed_bool (ev_isE (c := .ref C_BadValue) (cv := .ref C_BadValue) rfl ev_c (fun u hu => hu) (KK 2 0 (by decide) (by decide)))) (eds_cons (ed_bool (ev_isE (c := .ref C_BadWords) (cv := .ref C_BadWords) rfl ev_c (fun u hu => hu) (KK 2 1 (by decide) (by decide)))) (eds_cons (ed_bool (ev_isE (c := .ref C_BadBlock) (cv := .ref C_BadBlock) rfl ev_c (fun u hu => hu) (KK 2 2 (by decide) (by decide)))) (eds_cons (ed_bool (ev_isE (c := .ref C_BadPath) (cv := .ref C_BadPath) rfl ev_c (fun u hu => hu) (KK 2 3 (by decide) (by decide)))) eds_nil)))) (by decide))) fun p xs B3 H3 b3 hp hd hA => ?_
      refine wn_asg (K := K) (ds := [.bool (decide (2 = 0)), .bool (decide (2 = 1)), .bool (decide (2 = 2)), .bool (decide (2 = 3))] ++ [.bool (decide (2 = 4)), .bool (decide (2 = 5)), .bool (decide (2 = 6))]) hA (fun B2 b2 => en_catV (ev_var rfl) (b2 _ _ hp) (dpa_mono b2 _ _ hd) (en_lst (eds_cons (ed_bool (ev_isE (c := .ref C_BadCommand) (cv := .ref C_BadCommand) rfl ev_c (fun u hu => hu) (KK 2 4 (by decide) (by decide)))) (eds_cons (ed_bool (ev_isE (c := .ref C_OutOfRange) (cv := .ref C_OutOfRange) rfl ev_c (fun u hu => hu) (KK 2 5 (by decide) (by decide)))) (eds_cons (ed_bool (ev_isE (c := .ref C_Busy) (cv := .ref C_Busy) rfl ev_c (fun u hu => hu) (KK 2 6 (by decide) (by decide)))) eds_nil))) (by decide)) (by decide)) fun p2 xs2 B4 H4 b4 hp2 hd2 hA => ?_
      refine wn_asg (K := K) (ds := [.bool (decide (2 = 0)), .bool (decide (2 = 1)), .bool (decide (2 = 2)), .bool (decide (2 = 3))] ++ [.bool (decide (2 = 4)), .bool (decide (2 = 5)), .bool (decide (2 = 6))] ++ [.bool (decide (2 = 7)), .bool (decide (2 = 8)), .bool (decide (2 = 9))]) hA (fun B2 b2 => en_catV (ev_var rfl) (b2 _ _ hp2) (dpa_mono b2 _ _ hd2) (en_lst (eds_cons (ed_bool (ev_isE (c := .ref C_TooFew) (cv := .ref C_TooFew) rfl ev_c (fun u hu => hu) (KK 2 7 (by decide) (by decide)))) (eds_cons (ed_bool (ev_isE (c := .ref C_PowerLoss) (cv := .ref C_PowerLoss) rfl ev_c (fun u hu => hu) (KK 2 8 (by decide) (by decide)))) (eds_cons (ed_bool (ev_isE (c := .ref C_MachineDown) (cv := .ref C_MachineDown) rfl ev_c (fun u hu => hu) (KK 2 9 (by decide) (by decide)))) eds_nil))) (by decide)) (by decide)) fun p3 xs3 B5 H5 b5 hp3 hd3 hA => ?_
      exact wn_ret (K := K) (ds := kindsD 2) hA (fun B2 b2 => en_catV (es := [.bool (decide (2 = 10)), .bool (decide (2 = 11)), .bool true]) (ev_var rfl) (b2 _ _ hp3) (dpa_mono b2 _ _ hd3) (en_lst (eds_cons (ed_bool (ev_isE (c := .ref C_Destroyed) (cv := .ref C_Destroyed) rfl ev_c (fun u hu => hu) (KK 2 10 (by decide) (by decide)))) (eds_cons (ed_bool (ev_isE (c := .ref C_Unknown) (cv := .ref C_Unknown) rfl ev_c (fun u hu => hu) (KK 2 11 (by decide) (by decide)))) (eds_cons (ed_bool (ev_isE (c := .ty "ValueError") (cv := .type "ValueError") rfl ev_c (fun u hu => hu) E_BadBlock.k2)) eds_nil))) (by decide)) (by decide)) fun p4 xs4 B6 H6 b6 hp4 hd4 hA => q p4 xs4 B6 H6 (b3.trans (b4.trans (b5.trans b6))) hp4 hd4 hA
    · refine ⟨_, (pss_cons (ps_try_own (C := C_BadPath) (i := 1) rfl rfl sc__law_kinds.nd rfl rfl ⟨rfl, by decide, .inl g_HallError⟩ takes0 (fun W pn xe tk => (pss_one (ps_expr (pe_callS G__law_raise (hr.mono (by decide)) (by rfl) D__law_raise.g D__law_raise.F.kp D__law_raise.b (fun σ => passAt tk σ) (pa_cons (pv 0) pa_nil))))) (fun a oe pn hz hf => (pss_cons (ps_set (i := 2) sc__law_kinds.nd rfl (.inl rfl) (pe_lst (pa_cons (pe_callB (call_isE E_BadPath.ec hz hf) (by rfl) T.isinstance (by decide +kernel) (pa_cons (pv 1) (pa_cons (pe_glob (v := .ref C_BadValue) (by rfl) g_BadValue rfl) pa_nil))) (pa_cons (pe_callB (call_isE E_BadPath.ec hz hf) (by rfl) T.isinstance (by decide +kernel) (pa_cons (pv 1) (pa_cons (pe_glob (v := .ref C_BadWords) (by rfl) g_BadWords rfl) pa_nil))) (pa_cons (pe_callB (call_isE E_BadPath.ec hz hf) (by rfl) T.isinstance (by decide +kernel) (pa_cons (pv 1) (pa_cons (pe_glob (v := .ref C_BadBlock) (by rfl) g_BadBlock rfl) pa_nil))) (pa_cons (pe_callB (call_isE E_BadPath.ec hz hf) (by rfl) T.isinstance (by decide +kernel) (pa_cons (pv 1) (pa_cons (pe_glob (v := .ref C_BadPath) (by rfl) g_BadPath rfl) pa_nil))) pa_nil))))))
  (pss_cons (ps_set (i := 2) sc__law_kinds.nd rfl (.inl rfl) (pe_op op_cat (pv 2) (pe_lst (pa_cons (pe_callB (call_isE E_BadPath.ec hz hf) (by rfl) T.isinstance (by decide +kernel) (pa_cons (pv 1) (pa_cons (pe_glob (v := .ref C_BadCommand) (by rfl) g_BadCommand rfl) pa_nil))) (pa_cons (pe_callB (call_isE E_BadPath.ec hz hf) (by rfl) T.isinstance (by decide +kernel) (pa_cons (pv 1) (pa_cons (pe_glob (v := .ref C_OutOfRange) (by rfl) g_OutOfRange rfl) pa_nil))) (pa_cons (pe_callB (call_isE E_BadPath.ec hz hf) (by rfl) T.isinstance (by decide +kernel) (pa_cons (pv 1) (pa_cons (pe_glob (v := .ref C_Busy) (by rfl) g_Busy rfl) pa_nil))) pa_nil))))))
  (pss_cons (ps_set (i := 2) sc__law_kinds.nd rfl (.inl rfl) (pe_op op_cat (pv 2) (pe_lst (pa_cons (pe_callB (call_isE E_BadPath.ec hz hf) (by rfl) T.isinstance (by decide +kernel) (pa_cons (pv 1) (pa_cons (pe_glob (v := .ref C_TooFew) (by rfl) g_TooFew rfl) pa_nil))) (pa_cons (pe_callB (call_isE E_BadPath.ec hz hf) (by rfl) T.isinstance (by decide +kernel) (pa_cons (pv 1) (pa_cons (pe_glob (v := .ref C_PowerLoss) (by rfl) g_PowerLoss rfl) pa_nil))) (pa_cons (pe_callB (call_isE E_BadPath.ec hz hf) (by rfl) T.isinstance (by decide +kernel) (pa_cons (pv 1) (pa_cons (pe_glob (v := .ref C_MachineDown) (by rfl) g_MachineDown rfl) pa_nil))) pa_nil))))))
  (pss_one (ps_ret (pe_op op_cat (pv 2) (pe_lst (pa_cons (pe_callB (call_isE E_BadPath.ec hz hf) (by rfl) T.isinstance (by decide +kernel) (pa_cons (pv 1) (pa_cons (pe_glob (v := .ref C_Destroyed) (by rfl) g_Destroyed rfl) pa_nil))) (pa_cons (pe_callB (call_isE E_BadPath.ec hz hf) (by rfl) T.isinstance (by decide +kernel) (pa_cons (pv 1) (pa_cons (pe_glob (v := .ref C_Unknown) (by rfl) g_Unknown rfl) pa_nil))) (pa_cons (pe_callB (call_isE E_BadPath.ec hz hf) (by rfl) T.isinstance (by decide +kernel) (pa_cons (pv 1) (pa_cons (pe_bltn (v := .ty "ValueError") (u := .type "ValueError") (by rfl) T.ValueError (by decide +kernel) rfl) pa_nil))) pa_nil))))))))))))
  (pss_one (ps_ret (pe_lst pa_nil)))), ?_⟩
      refine s_drop0 (go_call (go_cons (ev_var rfl) fun H1 e1 => go_nil ⟨3, rfl, by decide, fun H2 e2 => ⟨true, MM 3 (by decide), fun _ a na => ⟨⟨rfl, rfl⟩, ?_⟩, fun z => nomatch z⟩⟩))
      have hA := at_ex hA (e1.trans e2)
      refine wn_asg (K := K) (ds := [.bool (decide (3 = 0)), .bool (decide (3 = 1)), .bool (decide (3 = 2)), .bool (decide (3 = 3))]) hA (fun B2 b2 => (en_lst (eds_cons (ed_bool (ev_isE (c := .ref C_BadValue) (cv := .ref C_BadValue) rfl ev_c (fun u hu => hu) (KK 3 0 (by decide) (by decide)))) (eds_cons (ed_bool (ev_isE (c := .ref C_BadWords) (cv := .ref C_BadWords) rfl ev_c (fun u hu => hu) (KK 3 1 (by decide) (by decide)))) (eds_cons (ed_bool (ev_isE (c := .ref C_BadBlock) (cv := .ref C_BadBlock) rfl ev_c (fun u hu => hu) (KK 3 2 (by decide) (by decide)))) (eds_cons (ed_bool (ev_isE (c := .ref C_BadPath) (cv := .ref C_BadPath) rfl ev_c (fun u hu => hu) (KK 3 3 (by decide) (by decide)))) eds_nil)))) (by decide))) fun p xs B3 H3 b3 hp hd hA => ?_
      refine wn_asg (K := K) (ds := [.bool (decide (3 = 0)), .bool (decide (3 = 1)), .bool (decide (3 = 2)), .bool (decide (3 = 3))] ++ [.bool (decide (3 = 4)), .bool (decide (3 = 5)), .bool (decide (3 = 6))]) hA (fun B2 b2 => en_catV (ev_var rfl) (b2 _ _ hp) (dpa_mono b2 _ _ hd) (en_lst (eds_cons (ed_bool (ev_isE (c := .ref C_BadCommand) (cv := .ref C_BadCommand) rfl ev_c (fun u hu => hu) (KK 3 4 (by decide) (by decide)))) (eds_cons (ed_bool (ev_isE (c := .ref C_OutOfRange) (cv := .ref C_OutOfRange) rfl ev_c (fun u hu => hu) (KK 3 5 (by decide) (by decide)))) (eds_cons (ed_bool (ev_isE (c := .ref C_Busy) (cv := .ref C_Busy) rfl ev_c (fun u hu => hu) (KK 3 6 (by decide) (by decide)))) eds_nil))) (by decide)) (by decide)) fun p2 xs2 B4 H4 b4 hp2 hd2 hA => ?_
      refine wn_asg (K := K) (ds := [.bool (decide (3 = 0)), .bool (decide (3 = 1)), .bool (decide (3 = 2)), .bool (decide (3 = 3))] ++ [.bool (decide (3 = 4)), .bool (decide (3 = 5)), .bool (decide (3 = 6))] ++ [.bool (decide (3 = 7)), .bool (decide (3 = 8)), .bool (decide (3 = 9))]) hA (fun B2 b2 => en_catV (ev_var rfl) (b2 _ _ hp2) (dpa_mono b2 _ _ hd2) (en_lst (eds_cons (ed_bool (ev_isE (c := .ref C_TooFew) (cv := .ref C_TooFew) rfl ev_c (fun u hu => hu) (KK 3 7 (by decide) (by decide)))) (eds_cons (ed_bool (ev_isE (c := .ref C_PowerLoss) (cv := .ref C_PowerLoss) rfl ev_c (fun u hu => hu) (KK 3 8 (by decide) (by decide)))) (eds_cons (ed_bool (ev_isE (c := .ref C_MachineDown) (cv := .ref C_MachineDown) rfl ev_c (fun u hu => hu) (KK 3 9 (by decide) (by decide)))) eds_nil))) (by decide)) (by decide)) fun p3 xs3 B5 H5 b5 hp3 hd3 hA => ?_
      exact wn_ret (K := K) (ds := kindsD 3) hA (fun B2 b2 => en_catV (es := [.bool (decide (3 = 10)), .bool (decide (3 = 11)), .bool true]) (ev_var rfl) (b2 _ _ hp3) (dpa_mono b2 _ _ hd3) (en_lst (eds_cons (ed_bool (ev_isE (c := .ref C_Destroyed) (cv := .ref C_Destroyed) rfl ev_c (fun u hu => hu) (KK 3 10 (by decide) (by decide)))) (eds_cons (ed_bool (ev_isE (c := .ref C_Unknown) (cv := .ref C_Unknown) rfl ev_c (fun u hu => hu) (KK 3 11 (by decide) (by decide)))) (eds_cons (ed_bool (ev_isE (c := .ty "ValueError") (cv := .type "ValueError") rfl ev_c (fun u hu => hu) E_BadPath.k2)) eds_nil))) (by decide)) (by decide)) fun p4 xs4 B6 H6 b6 hp4 hd4 hA => q p4 xs4 B6 H6 (b3.trans (b4.trans (b5.trans b6))) hp4 hd4 hA
    · refine ⟨_, (pss_cons (ps_try_own (C := C_BadCommand) (i := 1) rfl rfl sc__law_kinds.nd rfl rfl ⟨rfl, by decide, .inl g_HallError⟩ takes0 (fun W pn xe tk => (pss_one (ps_expr (pe_callS G__law_raise (hr.mono (by decide)) (by rfl) D__law_raise.g D__law_raise.F.kp D__law_raise.b (fun σ => passAt tk σ) (pa_cons (pv 0) pa_nil))))) (fun a oe pn hz hf => (pss_cons (ps_set (i := 2) sc__law_kinds.nd rfl (.inl rfl) (pe_lst (pa_cons (pe_callB (call_isE E_BadCommand.ec hz hf) (by rfl) T.isinstance (by decide +kernel) (pa_cons (pv 1) (pa_cons (pe_glob (v := .ref C_BadValue) (by rfl) g_BadValue rfl) pa_nil))) (pa_cons (pe_callB (call_isE E_BadCommand.ec hz hf) (by rfl) T.isinstance (by decide +kernel) (pa_cons (pv 1) (pa_cons (pe_glob (v := .ref C_BadWords) (by rfl) g_BadWords rfl) pa_nil))) (pa_cons (pe_callB (call_isE E_BadCommand.ec hz hf) (by rfl) T.isinstance (by decide +kernel) (pa_cons (pv 1) (pa_cons (pe_glob (v := .ref C_BadBlock) (by rfl) g_BadBlock rfl) pa_nil))) (pa_cons (pe_callB (call_isE E_BadCommand.ec hz hf) (by rfl) T.isinstance (by decide +kernel) (pa_cons (pv 1) (pa_cons (pe_glob (v := .ref C_BadPath) (by rfl) g_BadPath rfl) pa_nil))) pa_nil))))))
  (pss_cons (ps_set (i := 2) sc__law_kinds.nd rfl (.inl rfl) (pe_op op_cat (pv 2) (pe_lst (pa_cons (pe_callB (call_isE E_BadCommand.ec hz hf) (by rfl) T.isinstance (by decide +kernel) (pa_cons (pv 1) (pa_cons (pe_glob (v := .ref C_BadCommand) (by rfl) g_BadCommand rfl) pa_nil))) (pa_cons (pe_callB (call_isE E_BadCommand.ec hz hf) (by rfl) T.isinstance (by decide +kernel) (pa_cons (pv 1) (pa_cons (pe_glob (v := .ref C_OutOfRange) (by rfl) g_OutOfRange rfl) pa_nil))) (pa_cons (pe_callB (call_isE E_BadCommand.ec hz hf) (by rfl) T.isinstance (by decide +kernel) (pa_cons (pv 1) (pa_cons (pe_glob (v := .ref C_Busy) (by rfl) g_Busy rfl) pa_nil))) pa_nil))))))
  (pss_cons (ps_set (i := 2) sc__law_kinds.nd rfl (.inl rfl) (pe_op op_cat (pv 2) (pe_lst (pa_cons (pe_callB (call_isE E_BadCommand.ec hz hf) (by rfl) T.isinstance (by decide +kernel) (pa_cons (pv 1) (pa_cons (pe_glob (v := .ref C_TooFew) (by rfl) g_TooFew rfl) pa_nil))) (pa_cons (pe_callB (call_isE E_BadCommand.ec hz hf) (by rfl) T.isinstance (by decide +kernel) (pa_cons (pv 1) (pa_cons (pe_glob (v := .ref C_PowerLoss) (by rfl) g_PowerLoss rfl) pa_nil))) (pa_cons (pe_callB (call_isE E_BadCommand.ec hz hf) (by rfl) T.isinstance (by decide +kernel) (pa_cons (pv 1) (pa_cons (pe_glob (v := .ref C_MachineDown) (by rfl) g_MachineDown rfl) pa_nil))) pa_nil))))))
  (pss_one (ps_ret (pe_op op_cat (pv 2) (pe_lst (pa_cons (pe_callB (call_isE E_BadCommand.ec hz hf) (by rfl) T.isinstance (by decide +kernel) (pa_cons (pv 1) (pa_cons (pe_glob (v := .ref C_Destroyed) (by rfl) g_Destroyed rfl) pa_nil))) (pa_cons (pe_callB (call_isE E_BadCommand.ec hz hf) (by rfl) T.isinstance (by decide +kernel) (pa_cons (pv 1) (pa_cons (pe_glob (v := .ref C_Unknown) (by rfl) g_Unknown rfl) pa_nil))) (pa_cons (pe_callB (call_isE E_BadCommand.ec hz hf) (by rfl) T.isinstance (by decide +kernel) (pa_cons (pv 1) (pa_cons (pe_bltn (v := .ty "ValueError") (u := .type "ValueError") (by rfl) T.ValueError (by decide +kernel) rfl) pa_nil))) pa_nil))))))))))))
  (pss_one (ps_ret (pe_lst pa_nil)))), ?_⟩
      refine s_drop0 (go_call (go_cons (ev_var rfl) fun H1 e1 => go_nil ⟨4, rfl, by decide, fun H2 e2 => ⟨true, MM 4 (by decide), fun _ a na => ⟨⟨rfl, rfl⟩, ?_⟩, fun z => nomatch z⟩⟩))
      have hA := at_ex hA (e1.trans e2)
      refine wn_asg (K := K) (ds := [.bool (decide (4 = 0)), .bool (decide (4 = 1)), .bool (decide (4 = 2)), .bool (decide (4 = 3))]) hA (fun B2 b2 => (en_lst (eds_cons (ed_bool (ev_isE (c := .ref C_BadValue) (cv := .ref C_BadValue) rfl ev_c (fun u hu => hu) (KK 4 0 (by decide) (by decide)))) (eds_cons (ed_bool (ev_isE (c := .ref C_BadWords) (cv := .ref C_BadWords) rfl ev_c (fun u hu => hu) (KK 4 1 (by decide) (by decide)))) (eds_cons (ed_bool (ev_isE (c := .ref C_BadBlock) (cv := .ref C_BadBlock) rfl ev_c (fun u hu => hu) (KK 4 2 (by decide) (by decide)))) (eds_cons (ed_bool (ev_isE (c := .ref C_BadPath) (cv := .ref C_BadPath) rfl ev_c (fun u hu => hu) (KK 4 3 (by decide) (by decide)))) eds_nil)))) (by decide))) fun p xs B3 H3 b3 hp hd hA => ?_
      refine wn_asg (K := K) (ds := [.bool (decide (4 = 0)), .bool (decide (4 = 1)), .bool (decide (4 = 2)), .bool (decide (4 = 3))] ++ [.bool (decide (4 = 4)), .bool (decide (4 = 5)), .bool (decide (4 = 6))]) hA (fun B2 b2 => en_catV (ev_var rfl) (b2 _ _ hp) (dpa_mono b2 _ _ hd) (en_lst (eds_cons (ed_bool (ev_isE (c := .ref C_BadCommand) (cv := .ref C_BadCommand) rfl ev_c (fun u hu => hu) (KK 4 4 (by decide) (by decide)))) (eds_cons (ed_bool (ev_isE (c := .ref C_OutOfRange) (cv := .ref C_OutOfRange) rfl ev_c (fun u hu => hu) (KK 4 5 (by decide) (by decide)))) (eds_cons (ed_bool (ev_isE (c := .ref C_Busy) (cv := .ref C_Busy) rfl ev_c (fun u hu => hu) (KK 4 6 (by decide) (by decide)))) eds_nil))) (by decide)) (by decide)) fun p2 xs2 B4 H4 b4 hp2 hd2 hA => ?_
      refine wn_asg (K := K) (ds := [.bool (decide (4 = 0)), .bool (decide (4 = 1)), .bool (decide (4 = 2)), .bool (decide (4 = 3))] ++ [.bool (decide (4 = 4)), .bool (decide (4 = 5)), .bool (decide (4 = 6))] ++ [.bool (decide (4 = 7)), .bool (decide (4 = 8)), .bool (decide (4 = 9))]) hA (fun B2 b2 => en_catV (ev_var rfl) (b2 _ _ hp2) (dpa_mono b2 _ _ hd2) (en_lst (eds_cons (ed_bool (ev_isE (c := .ref C_TooFew) (cv := .ref C_TooFew) rfl ev_c (fun u hu => hu) (KK 4 7 (by decide) (by decide)))) (eds_cons (ed_bool (ev_isE (c := .ref C_PowerLoss) (cv := .ref C_PowerLoss) rfl ev_c (fun u hu => hu) (KK 4 8 (by decide) (by decide)))) (eds_cons (ed_bool (ev_isE (c := .ref C_MachineDown) (cv := .ref C_MachineDown) rfl ev_c (fun u hu => hu) (KK 4 9 (by decide) (by decide)))) eds_nil))) (by decide)) (by decide)) fun p3 xs3 B5 H5 b5 hp3 hd3 hA => ?_
      exact wn_ret (K := K) (ds := kindsD 4) hA (fun B2 b2 => en_catV (es := [.bool (decide (4 = 10)), .bool (decide (4 = 11)), .bool true]) (ev_var rfl) (b2 _ _ hp3) (dpa_mono b2 _ _ hd3) (en_lst (eds_cons (ed_bool (ev_isE (c := .ref C_Destroyed) (cv := .ref C_Destroyed) rfl ev_c (fun u hu => hu) (KK 4 10 (by decide) (by decide)))) (eds_cons (ed_bool (ev_isE (c := .ref C_Unknown) (cv := .ref C_Unknown) rfl ev_c (fun u hu => hu) (KK 4 11 (by decide) (by decide)))) (eds_cons (ed_bool (ev_isE (c := .ty "ValueError") (cv := .type "ValueError") rfl ev_c (fun u hu => hu) E_BadCommand.k2)) eds_nil))) (by decide)) (by decide)) fun p4 xs4 B6 H6 b6 hp4 hd4 hA => q p4 xs4 B6 H6 (b3.trans (b4.trans (b5.trans b6))) hp4 hd4 hA
    · refine ⟨_, (pss_cons (ps_try_own (C := C_OutOfRange) (i := 1) rfl rfl sc__law_kinds.nd rfl rfl ⟨rfl, by decide, .inl g_HallError⟩ takes0 (fun W pn xe tk => (pss_one (ps_expr (pe_callS G__law_raise (hr.mono (by decide)) (by rfl) D__law_raise.g D__law_raise.F.kp D__law_raise.b (fun σ => passAt tk σ) (pa_cons (pv 0) pa_nil))))) (fun a oe pn hz hf => (pss_cons (ps_set (i := 2) sc__law_kinds.nd rfl (.inl rfl) (pe_lst (pa_cons (pe_callB (call_isE E_OutOfRange.ec hz hf) (by rfl) T.isinstance (by decide +kernel) (pa_cons (pv 1) (pa_cons (pe_glob (v := .ref C_BadValue) (by rfl) g_BadValue rfl) pa_nil))) (pa_cons (pe_callB (call_isE E_OutOfRange.ec hz hf) (by rfl) T.isinstance (by decide +kernel) (pa_cons (pv 1) (pa_cons (pe_glob (v := .ref C_BadWords) (by rfl) g_BadWords rfl) pa_nil))) (pa_cons (pe_callB (call_isE E_OutOfRange.ec hz hf) (by rfl) T.isinstance (by decide +kernel) (pa_cons (pv 1) (pa_cons (pe_glob (v := .ref C_BadBlock) (by rfl) g_BadBlock rfl) pa_nil))) (pa_cons (pe_callB (call_isE E_OutOfRange.ec hz hf) (by rfl) T.isinstance (by decide +kernel) (pa_cons (pv 1) (pa_cons (pe_glob (v := .ref C_BadPath) (by rfl) g_BadPath rfl) pa_nil))) pa_nil))))))
  (pss_cons (ps_set (i := 2) sc__law_kinds.nd rfl (.inl rfl) (pe_op op_cat (pv 2) (pe_lst (pa_cons (pe_callB (call_isE E_OutOfRange.ec hz hf) (by rfl) T.isinstance (by decide +kernel) (pa_cons (pv 1) (pa_cons (pe_glob (v := .ref C_BadCommand) (by rfl) g_BadCommand rfl) pa_nil))) (pa_cons (pe_callB (call_isE E_OutOfRange.ec hz hf) (by rfl) T.isinstance (by decide +kernel) (pa_cons (pv 1) (pa_cons (pe_glob (v := .ref C_OutOfRange) (by rfl) g_OutOfRange rfl) pa_nil))) (pa_cons (pe_callB (call_isE E_OutOfRange.ec hz hf) (by rfl) T.isinstance (by decide +kernel) (pa_cons (pv 1) (pa_cons (pe_glob (v := .ref C_Busy) (by rfl) g_Busy rfl) pa_nil))) pa_nil))))))
  (pss_cons (ps_set (i := 2) sc__law_kinds.nd rfl (.inl rfl) (pe_op op_cat (pv 2) (pe_lst (pa_cons (pe_callB (call_isE E_OutOfRange.ec hz hf) (by rfl) T.isinstance (by decide +kernel) (pa_cons (pv 1) (pa_cons (pe_glob (v := .ref C_TooFew) (by rfl) g_TooFew rfl) pa_nil))) (pa_cons (pe_callB (call_isE E_OutOfRange.ec hz hf) (by rfl) T.isinstance (by decide +kernel) (pa_cons (pv 1) (pa_cons (pe_glob (v := .ref C_PowerLoss) (by rfl) g_PowerLoss rfl) pa_nil))) (pa_cons (pe_callB (call_isE E_OutOfRange.ec hz hf) (by rfl) T.isinstance (by decide +kernel) (pa_cons (pv 1) (pa_cons (pe_glob (v := .ref C_MachineDown) (by rfl) g_MachineDown rfl) pa_nil))) pa_nil))))))
  (pss_one (ps_ret (pe_op op_cat (pv 2) (pe_lst (pa_cons (pe_callB (call_isE E_OutOfRange.ec hz hf) (by rfl) T.isinstance (by decide +kernel) (pa_cons (pv 1) (pa_cons (pe_glob (v := .ref C_Destroyed) (by rfl) g_Destroyed rfl) pa_nil))) (pa_cons (pe_callB (call_isE E_OutOfRange.ec hz hf) (by rfl) T.isinstance (by decide +kernel) (pa_cons (pv 1) (pa_cons (pe_glob (v := .ref C_Unknown) (by rfl) g_Unknown rfl) pa_nil))) (pa_cons (pe_callB (call_isE E_OutOfRange.ec hz hf) (by rfl) T.isinstance (by decide +kernel) (pa_cons (pv 1) (pa_cons (pe_bltn (v := .ty "ValueError") (u := .type "ValueError") (by rfl) T.ValueError (by decide +kernel) rfl) pa_nil))) pa_nil))))))))))))
  (pss_one (ps_ret (pe_lst pa_nil)))), ?_⟩
      refine s_drop0 (go_call (go_cons (ev_var rfl) fun H1 e1 => go_nil ⟨5, rfl, by decide, fun H2 e2 => ⟨true, MM 5 (by decide), fun _ a na => ⟨⟨rfl, rfl⟩, ?_⟩, fun z => nomatch z⟩⟩))
      have hA := at_ex hA (e1.trans e2)
      refine wn_asg (K := K) (ds := [.bool (decide (5 = 0)), .bool (decide (5 = 1)), .bool (decide (5 = 2)), .bool (decide (5 = 3))]) hA (fun B2 b2 => (en_lst (eds_cons (ed_bool (ev_isE (c := .ref C_BadValue) (cv := .ref C_BadValue) rfl ev_c (fun u hu => hu) (KK 5 0 (by decide) (by decide)))) (eds_cons (ed_bool (ev_isE (c := .ref C_BadWords) (cv := .ref C_BadWords) rfl ev_c (fun u hu => hu) (KK 5 1 (by decide) (by decide)))) (eds_cons (ed_bool (ev_isE (c := .ref C_BadBlock) (cv := .ref C_BadBlock) rfl ev_c (fun u hu => hu) (KK 5 2 (by decide) (by decide)))) (eds_cons (ed_bool (ev_isE (c := .ref C_BadPath) (cv := .ref C_BadPath) rfl ev_c (fun u hu => hu) (KK 5 3 (by decide) (by decide)))) eds_nil)))) (by decide))) fun p xs B3 H3 b3 hp hd hA => ?_
      refine wn_asg (K := K) (ds := [.bool (decide (5 = 0)), .bool (decide (5 = 1)), .bool (decide (5 = 2)), .bool (decide (5 = 3))] ++ [.bool (decide (5 = 4)), .bool (decide (5 = 5)), .bool (decide (5 = 6))]) hA (fun B2 b2 => en_catV (ev_var rfl) (b2 _ _ hp) (dpa_mono b2 _ _ hd) (en_lst (eds_cons (ed_bool (ev_isE (c := .ref C_BadCommand) (cv := .ref C_BadCommand) rfl ev_c (fun u hu => hu) (KK 5 4 (by decide) (by decide)))) (eds_cons (ed_bool (ev_isE (c := .ref C_OutOfRange) (cv := .ref C_OutOfRange) rfl ev_c (fun u hu => hu) (KK 5 5 (by decide) (by decide)))) (eds_cons (ed_bool (ev_isE (c := .ref C_Busy) (cv := .ref C_Busy) rfl ev_c (fun u hu => hu) (KK 5 6 (by decide) (by decide)))) eds_nil))) (by decide)) (by decide)) fun p2 xs2 B4 H4 b4 hp2 hd2 hA => ?_
      refine wn_asg (K := K) (ds := [.bool (decide (5 = 0)), .bool (decide (5 = 1)), .bool (decide (5 = 2)), .bool (decide (5 = 3))] ++ [.bool (decide (5 = 4)), .bool (decide (5 = 5)), .bool (decide (5 = 6))] ++ [.bool (decide (5 = 7)), .bool (decide (5 = 8)), .bool (decide (5 = 9))]) hA (fun B2 b2 => en_catV (ev_var rfl) (b2 _ _ hp2) (dpa_mono b2 _ _ hd2) (en_lst (eds_cons (ed_bool (ev_isE (c := .ref C_TooFew) (cv := .ref C_TooFew) rfl ev_c (fun u hu => hu) (KK 5 7 (by decide) (by decide)))) (eds_cons (ed_bool (ev_isE (c := .ref C_PowerLoss) (cv := .ref C_PowerLoss) rfl ev_c (fun u hu => hu) (KK 5 8 (by decide) (by decide)))) (eds_cons (ed_bool (ev_isE (c := .ref C_MachineDown) (cv := .ref C_MachineDown) rfl ev_c (fun u hu => hu) (KK 5 9 (by decide) (by decide)))) eds_nil))) (by decide)) (by decide)) fun p3 xs3 B5 H5 b5 hp3 hd3 hA => ?_
      exact wn_ret (K := K) (ds := kindsD 5) hA (fun B2 b2 => en_catV (es := [.bool (decide (5 = 10)), .bool (decide (5 = 11)), .bool true]) (ev_var rfl) (b2 _ _ hp3) (dpa_mono b2 _ _ hd3) (en_lst (eds_cons (ed_bool (ev_isE (c := .ref C_Destroyed) (cv := .ref C_Destroyed) rfl ev_c (fun u hu => hu) (KK 5 10 (by decide) (by decide)))) (eds_cons (ed_bool (ev_isE (c := .ref C_Unknown) (cv := .ref C_Unknown) rfl ev_c (fun u hu => hu) (KK 5 11 (by decide) (by decide)))) (eds_cons (ed_bool (ev_isE (c := .ty "ValueError") (cv := .type "ValueError") rfl ev_c (fun u hu => hu) E_OutOfRange.k2)) eds_nil))) (by decide)) (by decide)) fun p4 xs4 B6 H6 b6 hp4 hd4 hA => q p4 xs4 B6 H6 (b3.trans (b4.trans (b5.trans b6))) hp4 hd4 hA
    · refine ⟨_, (pss_cons (ps_try_own (C := C_Busy) (i := 1) rfl rfl sc__law_kinds.nd rfl rfl ⟨rfl, by decide, .inl g_HallError⟩ takes0 (fun W pn xe tk => (pss_one (ps_expr (pe_callS G__law_raise (hr.mono (by decide)) (by rfl) D__law_raise.g D__law_raise.F.kp D__law_raise.b (fun σ => passAt tk σ) (pa_cons (pv 0) pa_nil))))) (fun a oe pn hz hf => (pss_cons (ps_set (i := 2) sc__law_kinds.nd rfl (.inl rfl) (pe_lst (pa_cons (pe_callB (call_isE E_Busy.ec hz hf) (by rfl) T.isinstance (by decide +kernel) (pa_cons (pv 1) (pa_cons (pe_glob (v := .ref C_BadValue) (by rfl) g_BadValue rfl) pa_nil))) (pa_cons (pe_callB (call_isE E_Busy.ec hz hf) (by rfl) T.isinstance (by decide +kernel) (pa_cons (pv 1) (pa_cons (pe_glob (v := .ref C_BadWords) (by rfl) g_BadWords rfl) pa_nil))) (pa_cons (pe_callB (call_isE E_Busy.ec hz hf) (by rfl) T.isinstance (by decide +kernel) (pa_cons (pv 1) (pa_cons (pe_glob (v := .ref C_BadBlock) (by rfl) g_BadBlock rfl) pa_nil))) (pa_cons (pe_callB (call_isE E_Busy.ec hz hf) (by rfl) T.isinstance (by decide +kernel) (pa_cons (pv 1) (pa_cons (pe_glob (v := .ref C_BadPath) (by rfl) g_BadPath rfl) pa_nil))) pa_nil))))))
  (pss_cons (ps_set (i := 2) sc__law_kinds.nd rfl (.inl rfl) (pe_op op_cat (pv 2) (pe_lst (pa_cons (pe_callB (call_isE E_Busy.ec hz hf) (by rfl) T.isinstance (by decide +kernel) (pa_cons (pv 1) (pa_cons (pe_glob (v := .ref C_BadCommand) (by rfl) g_BadCommand rfl) pa_nil))) (pa_cons (pe_callB (call_isE E_Busy.ec hz hf) (by rfl) T.isinstance (by decide +kernel) (pa_cons (pv 1) (pa_cons (pe_glob (v := .ref C_OutOfRange) (by rfl) g_OutOfRange rfl) pa_nil))) (pa_cons (pe_callB (call_isE E_Busy.ec hz hf) (by rfl) T.isinstance (by decide +kernel) (pa_cons (pv 1) (pa_cons (pe_glob (v := .ref C_Busy) (by rfl) g_Busy rfl) pa_nil))) pa_nil))))))
  (pss_cons (ps_set (i := 2) sc__law_kinds.nd rfl (.inl rfl) (pe_op op_cat (pv 2) (pe_lst (pa_cons (pe_callB (call_isE E_Busy.ec hz hf) (by rfl) T.isinstance (by decide +kernel) (pa_cons (pv 1) (pa_cons (pe_glob (v := .ref C_TooFew) (by rfl) g_TooFew rfl) pa_nil))) (pa_cons (pe_callB (call_isE E_Busy.ec hz hf) (by rfl) T.isinstance (by decide +kernel) (pa_cons (pv 1) (pa_cons (pe_glob (v := .ref C_PowerLoss) (by rfl) g_PowerLoss rfl) pa_nil))) (pa_cons (pe_callB (call_isE E_Busy.ec hz hf) (by rfl) T.isinstance (by decide +kernel) (pa_cons (pv 1) (pa_cons (pe_glob (v := .ref C_MachineDown) (by rfl) g_MachineDown rfl) pa_nil))) pa_nil))))))
  (pss_one (ps_ret (pe_op op_cat (pv 2) (pe_lst (pa_cons (pe_callB (call_isE E_Busy.ec hz hf) (by rfl) T.isinstance (by decide +kernel) (pa_cons (pv 1) (pa_cons (pe_glob (v := .ref C_Destroyed) (by rfl) g_Destroyed rfl) pa_nil))) (pa_cons (pe_callB (call_isE E_Busy.ec hz hf) (by rfl) T.isinstance (by decide +kernel) (pa_cons (pv 1) (pa_cons (pe_glob (v := .ref C_Unknown) (by rfl) g_Unknown rfl) pa_nil))) (pa_cons (pe_callB (call_isE E_Busy.ec hz hf) (by rfl) T.isinstance (by decide +kernel) (pa_cons (pv 1) (pa_cons (pe_bltn (v := .ty "ValueError") (u := .type "ValueError") (by rfl) T.ValueError (by decide +kernel) rfl) pa_nil))) pa_nil))))))))))))
  (pss_one (ps_ret (pe_lst pa_nil)))), ?_⟩
      refine s_drop0 (go_call (go_cons (ev_var rfl) fun H1 e1 => go_nil ⟨6, rfl, by decide, fun H2 e2 => ⟨true, MM 6 (by decide), fun _ a na => ⟨⟨rfl, rfl⟩, ?_⟩, fun z => nomatch z⟩⟩))
      have hA := at_ex hA (e1.trans e2)
      refine wn_asg (K := K) (ds := [.bool (decide (6 = 0)), .bool (decide (6 = 1)), .bool (decide (6 = 2)), .bool (decide (6 = 3))]) hA (fun B2 b2 => (en_lst (eds_cons (ed_bool (ev_isE (c := .ref C_BadValue) (cv := .ref C_BadValue) rfl ev_c (fun u hu => hu) (KK 6 0 (by decide) (by decide)))) (eds_cons (ed_bool (ev_isE (c := .ref C_BadWords) (cv := .ref C_BadWords) rfl ev_c (fun u hu => hu) (KK 6 1 (by decide) (by decide)))) (eds_cons (ed_bool (ev_isE (c := .ref C_BadBlock) (cv := .ref C_BadBlock) rfl ev_c (fun u hu => hu) (KK 6 2 (by decide) (by decide)))) (eds_cons (ed_bool (ev_isE (c := .ref C_BadPath) (cv := .ref C_BadPath) rfl ev_c (fun u hu => hu) (KK 6 3 (by decide) (by decide)))) eds_nil)))) (by decide))) fun p xs B3 H3 b3 hp hd hA => ?_
      refine wn_asg (K := K) (ds := [.bool (decide (6 = 0)), .bool (decide (6 = 1)), .bool (decide (6 = 2)), .bool (decide (6 = 3))] ++ [.bool (decide (6 = 4)), .bool (decide (6 = 5)), .bool (decide (6 = 6))]) hA (fun B2 b2 => en_catV (ev_var rfl) (b2 _ _ hp) (dpa_mono b2 _ _ hd) (en_lst (eds_cons (ed_bool (ev_isE (c := .ref C_BadCommand) (cv := .ref C_BadCommand) rfl ev_c (fun u hu => hu) (KK 6 4 (by decide) (by decide)))) (eds_cons (ed_bool (ev_isE (c := .ref C_OutOfRange) (cv := .ref C_OutOfRange) rfl ev_c (fun u hu => hu) (KK 6 5 (by decide) (by decide)))) (eds_cons (ed_bool (ev_isE (c := .ref C_Busy) (cv := .ref C_Busy) rfl ev_c (fun u hu => hu) (KK 6 6 (by decide) (by decide)))) eds_nil))) (by decide)) (by decide)) fun p2 xs2 B4 H4 b4 hp2 hd2 hA => ?_
      refine wn_asg (K := K) (ds := [.bool (decide (6 = 0)), .bool (decide (6 = 1)), .bool (decide (6 = 2)), .bool (decide (6 = 3))] ++ [.bool (decide (6 = 4)), .bool (decide (6 = 5)), .bool (decide (6 = 6))] ++ [.bool (decide (6 = 7)), .bool (decide (6 = 8)), .bool (decide (6 = 9))]) hA (fun B2 b2 => en_catV (ev_var rfl) (b2 _ _ hp2) (dpa_mono b2 _ _ hd2) (en_lst (eds_cons (ed_bool (ev_isE (c := .ref C_TooFew) (cv := .ref C_TooFew) rfl ev_c (fun u hu => hu) (KK 6 7 (by decide) (by decide)))) (eds_cons (ed_bool (ev_isE (c := .ref C_PowerLoss) (cv := .ref C_PowerLoss) rfl ev_c (fun u hu => hu) (KK 6 8 (by decide) (by decide)))) (eds_cons (ed_bool (ev_isE (c := .ref C_MachineDown) (cv := .ref C_MachineDown) rfl ev_c (fun u hu => hu) (KK 6 9 (by decide) (by decide)))) eds_nil))) (by decide)) (by decide)) fun p3 xs3 B5 H5 b5 hp3 hd3 hA => ?_
      exact wn_ret (K := K) (ds := kindsD 6) hA (fun B2 b2 => en_catV (es := [.bool (decide (6 = 10)), .bool (decide (6 = 11)), .bool true]) (ev_var rfl) (b2 _ _ hp3) (dpa_mono b2 _ _ hd3) (en_lst (eds_cons (ed_bool (ev_isE (c := .ref C_Destroyed) (cv := .ref C_Destroyed) rfl ev_c (fun u hu => hu) (KK 6 10 (by decide) (by decide)))) (eds_cons (ed_bool (ev_isE (c := .ref C_Unknown) (cv := .ref C_Unknown) rfl ev_c (fun u hu => hu) (KK 6 11 (by decide) (by decide)))) (eds_cons (ed_bool (ev_isE (c := .ty "ValueError") (cv := .type "ValueError") rfl ev_c (fun u hu => hu) E_Busy.k2)) eds_nil))) (by decide)) (by decide)) fun p4 xs4 B6 H6 b6 hp4 hd4 hA => q p4 xs4 B6 H6 (b3.trans (b4.trans (b5.trans b6))) hp4 hd4 hA
    · refine ⟨_, (pss_cons (ps_try_own (C := C_TooFew) (i := 1) rfl rfl sc__law_kinds.nd rfl rfl ⟨rfl, by decide, .inl g_HallError⟩ takes0 (fun W pn xe tk => (pss_one (ps_expr (pe_callS G__law_raise (hr.mono (by decide)) (by rfl) D__law_raise.g D__law_raise.F.kp D__law_raise.b (fun σ => passAt tk σ) (pa_cons (pv 0) pa_nil))))) (fun a oe pn hz hf => (pss_cons (ps_set (i := 2) sc__law_kinds.nd rfl (.inl rfl) (pe_lst (pa_cons (pe_callB (call_isE E_TooFew.ec hz hf) (by rfl) T.isinstance (by decide +kernel) (pa_cons (pv 1) (pa_cons (pe_glob (v := .ref C_BadValue) (by rfl) g_BadValue rfl) pa_nil))) (pa_cons (pe_callB (call_isE E_TooFew.ec hz hf) (by rfl) T.isinstance (by decide +kernel) (pa_cons (pv 1) (pa_cons (pe_glob (v := .ref C_BadWords) (by rfl) g_BadWords rfl) pa_nil))) (pa_cons (pe_callB (call_isE E_TooFew.ec hz hf) (by rfl) T.isinstance (by decide +kernel) (pa_cons (pv 1) (pa_cons (pe_glob (v := .ref C_BadBlock) (by rfl) g_BadBlock rfl) pa_nil))) (pa_cons (pe_callB (call_isE E_TooFew.ec hz hf) (by rfl) T.isinstance (by decide +kernel) (pa_cons (pv 1) (pa_cons (pe_glob (v := .ref C_BadPath) (by rfl) g_BadPath rfl) pa_nil))) pa_nil))))))
  (pss_cons (ps_set (i := 2) sc__law_kinds.nd rfl (.inl rfl) (pe_op op_cat (pv 2) (pe_lst (pa_cons (pe_callB (call_isE E_TooFew.ec hz hf) (by rfl) T.isinstance (by decide +kernel) (pa_cons (pv 1) (pa_cons (pe_glob (v := .ref C_BadCommand) (by rfl) g_BadCommand rfl) pa_nil))) (pa_cons (pe_callB (call_isE E_TooFew.ec hz hf) (by rfl) T.isinstance (by decide +kernel) (pa_cons (pv 1) (pa_cons (pe_glob (v := .ref C_OutOfRange) (by rfl) g_OutOfRange rfl) pa_nil))) (pa_cons (pe_callB (call_isE E_TooFew.ec hz hf) (by rfl) T.isinstance (by decide +kernel) (pa_cons (pv 1) (pa_cons (pe_glob (v := .ref C_Busy) (by rfl) g_Busy rfl) pa_nil))) pa_nil))))))
  (pss_cons (ps_set (i := 2) sc__law_kinds.nd rfl (.inl rfl) (pe_op op_cat (pv 2) (pe_lst (pa_cons (pe_callB (call_isE E_TooFew.ec hz hf) (by rfl) T.isinstance (by decide +kernel) (pa_cons (pv 1) (pa_cons (pe_glob (v := .ref C_TooFew) (by rfl) g_TooFew rfl) pa_nil))) (pa_cons (pe_callB (call_isE E_TooFew.ec hz hf) (by rfl) T.isinstance (by decide +kernel) (pa_cons (pv 1) (pa_cons (pe_glob (v := .ref C_PowerLoss) (by rfl) g_PowerLoss rfl) pa_nil))) (pa_cons (pe_callB (call_isE E_TooFew.ec hz hf) (by rfl) T.isinstance (by decide +kernel) (pa_cons (pv 1) (pa_cons (pe_glob (v := .ref C_MachineDown) (by rfl) g_MachineDown rfl) pa_nil))) pa_nil))))))
  (pss_one (ps_ret (pe_op op_cat (pv 2) (pe_lst (pa_cons (pe_callB (call_isE E_TooFew.ec hz hf) (by rfl) T.isinstance (by decide +kernel) (pa_cons (pv 1) (pa_cons (pe_glob (v := .ref C_Destroyed) (by rfl) g_Destroyed rfl) pa_nil))) (pa_cons (pe_callB (call_isE E_TooFew.ec hz hf) (by rfl) T.isinstance (by decide +kernel) (pa_cons (pv 1) (pa_cons (pe_glob (v := .ref C_Unknown) (by rfl) g_Unknown rfl) pa_nil))) (pa_cons (pe_callB (call_isE E_TooFew.ec hz hf) (by rfl) T.isinstance (by decide +kernel) (pa_cons (pv 1) (pa_cons (pe_bltn (v := .ty "ValueError") (u := .type "ValueError") (by rfl) T.ValueError (by decide +kernel) rfl) pa_nil))) pa_nil))))))))))))
  (pss_one (ps_ret (pe_lst pa_nil)))), ?_⟩
      refine s_drop0 (go_call (go_cons (ev_var rfl) fun H1 e1 => go_nil ⟨7, rfl, by decide, fun H2 e2 => ⟨true, MM 7 (by decide), fun _ a na => ⟨⟨rfl, rfl⟩, ?_⟩, fun z => nomatch z⟩⟩))
      have hA := at_ex hA (e1.trans e2)
      refine wn_asg (K := K) (ds := [.bool (decide (7 = 0)), .bool (decide (7 = 1)), .bool (decide (7 = 2)), .bool (decide (7 = 3))]) hA (fun B2 b2 => (en_lst (eds_cons (ed_bool (ev_isE (c := .ref C_BadValue) (cv := .ref C_BadValue) rfl ev_c (fun u hu => hu) (KK 7 0 (by decide) (by decide)))) (eds_cons (ed_bool (ev_isE (c := .ref C_BadWords) (cv := .ref C_BadWords) rfl ev_c (fun u hu => hu) (KK 7 1 (by decide) (by decide)))) (eds_cons (ed_bool (ev_isE (c := .ref C_BadBlock) (cv := .ref C_BadBlock) rfl ev_c (fun u hu => hu) (KK 7 2 (by decide) (by decide)))) (eds_cons (ed_bool (ev_isE (c := .ref C_BadPath) (cv := .ref C_BadPath) rfl ev_c (fun u hu => hu) (KK 7 3 (by decide) (by decide)))) eds_nil)))) (by decide))) fun p xs B3 H3 b3 hp hd hA => ?_
      refine wn_asg (K := K) (ds := [.bool (decide (7 = 0)), .bool (decide (7 = 1)), .bool (decide (7 = 2)), .bool (decide (7 = 3))] ++ [.bool (decide (7 = 4)), .bool (decide (7 = 5)), .bool (decide (7 = 6))]) hA (fun B2 b2 => en_catV (ev_var rfl) (b2 _ _ hp) (dpa_mono b2 _ _ hd) (en_lst (eds_cons (ed_bool (ev_isE (c := .ref C_BadCommand) (cv := .ref C_BadCommand) rfl ev_c (fun u hu => hu) (KK 7 4 (by decide) (by decide)))) (eds_cons (ed_bool (ev_isE (c := .ref C_OutOfRange) (cv := .ref C_OutOfRange) rfl ev_c (fun u hu => hu) (KK 7 5 (by decide) (by decide)))) (eds_cons (ed_bool (ev_isE (c := .ref C_Busy) (cv := .ref C_Busy) rfl ev_c (fun u hu => hu) (KK 7 6 (by decide) (by decide)))) eds_nil))) (by decide)) (by decide)) fun p2 xs2 B4 H4 b4 hp2 hd2 hA => ?_
      refine wn_asg (K := K) (ds := [.bool (decide (7 = 0)), .bool (decide (7 = 1)), .bool (decide (7 = 2)), .bool (decide (7 = 3))] ++ [.bool (decide (7 = 4)), .bool (decide (7 = 5)), .bool (decide (7 = 6))] ++ [.bool (decide (7 = 7)), .bool (decide (7 = 8)), .bool (decide (7 = 9))]) hA (fun B2 b2 => en_catV (ev_var rfl) (b2 _ _ hp2) (dpa_mono b2 _ _ hd2) (en_lst (eds_cons (ed_bool (ev_isE (c := .ref C_TooFew) (cv := .ref C_TooFew) rfl ev_c (fun u hu => hu) (KK 7 7 (by decide) (by decide)))) (eds_cons (ed_bool (ev_isE (c := .ref C_PowerLoss) (cv := .ref C_PowerLoss) rfl ev_c (fun u hu => hu) (KK 7 8 (by decide) (by decide)))) (eds_cons (ed_bool (ev_isE (c := .ref C_MachineDown) (cv := .ref C_MachineDown) rfl ev_c (fun u hu => hu) (KK 7 9 (by decide) (by decide)))) eds_nil))) (by decide)) (by decide)) fun p3 xs3 B5 H5 b5 hp3 hd3 hA => ?_
      exact wn_ret (K := K) (ds := kindsD 7) hA (fun B2 b2 => en_catV (es := [.bool (decide (7 = 10)), .bool (decide (7 = 11)), .bool true]) (ev_var rfl) (b2 _ _ hp3) (dpa_mono b2 _ _ hd3) (en_lst (eds_cons (ed_bool (ev_isE (c := .ref C_Destroyed) (cv := .ref C_Destroyed) rfl ev_c (fun u hu => hu) (KK 7 10 (by decide) (by decide)))) (eds_cons (ed_bool (ev_isE (c := .ref C_Unknown) (cv := .ref C_Unknown) rfl ev_c (fun u hu => hu) (KK 7 11 (by decide) (by decide)))) (eds_cons (ed_bool (ev_isE (c := .ty "ValueError") (cv := .type "ValueError") rfl ev_c (fun u hu => hu) E_TooFew.k2)) eds_nil))) (by decide)) (by decide)) fun p4 xs4 B6 H6 b6 hp4 hd4 hA => q p4 xs4 B6 H6 (b3.trans (b4.trans (b5.trans b6))) hp4 hd4 hA
    · refine ⟨_, (pss_cons (ps_try_own (C := C_PowerLoss) (i := 1) rfl rfl sc__law_kinds.nd rfl rfl ⟨rfl, by decide, .inl g_HallError⟩ takes0 (fun W pn xe tk => (pss_one (ps_expr (pe_callS G__law_raise (hr.mono (by decide)) (by rfl) D__law_raise.g D__law_raise.F.kp D__law_raise.b (fun σ => passAt tk σ) (pa_cons (pv 0) pa_nil))))) (fun a oe pn hz hf => (pss_cons (ps_set (i := 2) sc__law_kinds.nd rfl (.inl rfl) (pe_lst (pa_cons (pe_callB (call_isE E_PowerLoss.ec hz hf) (by rfl) T.isinstance (by decide +kernel) (pa_cons (pv 1) (pa_cons (pe_glob (v := .ref C_BadValue) (by rfl) g_BadValue rfl) pa_nil))) (pa_cons (pe_callB (call_isE E_PowerLoss.ec hz hf) (by rfl) T.isinstance (by decide +kernel) (pa_cons (pv 1) (pa_cons (pe_glob (v := .ref C_BadWords) (by rfl) g_BadWords rfl) pa_nil))) (pa_cons (pe_callB (call_isE E_PowerLoss.ec hz hf) (by rfl) T.isinstance (by decide +kernel) (pa_cons (pv 1) (pa_cons (pe_glob (v := .ref C_BadBlock) (by rfl) g_BadBlock rfl) pa_nil))) (pa_cons (pe_callB (call_isE E_PowerLoss.ec hz hf) (by rfl) T.isinstance (by decide +kernel) (pa_cons (pv 1) (pa_cons (pe_glob (v := .ref C_BadPath) (by rfl) g_BadPath rfl) pa_nil))) pa_nil))))))
  (pss_cons (ps_set (i := 2) sc__law_kinds.nd rfl (.inl rfl) (pe_op op_cat (pv 2) (pe_lst (pa_cons (pe_callB (call_isE E_PowerLoss.ec hz hf) (by rfl) T.isinstance (by decide +kernel) (pa_cons (pv 1) (pa_cons (pe_glob (v := .ref C_BadCommand) (by rfl) g_BadCommand rfl) pa_nil))) (pa_cons (pe_callB (call_isE E_PowerLoss.ec hz hf) (by rfl) T.isinstance (by decide +kernel) (pa_cons (pv 1) (pa_cons (pe_glob (v := .ref C_OutOfRange) (by rfl) g_OutOfRange rfl) pa_nil))) (pa_cons (pe_callB (call_isE E_PowerLoss.ec hz hf) (by rfl) T.isinstance (by decide +kernel) (pa_cons (pv 1) (pa_cons (pe_glob (v := .ref C_Busy) (by rfl) g_Busy rfl) pa_nil))) pa_nil))))))
  (pss_cons (ps_set (i := 2) sc__law_kinds.nd rfl (.inl rfl) (pe_op op_cat (pv 2) (pe_lst (pa_cons (pe_callB (call_isE E_PowerLoss.ec hz hf) (by rfl) T.isinstance (by decide +kernel) (pa_cons (pv 1) (pa_cons (pe_glob (v := .ref C_TooFew) (by rfl) g_TooFew rfl) pa_nil))) (pa_cons (pe_callB (call_isE E_PowerLoss.ec hz hf) (by rfl) T.isinstance (by decide +kernel) (pa_cons (pv 1) (pa_cons (pe_glob (v := .ref C_PowerLoss) (by rfl) g_PowerLoss rfl) pa_nil))) (pa_cons (pe_callB (call_isE E_PowerLoss.ec hz hf) (by rfl) T.isinstance (by decide +kernel) (pa_cons (pv 1) (pa_cons (pe_glob (v := .ref C_MachineDown) (by rfl) g_MachineDown rfl) pa_nil))) pa_nil))))))
  (pss_one (ps_ret (pe_op op_cat (pv 2) (pe_lst (pa_cons (pe_callB (call_isE E_PowerLoss.ec hz hf) (by rfl) T.isinstance (by decide +kernel) (pa_cons (pv 1) (pa_cons (pe_glob (v := .ref C_Destroyed) (by rfl) g_Destroyed rfl) pa_nil))) (pa_cons (pe_callB (call_isE E_PowerLoss.ec hz hf) (by rfl) T.isinstance (by decide +kernel) (pa_cons (pv 1) (pa_cons (pe_glob (v := .ref C_Unknown) (by rfl) g_Unknown rfl) pa_nil))) (pa_cons (pe_callB (call_isE E_PowerLoss.ec hz hf) (by rfl) T.isinstance (by decide +kernel) (pa_cons (pv 1) (pa_cons (pe_bltn (v := .ty "ValueError") (u := .type "ValueError") (by rfl) T.ValueError (by decide +kernel) rfl) pa_nil))) pa_nil))))))))))))
  (pss_one (ps_ret (pe_lst pa_nil)))), ?_⟩
      refine s_drop0 (go_call (go_cons (ev_var rfl) fun H1 e1 => go_nil ⟨8, rfl, by decide, fun H2 e2 => ⟨true, MM 8 (by decide), fun _ a na => ⟨⟨rfl, rfl⟩, ?_⟩, fun z => nomatch z⟩⟩))
      have hA := at_ex hA (e1.trans e2)
      refine wn_asg (K := K) (ds := [.bool (decide (8 = 0)), .bool (decide (8 = 1)), .bool (decide (8 = 2)), .bool (decide (8 = 3))]) hA (fun B2 b2 => (en_lst (eds_cons (ed_bool (ev_isE (c := .ref C_BadValue) (cv := .ref C_BadValue) rfl ev_c (fun u hu => hu) (KK 8 0 (by decide) (by decide)))) (eds_cons (ed_bool (ev_isE (c := .ref C_BadWords) (cv := .ref C_BadWords) rfl ev_c (fun u hu => hu) (KK 8 1 (by decide) (by decide)))) (eds_cons (ed_bool (ev_isE (c := .ref C_BadBlock) (cv := .ref C_BadBlock) rfl ev_c (fun u hu => hu) (KK 8 2 (by decide) (by decide)))) (eds_cons (ed_bool (ev_isE (c := .ref C_BadPath) (cv := .ref C_BadPath) rfl ev_c (fun u hu => hu) (KK 8 3 (by decide) (by decide)))) eds_nil)))) (by decide))) fun p xs B3 H3 b3 hp hd hA => ?_
      refine wn_asg (K := K) (ds := [.bool (decide (8 = 0)), .bool (decide (8 = 1)), .bool (decide (8 = 2)), .bool (decide (8 = 3))] ++ [.bool (decide (8 = 4)), .bool (decide (8 = 5)), .bool (decide (8 = 6))]) hA (fun B2 b2 => en_catV (ev_var rfl) (b2 _ _ hp) (dpa_mono b2 _ _ hd) (en_lst (eds_cons (ed_bool (ev_isE (c := .ref C_BadCommand) (cv := .ref C_BadCommand) rfl ev_c (fun u hu => hu) (KK 8 4 (by decide) (by decide)))) (eds_cons (ed_bool (ev_isE (c := .ref C_OutOfRange) (cv := .ref C_OutOfRange) rfl ev_c (fun u hu => hu) (KK 8 5 (by decide) (by decide)))) (eds_cons (ed_bool (ev_isE (c := .ref C_Busy) (cv := .ref C_Busy) rfl ev_c (fun u hu => hu) (KK 8 6 (by decide) (by decide)))) eds_nil))) (by decide)) (by decide)) fun p2 xs2 B4 H4 b4 hp2 hd2 hA => ?_
      refine wn_asg (K := K) (ds := [.bool (decide (8 = 0)), .bool (decide (8 = 1)), .bool (decide (8 = 2)), .bool (decide (8 = 3))] ++ [.bool (decide (8 = 4)), .bool (decide (8 = 5)), .bool (decide (8 = 6))] ++ [.bool (decide (8 = 7)), .bool (decide (8 = 8)), .bool (decide (8 = 9))]) hA (fun B2 b2 => en_catV (ev_var rfl) (b2 _ _ hp2) (dpa_mono b2 _ _ hd2) (en_lst (eds_cons (ed_bool (ev_isE (c := .ref C_TooFew) (cv := .ref C_TooFew) rfl ev_c (fun u hu => hu) (KK 8 7 (by decide) (by decide)))) (eds_cons (ed_bool (ev_isE (c := .ref C_PowerLoss) (cv := .ref C_PowerLoss) rfl ev_c (fun u hu => hu) (KK 8 8 (by decide) (by decide)))) (eds_cons (ed_bool (ev_isE (c := .ref C_MachineDown) (cv := .ref C_MachineDown) rfl ev_c (fun u hu => hu) (KK 8 9 (by decide) (by decide)))) eds_nil))) (by decide)) (by decide)) fun p3 xs3 B5 H5 b5 hp3 hd3 hA => ?_
      exact wn_ret (K := K) (ds := kindsD 8) hA (fun B2 b2 => en_catV (es := [.bool (decide (8 = 10)), .bool (decide (8 = 11)), .bool true]) (ev_var rfl) (b2 _ _ hp3) (dpa_mono b2 _ _ hd3) (en_lst (eds_cons (ed_bool (ev_isE (c := .ref C_Destroyed) (cv := .ref C_Destroyed) rfl ev_c (fun u hu => hu) (KK 8 10 (by decide) (by decide)))) (eds_cons (ed_bool (ev_isE (c := .ref C_Unknown) (cv := .ref C_Unknown) rfl ev_c (fun u hu => hu) (KK 8 11 (by decide) (by decide)))) (eds_cons (ed_bool (ev_isE (c := .ty "ValueError") (cv := .type "ValueError") rfl ev_c (fun u hu => hu) E_PowerLoss.k2)) eds_nil))) (by decide)) (by decide)) fun p4 xs4 B6 H6 b6 hp4 hd4 hA => q p4 xs4 B6 H6 (b3.trans (b4.trans (b5.trans b6))) hp4 hd4 hA
    · refine ⟨_, (pss_cons (ps_try_own (C := C_MachineDown) (i := 1) rfl rfl sc__law_kinds.nd rfl rfl ⟨rfl, by decide, .inl g_HallError⟩ takes0 (fun W pn xe tk => (pss_one (ps_expr (pe_callS G__law_raise (hr.mono (by decide)) (by rfl) D__law_raise.g D__law_raise.F.kp D__law_raise.b (fun σ => passAt tk σ) (pa_cons (pv 0) pa_nil))))) (fun a oe pn hz hf => (pss_cons (ps_set (i := 2) sc__law_kinds.nd rfl (.inl rfl) (pe_lst (pa_cons (pe_callB (call_isE E_MachineDown.ec hz hf) (by rfl) T.isinstance (by decide +kernel) (pa_cons (pv 1) (pa_cons (pe_glob (v := .ref C_BadValue) (by rfl) g_BadValue rfl) pa_nil))) (pa_cons (pe_callB (call_isE E_MachineDown.ec hz hf) (by rfl) T.isinstance (by decide +kernel) (pa_cons (pv 1) (pa_cons (pe_glob (v := .ref C_BadWords) (by rfl) g_BadWords rfl) pa_nil))) (pa_cons (pe_callB (call_isE E_MachineDown.ec hz hf) (by rfl) T.isinstance (by decide +kernel) (pa_cons (pv 1) (pa_cons (pe_glob (v := .ref C_BadBlock) (by rfl) g_BadBlock rfl) pa_nil))) (pa_cons (pe_callB (call_isE E_MachineDown.ec hz hf) (by rfl) T.isinstance (by decide +kernel) (pa_cons (pv 1) (pa_cons (pe_glob (v := .ref C_BadPath) (by rfl) g_BadPath rfl) pa_nil))) pa_nil))))))
  (pss_cons (ps_set (i := 2) sc__law_kinds.nd rfl (.inl rfl) (pe_op op_cat (pv 2) (pe_lst (pa_cons (pe_callB (call_isE E_MachineDown.ec hz hf) (by rfl) T.isinstance (by decide +kernel) (pa_cons (pv 1) (pa_cons (pe_glob (v := .ref C_BadCommand) (by rfl) g_BadCommand rfl) pa_nil))) (pa_cons (pe_callB (call_isE E_MachineDown.ec hz hf) (by rfl) T.isinstance (by decide +kernel) (pa_cons (pv 1) (pa_cons (pe_glob (v := .ref C_OutOfRange) (by rfl) g_OutOfRange rfl) pa_nil))) (pa_cons (pe_callB (call_isE E_MachineDown.ec hz hf) (by rfl) T.isinstance (by decide +kernel) (pa_cons (pv 1) (pa_cons (pe_glob (v := .ref C_Busy) (by rfl) g_Busy rfl) pa_nil))) pa_nil))))))
  (pss_cons (ps_set (i := 2) sc__law_kinds.nd rfl (.inl rfl) (pe_op op_cat (pv 2) (pe_lst (pa_cons (pe_callB (call_isE E_MachineDown.ec hz hf) (by rfl) T.isinstance (by decide +kernel) (pa_cons (pv 1) (pa_cons (pe_glob (v := .ref C_TooFew) (by rfl) g_TooFew rfl) pa_nil))) (pa_cons (pe_callB (call_isE E_MachineDown.ec hz hf) (by rfl) T.isinstance (by decide +kernel) (pa_cons (pv 1) (pa_cons (pe_glob (v := .ref C_PowerLoss) (by rfl) g_PowerLoss rfl) pa_nil))) (pa_cons (pe_callB (call_isE E_MachineDown.ec hz hf) (by rfl) T.isinstance (by decide +kernel) (pa_cons (pv 1) (pa_cons (pe_glob (v := .ref C_MachineDown) (by rfl) g_MachineDown rfl) pa_nil))) pa_nil))))))
  (pss_one (ps_ret (pe_op op_cat (pv 2) (pe_lst (pa_cons (pe_callB (call_isE E_MachineDown.ec hz hf) (by rfl) T.isinstance (by decide +kernel) (pa_cons (pv 1) (pa_cons (pe_glob (v := .ref C_Destroyed) (by rfl) g_Destroyed rfl) pa_nil))) (pa_cons (pe_callB (call_isE E_MachineDown.ec hz hf) (by rfl) T.isinstance (by decide +kernel) (pa_cons (pv 1) (pa_cons (pe_glob (v := .ref C_Unknown) (by rfl) g_Unknown rfl) pa_nil))) (pa_cons (pe_callB (call_isE E_MachineDown.ec hz hf) (by rfl) T.isinstance (by decide +kernel) (pa_cons (pv 1) (pa_cons (pe_bltn (v := .ty "ValueError") (u := .type "ValueError") (by rfl) T.ValueError (by decide +kernel) rfl) pa_nil))) pa_nil))))))))))))
  (pss_one (ps_ret (pe_lst pa_nil)))), ?_⟩
      refine s_drop0 (go_call (go_cons (ev_var rfl) fun H1 e1 => go_nil ⟨9, rfl, by decide, fun H2 e2 => ⟨true, MM 9 (by decide), fun _ a na => ⟨⟨rfl, rfl⟩, ?_⟩, fun z => nomatch z⟩⟩))
      have hA := at_ex hA (e1.trans e2)
      refine wn_asg (K := K) (ds := [.bool (decide (9 = 0)), .bool (decide (9 = 1)), .bool (decide (9 = 2)), .bool (decide (9 = 3))]) hA (fun B2 b2 => (en_lst (eds_cons (ed_bool (ev_isE (c := .ref C_BadValue) (cv := .ref C_BadValue) rfl ev_c (fun u hu => hu) (KK 9 0 (by decide) (by decide)))) (eds_cons (ed_bool (ev_isE (c := .ref C_BadWords) (cv := .ref C_BadWords) rfl ev_c (fun u hu => hu) (KK 9 1 (by decide) (by decide)))) (eds_cons (ed_bool (ev_isE (c := .ref C_BadBlock) (cv := .ref C_BadBlock) rfl ev_c (fun u hu => hu) (KK 9 2 (by decide) (by decide)))) (eds_cons (ed_bool (ev_isE (c := .ref C_BadPath) (cv := .ref C_BadPath) rfl ev_c (fun u hu => hu) (KK 9 3 (by decide) (by decide)))) eds_nil)))) (by decide))) fun p xs B3 H3 b3 hp hd hA => ?_
      refine wn_asg (K := K) (ds := [.bool (decide (9 = 0)), .bool (decide (9 = 1)), .bool (decide (9 = 2)), .bool (decide (9 = 3))] ++ [.bool (decide (9 = 4)), .bool (decide (9 = 5)), .bool (decide (9 = 6))]) hA (fun B2 b2 => en_catV (ev_var rfl) (b2 _ _ hp) (dpa_mono b2 _ _ hd) (en_lst (eds_cons (ed_bool (ev_isE (c := .ref C_BadCommand) (cv := .ref C_BadCommand) rfl ev_c (fun u hu => hu) (KK 9 4 (by decide) (by decide)))) (eds_cons (ed_bool (ev_isE (c := .ref C_OutOfRange) (cv := .ref C_OutOfRange) rfl ev_c (fun u hu => hu) (KK 9 5 (by decide) (by decide)))) (eds_cons (ed_bool (ev_isE (c := .ref C_Busy) (cv := .ref C_Busy) rfl ev_c (fun u hu => hu) (KK 9 6 (by decide) (by decide)))) eds_nil))) (by decide)) (by decide)) fun p2 xs2 B4 H4 b4 hp2 hd2 hA => ?_
      refine wn_asg (K := K) (ds := [.bool (decide (9 = 0)), .bool (decide (9 = 1)), .bool (decide (9 = 2)), .bool (decide (9 = 3))] ++ [.bool (decide (9 = 4)), .bool (decide (9 = 5)), .bool (decide (9 = 6))] ++ [.bool (decide (9 = 7)), .bool (decide (9 = 8)), .bool (decide (9 = 9))]) hA (fun B2 b2 => en_catV (ev_var rfl) (b2 _ _ hp2) (dpa_mono b2 _ _ hd2) (en_lst (eds_cons (ed_bool (ev_isE (c := .ref C_TooFew) (cv := .ref C_TooFew) rfl ev_c (fun u hu => hu) (KK 9 7 (by decide) (by decide)))) (eds_cons (ed_bool (ev_isE (c := .ref C_PowerLoss) (cv := .ref C_PowerLoss) rfl ev_c (fun u hu => hu) (KK 9 8 (by decide) (by decide)))) (eds_cons (ed_bool (ev_isE (c := .ref C_MachineDown) (cv := .ref C_MachineDown) rfl ev_c (fun u hu => hu) (KK 9 9 (by decide) (by decide)))) eds_nil))) (by decide)) (by decide)) fun p3 xs3 B5 H5 b5 hp3 hd3 hA => ?_
      exact wn_ret (K := K) (ds := kindsD 9) hA (fun B2 b2 => en_catV (es := [.bool (decide (9 = 10)), .bool (decide (9 = 11)), .bool true]) (ev_var rfl) (b2 _ _ hp3) (dpa_mono b2 _ _ hd3) (en_lst (eds_cons (ed_bool (ev_isE (c := .ref C_Destroyed) (cv := .ref C_Destroyed) rfl ev_c (fun u hu => hu) (KK 9 10 (by decide) (by decide)))) (eds_cons (ed_bool (ev_isE (c := .ref C_Unknown) (cv := .ref C_Unknown) rfl ev_c (fun u hu => hu) (KK 9 11 (by decide) (by decide)))) (eds_cons (ed_bool (ev_isE (c := .ty "ValueError") (cv := .type "ValueError") rfl ev_c (fun u hu => hu) E_MachineDown.k2)) eds_nil))) (by decide)) (by decide)) fun p4 xs4 B6 H6 b6 hp4 hd4 hA => q p4 xs4 B6 H6 (b3.trans (b4.trans (b5.trans b6))) hp4 hd4 hA
    · refine ⟨_, (pss_cons (ps_try_own (C := C_Destroyed) (i := 1) rfl rfl sc__law_kinds.nd rfl rfl ⟨rfl, by decide, .inl g_HallError⟩ takes0 (fun W pn xe tk => (pss_one (ps_expr (pe_callS G__law_raise (hr.mono (by decide)) (by rfl) D__law_raise.g D__law_raise.F.kp D__law_raise.b (fun σ => passAt tk σ) (pa_cons (pv 0) pa_nil))))) (fun a oe pn hz hf => (pss_cons (ps_set (i := 2) sc__law_kinds.nd rfl (.inl rfl) (pe_lst (pa_cons (pe_callB (call_isE E_Destroyed.ec hz hf) (by rfl) T.isinstance (by decide +kernel) (pa_cons (pv 1) (pa_cons (pe_glob (v := .ref C_BadValue) (by rfl) g_BadValue rfl) pa_nil))) (pa_cons (pe_callB (call_isE E_Destroyed.ec hz hf) (by rfl) T.isinstance (by decide +kernel) (pa_cons (pv 1) (pa_cons (pe_glob (v := .ref C_BadWords) (by rfl) g_BadWords rfl) pa_nil))) (pa_cons (pe_callB (call_isE E_Destroyed.ec hz hf) (by rfl) T.isinstance (by decide +kernel) (pa_cons (pv 1) (pa_cons (pe_glob (v := .ref C_BadBlock) (by rfl) g_BadBlock rfl) pa_nil))) (pa_cons (pe_callB (call_isE E_Destroyed.ec hz hf) (by rfl) T.isinstance (by decide +kernel) (pa_cons (pv 1) (pa_cons (pe_glob (v := .ref C_BadPath) (by rfl) g_BadPath rfl) pa_nil))) pa_nil))))))
  (pss_cons (ps_set (i := 2) sc__law_kinds.nd rfl (.inl rfl) (pe_op op_cat (pv 2) (pe_lst (pa_cons (pe_callB (call_isE E_Destroyed.ec hz hf) (by rfl) T.isinstance (by decide +kernel) (pa_cons (pv 1) (pa_cons (pe_glob (v := .ref C_BadCommand) (by rfl) g_BadCommand rfl) pa_nil))) (pa_cons (pe_callB (call_isE E_Destroyed.ec hz hf) (by rfl) T.isinstance (by decide +kernel) (pa_cons (pv 1) (pa_cons (pe_glob (v := .ref C_OutOfRange) (by rfl) g_OutOfRange rfl) pa_nil))) (pa_cons (pe_callB (call_isE E_Destroyed.ec hz hf) (by rfl) T.isinstance (by decide +kernel) (pa_cons (pv 1) (pa_cons (pe_glob (v := .ref C_Busy) (by rfl) g_Busy rfl) pa_nil))) pa_nil))))))
  (pss_cons (ps_set (i := 2) sc__law_kinds.nd rfl (.inl rfl) (pe_op op_cat (pv 2) (pe_lst (pa_cons (pe_callB (call_isE E_Destroyed.ec hz hf) (by rfl) T.isinstance (by decide +kernel) (pa_cons (pv 1) (pa_cons (pe_glob (v := .ref C_TooFew) (by rfl) g_TooFew rfl) pa_nil))) (pa_cons (pe_callB (call_isE E_Destroyed.ec hz hf) (by rfl) T.isinstance (by decide +kernel) (pa_cons (pv 1) (pa_cons (pe_glob (v := .ref C_PowerLoss) (by rfl) g_PowerLoss rfl) pa_nil))) (pa_cons (pe_callB (call_isE E_Destroyed.ec hz hf) (by rfl) T.isinstance (by decide +kernel) (pa_cons (pv 1) (pa_cons (pe_glob (v := .ref C_MachineDown) (by rfl) g_MachineDown rfl) pa_nil))) pa_nil))))))
  (pss_one (ps_ret (pe_op op_cat (pv 2) (pe_lst (pa_cons (pe_callB (call_isE E_Destroyed.ec hz hf) (by rfl) T.isinstance (by decide +kernel) (pa_cons (pv 1) (pa_cons (pe_glob (v := .ref C_Destroyed) (by rfl) g_Destroyed rfl) pa_nil))) (pa_cons (pe_callB (call_isE E_Destroyed.ec hz hf) (by rfl) T.isinstance (by decide +kernel) (pa_cons (pv 1) (pa_cons (pe_glob (v := .ref C_Unknown) (by rfl) g_Unknown rfl) pa_nil))) (pa_cons (pe_callB (call_isE E_Destroyed.ec hz hf) (by rfl) T.isinstance (by decide +kernel) (pa_cons (pv 1) (pa_cons (pe_bltn (v := .ty "ValueError") (u := .type "ValueError") (by rfl) T.ValueError (by decide +kernel) rfl) pa_nil))) pa_nil))))))))))))
  (pss_one (ps_ret (pe_lst pa_nil)))), ?_⟩
      refine s_drop0 (go_call (go_cons (ev_var rfl) fun H1 e1 => go_nil ⟨10, rfl, by decide, fun H2 e2 => ⟨true, MM 10 (by decide), fun _ a na => ⟨⟨rfl, rfl⟩, ?_⟩, fun z => nomatch z⟩⟩))
      have hA := at_ex hA (e1.trans e2)
      refine wn_asg (K := K) (ds := [.bool (decide (10 = 0)), .bool (decide (10 = 1)), .bool (decide (10 = 2)), .bool (decide (10 = 3))]) hA (fun B2 b2 => (en_lst (eds_cons (ed_bool (ev_isE (c := .ref C_BadValue) (cv := .ref C_BadValue) rfl ev_c (fun u hu => hu) (KK 10 0 (by decide) (by decide)))) (eds_cons (ed_bool (ev_isE (c := .ref C_BadWords) (cv := .ref C_BadWords) rfl ev_c (fun u hu => hu) (KK 10 1 (by decide) (by decide)))) (eds_cons (ed_bool (ev_isE (c := .ref C_BadBlock) (cv := .ref C_BadBlock) rfl ev_c (fun u hu => hu) (KK 10 2 (by decide) (by decide)))) (eds_cons (ed_bool (ev_isE (c := .ref C_BadPath) (cv := .ref C_BadPath) rfl ev_c (fun u hu => hu) (KK 10 3 (by decide) (by decide)))) eds_nil)))) (by decide))) fun p xs B3 H3 b3 hp hd hA => ?_
      refine wn_asg (K := K) (ds := [.bool (decide (10 = 0)), .bool (decide (10 = 1)), .bool (decide (10 = 2)), .bool (decide (10 = 3))] ++ [.bool (decide (10 = 4)), .bool (decide (10 = 5)), .bool (decide (10 = 6))]) hA (fun B2 b2 => en_catV (ev_var rfl) (b2 _ _ hp) (dpa_mono b2 _ _ hd) (en_lst (eds_cons (ed_bool (ev_isE (c := .ref C_BadCommand) (cv := .ref C_BadCommand) rfl ev_c (fun u hu => hu) (KK 10 4 (by decide) (by decide)))) (eds_cons (ed_bool (ev_isE (c := .ref C_OutOfRange) (cv := .ref C_OutOfRange) rfl ev_c (fun u hu => hu) (KK 10 5 (by decide) (by decide)))) (eds_cons (ed_bool (ev_isE (c := .ref C_Busy) (cv := .ref C_Busy) rfl ev_c (fun u hu => hu) (KK 10 6 (by decide) (by decide)))) eds_nil))) (by decide)) (by decide)) fun p2 xs2 B4 H4 b4 hp2 hd2 hA => ?_
      refine wn_asg (K := K) (ds := [.bool (decide (10 = 0)), .bool (decide (10 = 1)), .bool (decide (10 = 2)), .bool (decide (10 = 3))] ++ [.bool (decide (10 = 4)), .bool (decide (10 = 5)), .bool (decide (10 = 6))] ++ [.bool (decide (10 = 7)), .bool (decide (10 = 8)), .bool (decide (10 = 9))]) hA (fun B2 b2 => en_catV (ev_var rfl) (b2 _ _ hp2) (dpa_mono b2 _ _ hd2) (en_lst (eds_cons (ed_bool (ev_isE (c := .ref C_TooFew) (cv := .ref C_TooFew) rfl ev_c (fun u hu => hu) (KK 10 7 (by decide) (by decide)))) (eds_cons (ed_bool (ev_isE (c := .ref C_PowerLoss) (cv := .ref C_PowerLoss) rfl ev_c (fun u hu => hu) (KK 10 8 (by decide) (by decide)))) (eds_cons (ed_bool (ev_isE (c := .ref C_MachineDown) (cv := .ref C_MachineDown) rfl ev_c (fun u hu => hu) (KK 10 9 (by decide) (by decide)))) eds_nil))) (by decide)) (by decide)) fun p3 xs3 B5 H5 b5 hp3 hd3 hA => ?_
      exact wn_ret (K := K) (ds := kindsD 10) hA (fun B2 b2 => en_catV (es := [.bool (decide (10 = 10)), .bool (decide (10 = 11)), .bool true]) (ev_var rfl) (b2 _ _ hp3) (dpa_mono b2 _ _ hd3) (en_lst (eds_cons (ed_bool (ev_isE (c := .ref C_Destroyed) (cv := .ref C_Destroyed) rfl ev_c (fun u hu => hu) (KK 10 10 (by decide) (by decide)))) (eds_cons (ed_bool (ev_isE (c := .ref C_Unknown) (cv := .ref C_Unknown) rfl ev_c (fun u hu => hu) (KK 10 11 (by decide) (by decide)))) (eds_cons (ed_bool (ev_isE (c := .ty "ValueError") (cv := .type "ValueError") rfl ev_c (fun u hu => hu) E_Destroyed.k2)) eds_nil))) (by decide)) (by decide)) fun p4 xs4 B6 H6 b6 hp4 hd4 hA => q p4 xs4 B6 H6 (b3.trans (b4.trans (b5.trans b6))) hp4 hd4 hA
    · refine ⟨_, (pss_cons (ps_try_own (C := C_Unknown) (i := 1) rfl rfl sc__law_kinds.nd rfl rfl ⟨rfl, by decide, .inl g_HallError⟩ takes0 (fun W pn xe tk => (pss_one (ps_expr (pe_callS G__law_raise (hr.mono (by decide)) (by rfl) D__law_raise.g D__law_raise.F.kp D__law_raise.b (fun σ => passAt tk σ) (pa_cons (pv 0) pa_nil))))) (fun a oe pn hz hf => (pss_cons (ps_set (i := 2) sc__law_kinds.nd rfl (.inl rfl) (pe_lst (pa_cons (pe_callB (call_isE E_Unknown.ec hz hf) (by rfl) T.isinstance (by decide +kernel) (pa_cons (pv 1) (pa_cons (pe_glob (v := .ref C_BadValue) (by rfl) g_BadValue rfl) pa_nil))) (pa_cons (pe_callB (call_isE E_Unknown.ec hz hf) (by rfl) T.isinstance (by decide +kernel) (pa_cons (pv 1) (pa_cons (pe_glob (v := .ref C_BadWords) (by rfl) g_BadWords rfl) pa_nil))) (pa_cons (pe_callB (call_isE E_Unknown.ec hz hf) (by rfl) T.isinstance (by decide +kernel) (pa_cons (pv 1) (pa_cons (pe_glob (v := .ref C_BadBlock) (by rfl) g_BadBlock rfl) pa_nil))) (pa_cons (pe_callB (call_isE E_Unknown.ec hz hf) (by rfl) T.isinstance (by decide +kernel) (pa_cons (pv 1) (pa_cons (pe_glob (v := .ref C_BadPath) (by rfl) g_BadPath rfl) pa_nil))) pa_nil))))))
  (pss_cons (ps_set (i := 2) sc__law_kinds.nd rfl (.inl rfl) (pe_op op_cat (pv 2) (pe_lst (pa_cons (pe_callB (call_isE E_Unknown.ec hz hf) (by rfl) T.isinstance (by decide +kernel) (pa_cons (pv 1) (pa_cons (pe_glob (v := .ref C_BadCommand) (by rfl) g_BadCommand rfl) pa_nil))) (pa_cons (pe_callB (call_isE E_Unknown.ec hz hf) (by rfl) T.isinstance (by decide +kernel) (pa_cons (pv 1) (pa_cons (pe_glob (v := .ref C_OutOfRange) (by rfl) g_OutOfRange rfl) pa_nil))) (pa_cons (pe_callB (call_isE E_Unknown.ec hz hf) (by rfl) T.isinstance (by decide +kernel) (pa_cons (pv 1) (pa_cons (pe_glob (v := .ref C_Busy) (by rfl) g_Busy rfl) pa_nil))) pa_nil))))))
  (pss_cons (ps_set (i := 2) sc__law_kinds.nd rfl (.inl rfl) (pe_op op_cat (pv 2) (pe_lst (pa_cons (pe_callB (call_isE E_Unknown.ec hz hf) (by rfl) T.isinstance (by decide +kernel) (pa_cons (pv 1) (pa_cons (pe_glob (v := .ref C_TooFew) (by rfl) g_TooFew rfl) pa_nil))) (pa_cons (pe_callB (call_isE E_Unknown.ec hz hf) (by rfl) T.isinstance (by decide +kernel) (pa_cons (pv 1) (pa_cons (pe_glob (v := .ref C_PowerLoss) (by rfl) g_PowerLoss rfl) pa_nil))) (pa_cons (pe_callB (call_isE E_Unknown.ec hz hf) (by rfl) T.isinstance (by decide +kernel) (pa_cons (pv 1) (pa_cons (pe_glob (v := .ref C_MachineDown) (by rfl) g_MachineDown rfl) pa_nil))) pa_nil))))))
  (pss_one (ps_ret (pe_op op_cat (pv 2) (pe_lst (pa_cons (pe_callB (call_isE E_Unknown.ec hz hf) (by rfl) T.isinstance (by decide +kernel) (pa_cons (pv 1) (pa_cons (pe_glob (v := .ref C_Destroyed) (by rfl) g_Destroyed rfl) pa_nil))) (pa_cons (pe_callB (call_isE E_Unknown.ec hz hf) (by rfl) T.isinstance (by decide +kernel) (pa_cons (pv 1) (pa_cons (pe_glob (v := .ref C_Unknown) (by rfl) g_Unknown rfl) pa_nil))) (pa_cons (pe_callB (call_isE E_Unknown.ec hz hf) (by rfl) T.isinstance (by decide +kernel) (pa_cons (pv 1) (pa_cons (pe_bltn (v := .ty "ValueError") (u := .type "ValueError") (by rfl) T.ValueError (by decide +kernel) rfl) pa_nil))) pa_nil))))))))))))
  (pss_one (ps_ret (pe_lst pa_nil)))), ?_⟩
      refine s_drop0 (go_call (go_cons (ev_var rfl) fun H1 e1 => go_nil ⟨11, rfl, by decide, fun H2 e2 => ⟨true, MM 11 (by decide), fun _ a na => ⟨⟨rfl, rfl⟩, ?_⟩, fun z => nomatch z⟩⟩))
      have hA := at_ex hA (e1.trans e2)
      refine wn_asg (K := K) (ds := [.bool (decide (11 = 0)), .bool (decide (11 = 1)), .bool (decide (11 = 2)), .bool (decide (11 = 3))]) hA (fun B2 b2 => (en_lst (eds_cons (ed_bool (ev_isE (c := .ref C_BadValue) (cv := .ref C_BadValue) rfl ev_c (fun u hu => hu) (KK 11 0 (by decide) (by decide)))) (eds_cons (ed_bool (ev_isE (c := .ref C_BadWords) (cv := .ref C_BadWords) rfl ev_c (fun u hu => hu) (KK 11 1 (by decide) (by decide)))) (eds_cons (ed_bool (ev_isE (c := .ref C_BadBlock) (cv := .ref C_BadBlock) rfl ev_c (fun u hu => hu) (KK 11 2 (by decide) (by decide)))) (eds_cons (ed_bool (ev_isE (c := .ref C_BadPath) (cv := .ref C_BadPath) rfl ev_c (fun u hu => hu) (KK 11 3 (by decide) (by decide)))) eds_nil)))) (by decide))) fun p xs B3 H3 b3 hp hd hA => ?_
      refine wn_asg (K := K) (ds := [.bool (decide (11 = 0)), .bool (decide (11 = 1)), .bool (decide (11 = 2)), .bool (decide (11 = 3))] ++ [.bool (decide (11 = 4)), .bool (decide (11 = 5)), .bool (decide (11 = 6))]) hA (fun B2 b2 => en_catV (ev_var rfl) (b2 _ _ hp) (dpa_mono b2 _ _ hd) (en_lst (eds_cons (ed_bool (ev_isE (c := .ref C_BadCommand) (cv := .ref C_BadCommand) rfl ev_c (fun u hu => hu) (KK 11 4 (by decide) (by decide)))) (eds_cons (ed_bool (ev_isE (c := .ref C_OutOfRange) (cv := .ref C_OutOfRange) rfl ev_c (fun u hu => hu) (KK 11 5 (by decide) (by decide)))) (eds_cons (ed_bool (ev_isE (c := .ref C_Busy) (cv := .ref C_Busy) rfl ev_c (fun u hu => hu) (KK 11 6 (by decide) (by decide)))) eds_nil))) (by decide)) (by decide)) fun p2 xs2 B4 H4 b4 hp2 hd2 hA => ?_
      refine wn_asg (K := K) (ds := [.bool (decide (11 = 0)), .bool (decide (11 = 1)), .bool (decide (11 = 2)), .bool (decide (11 = 3))] ++ [.bool (decide (11 = 4)), .bool (decide (11 = 5)), .bool (decide (11 = 6))] ++ [.bool (decide (11 = 7)), .bool (decide (11 = 8)), .bool (decide (11 = 9))]) hA (fun B2 b2 => en_catV (ev_var rfl) (b2 _ _ hp2) (dpa_mono b2 _ _ hd2) (en_lst (eds_cons (ed_bool (ev_isE (c := .ref C_TooFew) (cv := .ref C_TooFew) rfl ev_c (fun u hu => hu) (KK 11 7 (by decide) (by decide)))) (eds_cons (ed_bool (ev_isE (c := .ref C_PowerLoss) (cv := .ref C_PowerLoss) rfl ev_c (fun u hu => hu) (KK 11 8 (by decide) (by decide)))) (eds_cons (ed_bool (ev_isE (c := .ref C_MachineDown) (cv := .ref C_MachineDown) rfl ev_c (fun u hu => hu) (KK 11 9 (by decide) (by decide)))) eds_nil))) (by decide)) (by decide)) fun p3 xs3 B5 H5 b5 hp3 hd3 hA => ?_
      exact wn_ret (K := K) (ds := kindsD 11) hA (fun B2 b2 => en_catV (es := [.bool (decide (11 = 10)), .bool (decide (11 = 11)), .bool true]) (ev_var rfl) (b2 _ _ hp3) (dpa_mono b2 _ _ hd3) (en_lst (eds_cons (ed_bool (ev_isE (c := .ref C_Destroyed) (cv := .ref C_Destroyed) rfl ev_c (fun u hu => hu) (KK 11 10 (by decide) (by decide)))) (eds_cons (ed_bool (ev_isE (c := .ref C_Unknown) (cv := .ref C_Unknown) rfl ev_c (fun u hu => hu) (KK 11 11 (by decide) (by decide)))) (eds_cons (ed_bool (ev_isE (c := .ty "ValueError") (cv := .type "ValueError") rfl ev_c (fun u hu => hu) E_Unknown.k2)) eds_nil))) (by decide)) (by decide)) fun p4 xs4 B6 H6 b6 hp4 hd4 hA => q p4 xs4 B6 H6 (b3.trans (b4.trans (b5.trans b6))) hp4 hd4 hA
    · refine ⟨_, (pss_cons (ps_try_own (C := C_HallError) (i := 1) rfl rfl sc__law_kinds.nd rfl rfl ⟨rfl, by decide, .inl E_HallError.g⟩ takes0 (fun W pn xe tk => (pss_one (ps_expr (pe_callS G__law_raise (hr.mono (by decide)) (by rfl) D__law_raise.g D__law_raise.F.kp D__law_raise.b (fun σ => passAt tk σ) (pa_cons (pv 0) pa_nil))))) (fun a oe pn hz hf => (pss_cons (ps_set (i := 2) sc__law_kinds.nd rfl (.inl rfl) (pe_lst (pa_cons (pe_callB (call_isE E_HallError.ec hz hf) (by rfl) T.isinstance (by decide +kernel) (pa_cons (pv 1) (pa_cons (pe_glob (v := .ref C_BadValue) (by rfl) g_BadValue rfl) pa_nil))) (pa_cons (pe_callB (call_isE E_HallError.ec hz hf) (by rfl) T.isinstance (by decide +kernel) (pa_cons (pv 1) (pa_cons (pe_glob (v := .ref C_BadWords) (by rfl) g_BadWords rfl) pa_nil))) (pa_cons (pe_callB (call_isE E_HallError.ec hz hf) (by rfl) T.isinstance (by decide +kernel) (pa_cons (pv 1) (pa_cons (pe_glob (v := .ref C_BadBlock) (by rfl) g_BadBlock rfl) pa_nil))) (pa_cons (pe_callB (call_isE E_HallError.ec hz hf) (by rfl) T.isinstance (by decide +kernel) (pa_cons (pv 1) (pa_cons (pe_glob (v := .ref C_BadPath) (by rfl) g_BadPath rfl) pa_nil))) pa_nil))))))
  (pss_cons (ps_set (i := 2) sc__law_kinds.nd rfl (.inl rfl) (pe_op op_cat (pv 2) (pe_lst (pa_cons (pe_callB (call_isE E_HallError.ec hz hf) (by rfl) T.isinstance (by decide +kernel) (pa_cons (pv 1) (pa_cons (pe_glob (v := .ref C_BadCommand) (by rfl) g_BadCommand rfl) pa_nil))) (pa_cons (pe_callB (call_isE E_HallError.ec hz hf) (by rfl) T.isinstance (by decide +kernel) (pa_cons (pv 1) (pa_cons (pe_glob (v := .ref C_OutOfRange) (by rfl) g_OutOfRange rfl) pa_nil))) (pa_cons (pe_callB (call_isE E_HallError.ec hz hf) (by rfl) T.isinstance (by decide +kernel) (pa_cons (pv 1) (pa_cons (pe_glob (v := .ref C_Busy) (by rfl) g_Busy rfl) pa_nil))) pa_nil))))))
  (pss_cons (ps_set (i := 2) sc__law_kinds.nd rfl (.inl rfl) (pe_op op_cat (pv 2) (pe_lst (pa_cons (pe_callB (call_isE E_HallError.ec hz hf) (by rfl) T.isinstance (by decide +kernel) (pa_cons (pv 1) (pa_cons (pe_glob (v := .ref C_TooFew) (by rfl) g_TooFew rfl) pa_nil))) (pa_cons (pe_callB (call_isE E_HallError.ec hz hf) (by rfl) T.isinstance (by decide +kernel) (pa_cons (pv 1) (pa_cons (pe_glob (v := .ref C_PowerLoss) (by rfl) g_PowerLoss rfl) pa_nil))) (pa_cons (pe_callB (call_isE E_HallError.ec hz hf) (by rfl) T.isinstance (by decide +kernel) (pa_cons (pv 1) (pa_cons (pe_glob (v := .ref C_MachineDown) (by rfl) g_MachineDown rfl) pa_nil))) pa_nil))))))
  (pss_one (ps_ret (pe_op op_cat (pv 2) (pe_lst (pa_cons (pe_callB (call_isE E_HallError.ec hz hf) (by rfl) T.isinstance (by decide +kernel) (pa_cons (pv 1) (pa_cons (pe_glob (v := .ref C_Destroyed) (by rfl) g_Destroyed rfl) pa_nil))) (pa_cons (pe_callB (call_isE E_HallError.ec hz hf) (by rfl) T.isinstance (by decide +kernel) (pa_cons (pv 1) (pa_cons (pe_glob (v := .ref C_Unknown) (by rfl) g_Unknown rfl) pa_nil))) (pa_cons (pe_callB (call_isE E_HallError.ec hz hf) (by rfl) T.isinstance (by decide +kernel) (pa_cons (pv 1) (pa_cons (pe_bltn (v := .ty "ValueError") (u := .type "ValueError") (by rfl) T.ValueError (by decide +kernel) rfl) pa_nil))) pa_nil))))))))))))
  (pss_one (ps_ret (pe_lst pa_nil)))), ?_⟩
      refine s_drop0 (go_call (go_cons (ev_var rfl) fun H1 e1 => go_nil ⟨12, rfl, by decide, fun H2 e2 => ⟨true, MM 12 (by decide), fun _ a na => ⟨⟨rfl, rfl⟩, ?_⟩, fun z => nomatch z⟩⟩))
      have hA := at_ex hA (e1.trans e2)
      refine wn_asg (K := K) (ds := [.bool (decide (12 = 0)), .bool (decide (12 = 1)), .bool (decide (12 = 2)), .bool (decide (12 = 3))]) hA (fun B2 b2 => (en_lst (eds_cons (ed_bool (ev_isE (c := .ref C_BadValue) (cv := .ref C_BadValue) rfl ev_c (fun u hu => hu) (KK 12 0 (by decide) (by decide)))) (eds_cons (ed_bool (ev_isE (c := .ref C_BadWords) (cv := .ref C_BadWords) rfl ev_c (fun u hu => hu) (KK 12 1 (by decide) (by decide)))) (eds_cons (ed_bool (ev_isE (c := .ref C_BadBlock) (cv := .ref C_BadBlock) rfl ev_c (fun u hu => hu) (KK 12 2 (by decide) (by decide)))) (eds_cons (ed_bool (ev_isE (c := .ref C_BadPath) (cv := .ref C_BadPath) rfl ev_c (fun u hu => hu) (KK 12 3 (by decide) (by decide)))) eds_nil)))) (by decide))) fun p xs B3 H3 b3 hp hd hA => ?_
      refine wn_asg (K := K) (ds := [.bool (decide (12 = 0)), .bool (decide (12 = 1)), .bool (decide (12 = 2)), .bool (decide (12 = 3))] ++ [.bool (decide (12 = 4)), .bool (decide (12 = 5)), .bool (decide (12 = 6))]) hA (fun B2 b2 => en_catV (ev_var rfl) (b2 _ _ hp) (dpa_mono b2 _ _ hd) (en_lst (eds_cons (ed_bool (ev_isE (c := .ref C_BadCommand) (cv := .ref C_BadCommand) rfl ev_c (fun u hu => hu) (KK 12 4 (by decide) (by decide)))) (eds_cons (ed_bool (ev_isE (c := .ref C_OutOfRange) (cv := .ref C_OutOfRange) rfl ev_c (fun u hu => hu) (KK 12 5 (by decide) (by decide)))) (eds_cons (ed_bool (ev_isE (c := .ref C_Busy) (cv := .ref C_Busy) rfl ev_c (fun u hu => hu) (KK 12 6 (by decide) (by decide)))) eds_nil))) (by decide)) (by decide)) fun p2 xs2 B4 H4 b4 hp2 hd2 hA => ?_
      refine wn_asg (K := K) (ds := [.bool (decide (12 = 0)), .bool (decide (12 = 1)), .bool (decide (12 = 2)), .bool (decide (12 = 3))] ++ [.bool (decide (12 = 4)), .bool (decide (12 = 5)), .bool (decide (12 = 6))] ++ [.bool (decide (12 = 7)), .bool (decide (12 = 8)), .bool (decide (12 = 9))]) hA (fun B2 b2 => en_catV (ev_var rfl) (b2 _ _ hp2) (dpa_mono b2 _ _ hd2) (en_lst (eds_cons (ed_bool (ev_isE (c := .ref C_TooFew) (cv := .ref C_TooFew) rfl ev_c (fun u hu => hu) (KK 12 7 (by decide) (by decide)))) (eds_cons (ed_bool (ev_isE (c := .ref C_PowerLoss) (cv := .ref C_PowerLoss) rfl ev_c (fun u hu => hu) (KK 12 8 (by decide) (by decide)))) (eds_cons (ed_bool (ev_isE (c := .ref C_MachineDown) (cv := .ref C_MachineDown) rfl ev_c (fun u hu => hu) (KK 12 9 (by decide) (by decide)))) eds_nil))) (by decide)) (by decide)) fun p3 xs3 B5 H5 b5 hp3 hd3 hA => ?_
      exact wn_ret (K := K) (ds := kindsD 12) hA (fun B2 b2 => en_catV (es := [.bool (decide (12 = 10)), .bool (decide (12 = 11)), .bool true]) (ev_var rfl) (b2 _ _ hp3) (dpa_mono b2 _ _ hd3) (en_lst (eds_cons (ed_bool (ev_isE (c := .ref C_Destroyed) (cv := .ref C_Destroyed) rfl ev_c (fun u hu => hu) (KK 12 10 (by decide) (by decide)))) (eds_cons (ed_bool (ev_isE (c := .ref C_Unknown) (cv := .ref C_Unknown) rfl ev_c (fun u hu => hu) (KK 12 11 (by decide) (by decide)))) (eds_cons (ed_bool (ev_isE (c := .ty "ValueError") (cv := .type "ValueError") rfl ev_c (fun u hu => hu) E_HallError.k2)) eds_nil))) (by decide)) (by decide)) fun p4 xs4 B6 H6 b6 hp4 hd4 hA => q p4 xs4 B6 H6 (b3.trans (b4.trans (b5.trans b6))) hp4 hd4 hA

theorem ok_lawG5 {f f_p f_n f_l f_r f_as f_sm f_k : Addr} {fd fd_p fd_n fd_l fd_r fd_as fd_sm fd_k : FuncData} (F : Fun K "law" "law" s_law f fd)
    (D__law_pool : Df K mg "_law_pool" s__law_pool ["script", "at"] f_p fd_p) (G__law_pool : FnOk P w K mg base CX0 1 f_p fd_p ["script", "at"] (spPool K)) (D__law_next : Df K mg "_law_next" s__law_next ["pool", "many"] f_n fd_n) (G__law_next : FnOk P w K mg base CX0 1 f_n fd_n ["pool", "many"] spPN)
    (D__law_list : Df K mg "_law_list" s__law_list ["pool"] f_l fd_l) (G__law_list : FnOk P w K mg base CX0 5 f_l fd_l ["pool"] (spWList K)) (D__law_read : Df K mg "_law_read" s__law_read ["words"] f_r fd_r) (G__law_read : FnOk P w K mg base CX0 2 f_r fd_r ["words"] (spRead K))
    (D__law_asked : Df K mg "_law_asked" s__law_asked ["words", "whole"] f_as fd_as) (G__law_asked : FnOk P w K mg base CX0 30 f_as fd_as ["words", "whole"] (spAsked K)) (D__law_same : Df K mg "_law_same" s__law_same ["actual", "due"] f_sm fd_sm) (G__law_same : FnOk P w K mg base CX0 14 f_sm fd_sm ["actual", "due"] (spSame K 13))
    (D__law_kinds : Df K mg "_law_kinds" s__law_kinds ["choice"] f_k fd_k) (G__law_kinds : FnOk P w K mg base CX0 2 f_k fd_k ["choice"] (spKinds K)) (T : Glo mg) : FnOk P w K mg base CX0 40 f fd ["script"] (spLaw K) := by
  refine F.ok sc_law (fun vs H Q E h => ?_) (fun cdv A outer s H vs Q E hr h => ?_)
  · obtain ⟨a, ns, rfl, _⟩ := h
    rfl
  · obtain ⟨a, ns, rfl, hS, hn, q⟩ := h
    refine ⟨_, (pss_cons (ps_set (i := 1) sc_law.nd rfl (.inl rfl) (pe_call G__law_list (hr.mono (by decide)) (by rfl) D__law_list.g D__law_list.F.kp D__law_list.b .nil pass0 (pa_cons (pe_call G__law_pool (hr.mono (by decide)) (by rfl) D__law_pool.g D__law_pool.F.kp D__law_pool.b .nil pass0 (pa_cons (pv 0) (pa_cons pe_int pa_nil))) pa_nil)))
  (pss_cons (ps_set (i := 2) sc_law.nd rfl (.inl rfl) (pe_callTy call_list_of (by rfl) T.list (by decide +kernel) (pa_cons (pv 1) pa_nil)))
  (pss_cons (ps_set (i := 3) sc_law.nd rfl (.inl rfl) (pe_call G__law_read (hr.mono (by decide)) (by rfl) D__law_read.g D__law_read.F.kp D__law_read.b .nil pass0 (pa_cons (pv 1) pa_nil)))
  (pss_cons (ps_if (PW.pt (pw_or (pt_not (pt_val (pe_call G__law_same (hr.mono (by decide)) (by rfl) D__law_same.g D__law_same.F.kp D__law_same.b .nil pass0 (pa_cons (pe_call G__law_asked (hr.mono (by decide)) (by rfl) D__law_asked.g D__law_asked.F.kp D__law_asked.b .nil pass0 (pa_cons (pv 1) (pa_cons pe_bl pa_nil))) (pa_cons (pv 3) pa_nil))))) (pw_or1 (pt_not (pt_val (pe_call G__law_same (hr.mono (by decide)) (by rfl) D__law_same.g D__law_same.F.kp D__law_same.b .nil pass0 (pa_cons (pv 1) (pa_cons (pv 2) pa_nil))))))))
  (pss_one (ps_ret pe_bl))
  pss_nil)
  (pss_cons (ps_if (PW.pt (pw_and (pt_cmpR op_eq (pe_callB call_len_seq (by rfl) T.len PySem.boot_len (pa_cons (pv 3) pa_nil)) pe_int (nomark _)) (pw_and1 (pt_cmpR op_ne (pe_ix ix_list (pv 3) pe_int (fun _ _ => rfl)) (pe_callB call_len_seq (by rfl) T.len PySem.boot_len (pa_cons (pv 1) pa_nil)) (nomark _)))))
  (pss_one (ps_set (i := 3) sc_law.nd rfl (.inl rfl) (pe_lst pa_nil)))
  pss_nil)
  (pss_cons (ps_if (PW.pt (pw_or (pt_not (pt_val (pe_call G__law_same (hr.mono (by decide)) (by rfl) D__law_same.g D__law_same.F.kp D__law_same.b .nil pass0 (pa_cons (pe_call G__law_asked (hr.mono (by decide)) (by rfl) D__law_asked.g D__law_asked.F.kp D__law_asked.b .nil pass0 (pa_cons (pv 1) (pa_cons pe_bl pa_nil))) (pa_cons (pe_slice sl_list (pv 3) po_none (po_some pe_int)) pa_nil))))) (pw_or1 (pt_not (pt_val (pe_call G__law_same (hr.mono (by decide)) (by rfl) D__law_same.g D__law_same.F.kp D__law_same.b .nil pass0 (pa_cons (pv 1) (pa_cons (pv 2) pa_nil))))))))
  (pss_one (ps_ret pe_bl))
  pss_nil)
  (pss_cons (ps_set (i := 4) sc_law.nd rfl (.inr rfl) (pe_call G__law_next (hr.mono (by decide)) (by rfl) D__law_next.g D__law_next.F.kp D__law_next.b .nil pass0 (pa_cons (pe_call G__law_pool (hr.mono (by decide)) (by rfl) D__law_pool.g D__law_pool.F.kp D__law_pool.b .nil pass0 (pa_cons (pv 0) (pa_cons pe_int pa_nil))) (pa_cons pe_int pa_nil))))
  (pss_one (ps_ret (pe_cmpR (op_eqD hr.units) (pe_call G__law_kinds (hr.mono (by decide)) (by rfl) D__law_kinds.g D__law_kinds.F.kp D__law_kinds.b .nil pass0 (pa_cons (pv 4) pa_nil)) (pe_op op_cat (pe_lc (own := [("k", 5)]) (g := gName 5) rfl sc_law.nd (pi_range1 (by rfl) T.range (pa_cons pe_int pa_nil)) (blkOk_by (N := N_law) (sc := defScope s_law) (by decide +kernel)) (fun _ _ _ _ _ => (pg_name (i := 5) sc_law.nd rfl (.inl rfl))) (fun _ _ _ _ _ => pts_nil) (fun _ _ _ _ _ => (pe_cmpR op_eq (pv 5) (pv 4) (nomark _)))) (pe_lst (pa_cons pe_bl pa_nil))) (nomark _))))))))))), ?_⟩
    have hA := at_start (H := H)
    refine q_do (go_call (go_cons' (go_call (go_cons (ev_var rfl) fun H1 e1 => go_cons ev_c fun H2 e2 => go_nil ⟨a, ns, 0, H, [], rfl, at_ex hA (e1.trans e2), hS, by omega, by decide, fun s H3 hA => go_nil ⟨s, H, [], rfl, hA, fun pw ds B4 H4 b4 hl hw hA => ?_⟩⟩))))
    have hA : At B4 (LstM K pw ds :: []) H4 := at_drop (at_swap hA)
    obtain ⟨xs, hxs, hH⟩ := lst_at (K := K) 0 rfl hA
    refine q_do (go_cons (ev_var rfl) fun H5 e5 => go_nil ⟨pw, xs, rfl, .inl (sq_of (e5 _ _ hH)), fun pk hpk => ?_⟩)
    have hA := at_new (o := .lst xs) (at_ex hA e5) hpk (Ex.new hpk) upd_same
    have hA : At B4 (LstM K pk ds :: LstM K pw ds :: []) _ := at_closeL (K := K) 0 rfl hxs hA
    refine q_do (go_call (go_cons (ev_var rfl) fun H6 e6 => go_nil ⟨pw, ds, B4, [LstM K pk ds], rfl, at_swap (at_ex hA e6), hl, hw, fun pd B7 H7 b7 hA => ?_⟩))
    have hgood : ∀ d e, takeD ds 12 0 = some (d, e) → Okn 12 d := fun d e h => by
      obtain ⟨g1, g2, g3⟩ := takeD_good ds 12 0 d e h
      obtain ⟨_, _, g4⟩ := takeD_bd ds 12 0 d e h
      exact oknV d 12 g1 g2 (by omega)
    have oW : Okn 13 (.list ds) := .lst (by omega) fun x hx => (hw x hx).2.1
    have hask : askD false ds = dueD (takeD ds 12 0) := by
      unfold askD
      cases takeD ds 12 0 with
      | none => rfl
      | some p => rfl
    have ok2 : ∀ (es : List PyData), (∀ x ∈ es, Okn 12 x) → es.length ≤ 2 → Okn 13 (.list es) := fun es h1 h2 => .lst (by omega) h1
    have okDue : ∀ x ∈ dueD (takeD ds 12 0), Okn 12 x := by
      intro x hx
      cases h : takeD ds 12 0 with
      | none => rw [h] at hx; cases hx
      | some p =>
        obtain ⟨d, e⟩ := p
        rw [h] at hx
        have hx : x ∈ [d, PyData.int e] := hx
        rcases List.mem_cons.mp hx with rfl | hx
        · exact hgood _ e h
        · rw [List.mem_singleton.mp hx]
          exact .int _
    have lenDue : (dueD (takeD ds 12 0)).length ≤ 2 := by
      cases takeD ds 12 0 with
      | none => exact Nat.zero_le _
      | some p => exact Nat.le_refl _
    have b47 := b4.trans b7
    -- take_value
    refine q_whenF (C := fun H1 => ∃ B1, Ex B7 B1 ∧ At B1 (LstM K pd (dueD (takeD ds 12 0)) :: LstM K pw ds :: LstM K pk ds :: []) H1) (fun Q' hQ => go_call (go_cons' (go_call (go_cons (ev_var rfl) fun H8 e8 => go_cons ev_c fun H9 e9 => go_nil ⟨pw, false, ds, B7, _, rfl, at_swap (at_ex hA (e8.trans e9)), hl, hw, fun pa B10 H10 b10 hA => go_cons (ev_var rfl) fun H11 e11 => go_nil ⟨_, _, _, rfl, dx_lstM (K := K) 0 rfl (at_ex hA e11), hask ▸ dx_lstM (K := K) 2 rfl (at_ex hA e11), hask ▸ ok2 _ okDue lenDue, fun H12 e12 => ⟨true, rfl, go_call (go_cons (ev_var rfl) fun H13 e13 => go_cons (ev_var rfl) fun H14 e14 => go_nil ⟨_, _, _, rfl, dx_lstM (K := K) 1 rfl (at_ex hA (e11.trans (e12.trans (e13.trans e14)))), dx_lstM (K := K) 3 rfl (at_ex hA (e11.trans (e12.trans (e13.trans e14)))), oW, fun H15 e15 => ⟨true, rfl, hQ H15 ⟨B10, b10, at_swap (at_drop (at_ex hA (e11.trans (e12.trans (e13.trans (e14.trans e15))))))⟩⟩⟩)⟩⟩⟩)))) (fun H8 hC => ?_)
    clear hA
    obtain ⟨B8, b8, hA⟩ := hC
    have b08 := b47.trans b8
    -- the end
    refine q_seqJ (fun σ1 H1 => ∃ (pd2 : Addr) (es : List PyData), σ1 = [some (.ref a), some (.ref pw), some (.ref pk), some (.ref pd2), none, none] ∧ At B8 (LstM K pd2 es :: LstM K pw ds :: LstM K pk ds :: []) H1 ∧ es.take 1 = askD true ds ∧ ∀ x ∈ es, Okn 12 x) (fun nx' hnx => ?_) (fun σ1 H1 hC => ?_)
    · cases ht : takeD ds 12 0 with
      | none =>
        rw [ht] at hA
        refine se_when (b := false) hA (et_and (a := false) (b := false) (et_is (et_test (ev_op (ev_lenM (K := K) 0 rfl hA (ev_var rfl)) ev_c rv_eqI)) rfl) (fun h => nomatch h)) (fun hb => nomatch hb) (fun _ H9 hA => hnx _ _ ⟨pd, [], rfl, hA, by unfold askD; rw [ht]; rfl, (fun _ h => nomatch h)⟩)
      | some p =>
        obtain ⟨d, e⟩ := p
        rw [ht] at hA okDue
        obtain ⟨ys, hys, hyH⟩ := lst_at (K := K) 0 rfl hA
        have hy1 : atI ys 1 = some (.int e) := by
          cases hys with
          | cons h1 h2 => cases h2 with
            | cons h2 h3 =>
              cases h3
              cases h2
              rfl
        refine se_when (b := !decide (e = (ds.length : Int))) hA (et_is (et_and (a := true) (b := !decide (e = (ds.length : Int))) (et_is (et_test (ev_op (ev_lenM (K := K) 0 rfl hA (ev_var rfl)) ev_c rv_eqI)) rfl) (fun _ => et_test (ev_op (ev_op (ev_var rfl) ev_c (rv_ixL (sq_of hyH) hy1)) (ev_lenM (K := K) 1 rfl hA (ev_var rfl)) rv_neI))) (Bool.true_and _)) (fun hb H9 hA => ?_) (fun hb H9 hA => ?_)
        · have he : e ≠ (ds.length : Int) := by simpa using hb
          refine s_do (go_lst (go_nil ⟨by show 0 ≤ sizeLine; decide, fun p hp => ?_⟩))
          have hA := at_new (o := .lst []) hA hp (Ex.new hp) upd_same
          have hA := at_closeL (K := K) (ds := []) 0 rfl .nil hA
          exact hnx _ _ ⟨p, [], rfl, at_mid hA, by
            unfold askD
            rw [ht]
            show [] = (if (true : Bool) = true then (if e = (ds.length : Int) then [d] else []) else _)
            rw [if_pos rfl, if_neg he], (fun _ h => nomatch h)⟩
        · have he : e = (ds.length : Int) := by simpa using hb
          exact hnx _ _ ⟨pd, [d, .int e], rfl, hA, by
            unfold askD
            rw [ht]
            show [d] = (if (true : Bool) = true then (if e = (ds.length : Int) then [d] else []) else _)
            rw [if_pos rfl, if_pos he], okDue⟩
    clear hA
    obtain ⟨pd2, es, rfl, hA, he, hes⟩ := hC
    -- from_words
    refine q_whenF (C := fun H1 => ∃ B1, Ex B8 B1 ∧ At B1 (LstM K pw ds :: []) H1) (fun Q' hQ => ?_) (fun H8 hC => ?_)
    · refine go_call (go_cons' (go_call (go_cons (ev_var rfl) fun H8 e8 => go_cons ev_c fun H9 e9 => go_nil ⟨pw, true, ds, B8, _, rfl, at_swap (at_ex hA (e8.trans e9)), hl, hw, fun pa B10 H10 b10 hA => ?_⟩)))
      obtain ⟨ys, hys, hyH⟩ := lst_at (K := K) 2 rfl hA
      have e2c : cutV ys none (some 1) = ys.take 1 := by
        have := HT.sIx_nat
        unfold cutV
        rw [HT.sIx_none, show (some (1 : Int)) = some ((1 : Nat) : Int) from rfl, HT.sIx_nat, Nat.sub_zero, List.drop_zero]
        exact List.take_eq_take_iff.mpr (by omega)
      refine go_cons' ((el_sl (K := K) (lo := none) (ev_var rfl) eo_none (eo_some ev_c) (sq_of hyH)) H10 (Ex.refl H10) _ fun po H11 npo e11 hpo => ?_)
      rw [e2c] at hpo
      have hA := at_new hA npo e11 hpo
      have hA := at_closeL (K := K) 0 rfl (dpa_take 1 hys) hA
      have hA : At B10 (LstM K po (es.take 1) :: LstM K pa (askD true ds) :: LstM K pw ds :: LstM K pd2 es :: LstM K pk ds :: []) H11 := hA
      rw [he] at hA
      have okA : Okn 13 (.list (askD true ds)) := by
        rw [← he]
        exact .lst (by rw [List.length_take]; omega) fun x hx => hes x (List.mem_of_mem_take hx)
      exact go_nil ⟨_, _, _, rfl, dx_lstM (K := K) 1 rfl hA, dx_lstM (K := K) 0 rfl hA, okA, fun H12 e12 => ⟨true, rfl, go_call (go_cons (ev_var rfl) fun H13 e13 => go_cons (ev_var rfl) fun H14 e14 => go_nil ⟨_, _, _, rfl, dx_lstM (K := K) 2 rfl (at_ex hA (e12.trans (e13.trans e14))), dx_lstM (K := K) 4 rfl (at_ex hA (e12.trans (e13.trans e14))), oW, fun H15 e15 => ⟨true, rfl, hQ H15 ⟨B10, b10, at_drop (at_swap (at_mid (at_drop (at_drop (at_ex hA (e12.trans (e13.trans (e14.trans e15))))))))⟩⟩⟩)⟩⟩
    clear hA
    obtain ⟨B9, b9, hA⟩ := hC
    refine q_do (go_call (go_cons' (go_call (go_cons (ev_var rfl) fun H9 e9 => go_cons ev_c fun H10 e10 => go_nil ⟨a, ns, 1, B9, _, rfl, at_ex hA (e9.trans e10), ex_l (b08.trans b9) hS, by omega, by decide, fun s H11 hA => go_cons ev_c fun H12 e12 => go_nil ⟨s, 13, B9, _, rfl, at_ex hA e12, by decide, by decide, fun r H13 h0 h1 hA => ?_⟩⟩))))
    obtain ⟨c, rfl⟩ : ∃ k : Nat, r = (k : Int) := ⟨r.toNat, by omega⟩
    refine go_op (go_call (go_cons (ev_var rfl) fun H14 e14 => go_nil ⟨c, B9, _, rfl, by omega, at_ex hA e14, fun p ks B15 H15 b15 hp hd hA => ?_⟩))
    refine (en_cat (K := K) (en_lcR1 (K := K) (n := 12) (fun _ => true) (fun i => .bool (decide ((i : Int) = (c : Int)))) (ea_cons ev_c ea_nil) (by decide) (fun _ => rfl) (fun i hi => et_nil) (fun i hi _ => ed_bool (ev_op (ev_var rfl) (ev_var rfl) rv_eqI))) (en_lst (K := K) (eds_cons (ed_bool ev_c) eds_nil) (by decide)) (by unfold givenD; rw [List.length_map, List.filter_eq_self.mpr fun _ _ => rfl, List.length_range, List.length_singleton]; decide)) H15 (Ex.refl H15) _ fun p2 ks2 H16 np2 e16 hp2 hd2 => ?_
    have heq : givenD (12 : Int).toNat (fun _ => true) (fun i => PyData.bool (decide ((i : Int) = (c : Int)))) ++ [.bool true] = kindsD c := by
      unfold givenD kindsD
      congr 1
      rw [List.filter_eq_self.mpr fun _ _ => rfl]
      refine List.map_congr_left fun k _ => ?_
      congr 1
      exact decide_eq_decide.mpr ⟨fun h => by omega, fun h => by omega⟩
    have hsh : SeqAt.shaped (.list (kindsD c)) = true := (sd_list (n := 1) (ds := kindsD c) fun x hx => by
      unfold kindsD at hx
      rcases List.mem_append.mp hx with hx | hx
      · obtain ⟨k, _, rfl⟩ := List.mem_map.mp hx
        exact sd_bool
      · rw [List.mem_singleton.mp hx]
        exact sd_bool).shaped (by decide)
    have hself : PyData.eqv (.list (kindsD c)) (.list (kindsD c)) = true := (sd_list (n := 1) (ds := kindsD c) fun x hx => by
      unfold kindsD at hx
      rcases List.mem_append.mp hx with hx | hx
      · obtain ⟨k, _, rfl⟩ := List.mem_map.mp hx
        exact sd_bool
      · rw [List.mem_singleton.mp hx]
        exact sd_bool).self
    rw [heq] at hd2
    refine ⟨.list (kindsD c), .list (kindsD c), .lst (sq_of (((at_base hA).trans e16) _ _ hp)) (dpa_mono ((at_base hA).trans e16) _ _ hd), .lst (sq_of hp2) (dpa_mono (ov_ex (Ex.refl H15) e16) _ _ hd2), hsh, hsh, ?_⟩
    rw [hself]
    exact q H16

def kRow (K : PySem.W.Frag) (x y : Str) : Option Bool := match PySem.W.nsIn K mainGlobals x, PySem.W.nsIn K mainGlobals y with
  | some (some (.ref A)), some (some (.ref B)) => if PySem.W.hasDictIn K B && (match PySem.W.typeIn K (.ref B) with | some (.type t) => t == "type" | _ => false) then (match PySem.W.subIn K (.ref A) (.ref B) with | some true => some true | some false => if A = B then none else some false | none => none) else none
  | _, _ => none
theorem kRow_kit {K : PySem.W.Frag} {x y : Str} {A B : Addr} {b : Bool} (hx : PySem.W.nsIn K mainGlobals x = some (some (.ref A))) (hy : PySem.W.nsIn K mainGlobals y = some (some (.ref B))) (e : kRow K x y = some b) : PySem.W.kitOne K (.ref A) (.ref B) = some b := by
  unfold kRow at e
  rw [hx, hy] at e
  dsimp only at e
  by_cases h : (PySem.W.hasDictIn K B && (match PySem.W.typeIn K (.ref B) with | some (.type t) => t == "type" | _ => false)) = true
  · rw [if_pos h] at e
    rw [Bool.and_eq_true] at h
    obtain ⟨h1, h2⟩ := h
    have ht : PySem.W.typeIn K (.ref B) = some (.type "type") := by
      split at h2
      · rename_i t q
        rw [q, eq_of_beq h2]
      · cases h2
    split at e
    · rename_i q
      cases e
      exact kit_ownB h1 ht q (fun h => nomatch h)
    · rename_i q
      split at e
      · cases e
      · rename_i hne
        cases e
        refine kit_ownB h1 ht q (fun _ => ?_)
        exact beq_eq_false_iff_ne.mpr fun h => hne (by cases h; rfl)
    · cases e
  · rw [if_neg h] at e
    cases e
def kAll (K : PySem.W.Frag) (nm : List Str) (n m : Nat) : Bool := (List.range n).all fun i => (List.range m).all fun j => kRow K (nm.getD i "") (nm.getD j "") == some (decide (i = j))
theorem ns_at {K : PySem.W.Frag} {h : Heap} {x : Str} {v : Value} (X : K.In h) (e : PySem.W.nsIn K mainGlobals x = some (some v)) : PySem.W.nsIn K mainGlobals x = some (some v) := e
theorem kAll_kk {K : PySem.W.Frag} {hp : Heap} {nm : List Str} {n m : Nat} {Cs : List Addr} (X : K.In hp) (h : kAll K nm n m = true) (hn : ∀ i, i < n → PySem.W.nsIn K mainGlobals (nm.getD i "") = some (some (.ref (clsAt Cs i)))) (hm : m ≤ n) : ∀ i j, i < n → j < m → PySem.W.kitOne K (.ref (clsAt Cs i)) (.ref (clsAt Cs j)) = some (decide (i = j)) := by
  intro i j hi hj
  have h1 := List.all_eq_true.mp (List.all_eq_true.mp h i (List.mem_range.mpr hi)) j (List.mem_range.mpr hj)
  exact kRow_kit (hn i hi) (hn j (by omega)) (eq_of_beq h1)
def mRow (K : PySem.W.Frag) (x y : Str) : Bool := match PySem.W.nsIn K mainGlobals x, PySem.W.nsIn K mainGlobals y with
  | some (some (.ref A)), some (some (.ref B)) => PySem.W.hasDictIn K B && (match PySem.W.typeIn K (.ref B) with | some (.type t) => t == "type" | _ => false) && (PySem.W.subIn K (.ref A) (.ref B) == some true) && (PySem.W.subIn K (.ref B) (.type "BaseException") == some true)
  | _, _ => false
theorem mRow_exm {K : PySem.W.Frag} {x y : Str} {A B : Addr} (hx : PySem.W.nsIn K mainGlobals x = some (some (.ref A))) (hy : PySem.W.nsIn K mainGlobals y = some (some (.ref B))) (e : mRow K x y = true) : PySem.W.exmOne K (.ref A) (.ref B) = some true := by
  unfold mRow at e
  rw [hx, hy] at e
  dsimp only at e
  rw [Bool.and_eq_true, Bool.and_eq_true, Bool.and_eq_true] at e
  obtain ⟨⟨⟨h1, h2⟩, h3⟩, h4⟩ := e
  have ht : PySem.W.typeIn K (.ref B) = some (.type "type") := by
    split at h2
    · rename_i t q
      rw [q, eq_of_beq h2]
    · cases h2
  exact PySem.W.exm_ref (eq_of_beq h4) h1 ht (eq_of_beq h3)
theorem mAll_mm {K : PySem.W.Frag} {hp : Heap} {nm : List Str} {y : Str} {n : Nat} {Cs : List Addr} {D : Addr} (X : K.In hp) (h : ((List.range n).all fun i => mRow K (nm.getD i "") y) = true) (hn : ∀ i, i < n → PySem.W.nsIn K mainGlobals (nm.getD i "") = some (some (.ref (clsAt Cs i)))) (hy : PySem.W.nsIn K mainGlobals y = some (some (.ref D))) : ∀ i, i < n → PySem.W.exmOne K (.ref (clsAt Cs i)) (.ref D) = some true :=
  fun i hi => mRow_exm (hn i hi) hy (List.all_eq_true.mp h i (List.mem_range.mpr hi))
theorem ok_law {C_BadValue C_BadWords C_BadBlock C_BadPath C_BadCommand C_OutOfRange C_Busy C_TooFew C_PowerLoss C_MachineDown C_Destroyed C_Unknown C_HallError B_BadValue B_BadWords B_BadBlock B_BadPath B_BadCommand B_OutOfRange B_Busy B_TooFew B_PowerLoss B_MachineDown B_Destroyed B_Unknown B_HallError f f_is_integer f_is_number f_is_text f__may_stand_in_text f_take_value f_from_words f__take_within f__word_pair f__take_items f__law_pool f__law_next f__law_char f__law_some_text f__law_good f__law_same f__law_words f__law_tree f__law_word f__law_list f__law_integer f__law_text f__law_read f__law_asked f__law_raise f__law_kinds : Addr} {fd fd_is_integer fd_is_number fd_is_text fd__may_stand_in_text fd_take_value fd_from_words fd__take_within fd__word_pair fd__take_items fd__law_pool fd__law_next fd__law_char fd__law_some_text fd__law_good fd__law_same fd__law_words fd__law_tree fd__law_word fd__law_list fd__law_integer fd__law_text fd__law_read fd__law_asked fd__law_raise fd__law_kinds : FuncData} {tN tT tP tD : Tok} (F : Fun K "law" "law" s_law f fd)
    (D_is_integer : Df K mg "is_integer" s_is_integer ["thing"] f_is_integer fd_is_integer)
    (D_is_number : Df K mg "is_number" s_is_number ["thing"] f_is_number fd_is_number)
    (D_is_text : Df K mg "is_text" s_is_text ["thing"] f_is_text fd_is_text)
    (D__may_stand_in_text : Df K mg "_may_stand_in_text" s__may_stand_in_text ["code"] f__may_stand_in_text fd__may_stand_in_text)
    (D_take_value : Df K mg "take_value" s_take_value ["words", "at"] f_take_value fd_take_value)
    (D_from_words : Df K mg "from_words" s_from_words ["words"] f_from_words fd_from_words)
    (D__take_within : Df K mg "_take_within" s__take_within ["words", "at", "levels"] f__take_within fd__take_within)
    (D__word_pair : Df K mg "_word_pair" s__word_pair ["words", "at"] f__word_pair fd__word_pair)
    (D__take_items : Df K mg "_take_items" s__take_items ["words", "at", "count", "levels"] f__take_items fd__take_items)
    (D__law_pool : Df K mg "_law_pool" s__law_pool ["script", "at"] f__law_pool fd__law_pool)
    (D__law_next : Df K mg "_law_next" s__law_next ["pool", "many"] f__law_next fd__law_next)
    (D__law_char : Df K mg "_law_char" s__law_char ["draw"] f__law_char fd__law_char)
    (D__law_some_text : Df K mg "_law_some_text" s__law_some_text ["pool", "most"] f__law_some_text fd__law_some_text)
    (D__law_good : Df K mg "_law_good" s__law_good ["pool"] f__law_good fd__law_good)
    (D__law_same : Df K mg "_law_same" s__law_same ["actual", "due"] f__law_same fd__law_same)
    (D__law_words : Df K mg "_law_words" s__law_words ["atom"] f__law_words fd__law_words)
    (D__law_tree : Df K mg "_law_tree" s__law_tree ["pool", "steps"] f__law_tree fd__law_tree)
    (D__law_word : Df K mg "_law_word" s__law_word ["pool"] f__law_word fd__law_word)
    (D__law_list : Df K mg "_law_list" s__law_list ["pool"] f__law_list fd__law_list)
    (D__law_integer : Df K mg "_law_integer" s__law_integer ["word"] f__law_integer fd__law_integer)
    (D__law_text : Df K mg "_law_text" s__law_text ["word"] f__law_text fd__law_text)
    (D__law_read : Df K mg "_law_read" s__law_read ["words"] f__law_read fd__law_read)
    (D__law_asked : Df K mg "_law_asked" s__law_asked ["words", "whole"] f__law_asked fd__law_asked)
    (D__law_raise : Df K mg "_law_raise" s__law_raise ["choice"] f__law_raise fd__law_raise)
    (D__law_kinds : Df K mg "_law_kinds" s__law_kinds ["choice"] f__law_kinds fd__law_kinds)
    (c_NUMBER_MOST : mg "NUMBER_MOST" = some (.int (10 ^ 18) tN)) (c_TEXT_MOST : mg "TEXT_MOST" = some (.int 200 tT)) (c_DEPTH_MOST : mg "DEPTH_MOST" = some (.int 12 tD)) (c__PERCENT : mg "_PERCENT" = some (.int 37 tP))
    (E_BadValue : Err K mg "BadValue" C_BadValue B_BadValue) (E_BadWords : Err K mg "BadWords" C_BadWords B_BadWords) (E_BadBlock : Err K mg "BadBlock" C_BadBlock B_BadBlock) (E_BadPath : Err K mg "BadPath" C_BadPath B_BadPath) (E_BadCommand : Err K mg "BadCommand" C_BadCommand B_BadCommand) (E_OutOfRange : Err K mg "OutOfRange" C_OutOfRange B_OutOfRange) (E_Busy : Err K mg "Busy" C_Busy B_Busy) (E_TooFew : Err K mg "TooFew" C_TooFew B_TooFew) (E_PowerLoss : Err K mg "PowerLoss" C_PowerLoss B_PowerLoss) (E_MachineDown : Err K mg "MachineDown" C_MachineDown B_MachineDown) (E_Destroyed : Err K mg "Destroyed" C_Destroyed B_Destroyed) (E_Unknown : Err K mg "Unknown" C_Unknown B_Unknown) (E_HallError : Err K mg "HallError" C_HallError B_HallError)
     (g_BadValue_HallError : mg "HallError" = some (.ref B_BadValue))
     (g_BadWords_HallError : mg "HallError" = some (.ref B_BadWords))
     (g_BadBlock_HallError : mg "HallError" = some (.ref B_BadBlock))
     (g_BadPath_HallError : mg "HallError" = some (.ref B_BadPath))
     (g_BadCommand_HallError : mg "HallError" = some (.ref B_BadCommand))
     (g_OutOfRange_HallError : mg "HallError" = some (.ref B_OutOfRange))
     (g_Busy_HallError : mg "HallError" = some (.ref B_Busy))
     (g_TooFew_HallError : mg "HallError" = some (.ref B_TooFew))
     (g_PowerLoss_HallError : mg "HallError" = some (.ref B_PowerLoss))
     (g_MachineDown_HallError : mg "HallError" = some (.ref B_MachineDown))
     (g_Destroyed_HallError : mg "HallError" = some (.ref B_Destroyed))
     (g_Unknown_HallError : mg "HallError" = some (.ref B_Unknown))
    (KK : ∀ i j : Nat, i ≤ 12 → j < 12 → PySem.W.kitOne K (.ref (clsAt [C_BadValue, C_BadWords, C_BadBlock, C_BadPath, C_BadCommand, C_OutOfRange, C_Busy, C_TooFew, C_PowerLoss, C_MachineDown, C_Destroyed, C_Unknown, C_HallError] i)) (.ref (clsAt [C_BadValue, C_BadWords, C_BadBlock, C_BadPath, C_BadCommand, C_OutOfRange, C_Busy, C_TooFew, C_PowerLoss, C_MachineDown, C_Destroyed, C_Unknown, C_HallError] j)) = some (decide (i = j))) (MM : ∀ i : Nat, i ≤ 12 → PySem.W.exmOne K (.ref (clsAt [C_BadValue, C_BadWords, C_BadBlock, C_BadPath, C_BadCommand, C_OutOfRange, C_Busy, C_TooFew, C_PowerLoss, C_MachineDown, C_Destroyed, C_Unknown, C_HallError] i)) (.ref C_HallError) = some true) (T : Glo mg) : FnOk P w K mg base CX0 40 f fd ["script"] (spLaw K) := by
  obtain rfl : C_HallError = B_BadValue := Value.ref.inj (Option.some.inj (E_HallError.g.symm.trans g_BadValue_HallError))
  obtain rfl : C_HallError = B_BadWords := Value.ref.inj (Option.some.inj (E_HallError.g.symm.trans g_BadWords_HallError))
  obtain rfl : C_HallError = B_BadBlock := Value.ref.inj (Option.some.inj (E_HallError.g.symm.trans g_BadBlock_HallError))
  obtain rfl : C_HallError = B_BadPath := Value.ref.inj (Option.some.inj (E_HallError.g.symm.trans g_BadPath_HallError))
  obtain rfl : C_HallError = B_BadCommand := Value.ref.inj (Option.some.inj (E_HallError.g.symm.trans g_BadCommand_HallError))
  obtain rfl : C_HallError = B_OutOfRange := Value.ref.inj (Option.some.inj (E_HallError.g.symm.trans g_OutOfRange_HallError))
  obtain rfl : C_HallError = B_Busy := Value.ref.inj (Option.some.inj (E_HallError.g.symm.trans g_Busy_HallError))
  obtain rfl : C_HallError = B_TooFew := Value.ref.inj (Option.some.inj (E_HallError.g.symm.trans g_TooFew_HallError))
  obtain rfl : C_HallError = B_PowerLoss := Value.ref.inj (Option.some.inj (E_HallError.g.symm.trans g_PowerLoss_HallError))
  obtain rfl : C_HallError = B_MachineDown := Value.ref.inj (Option.some.inj (E_HallError.g.symm.trans g_MachineDown_HallError))
  obtain rfl : C_HallError = B_Destroyed := Value.ref.inj (Option.some.inj (E_HallError.g.symm.trans g_Destroyed_HallError))
  obtain rfl : C_HallError = B_Unknown := Value.ref.inj (Option.some.inj (E_HallError.g.symm.trans g_Unknown_HallError))
  have G_is_integer : FnOk P w K mg base CX0 1 f_is_integer fd_is_integer _ _ := ok_is_integer (n := 12) D_is_integer.F c_NUMBER_MOST T
  have G_is_number : FnOk P w K mg base CX0 2 f_is_number fd_is_number _ _ := ok_is_number (n := 12) D_is_number.F D_is_integer c_NUMBER_MOST T
  have G_is_text : FnOk P w K mg base CX0 2 f_is_text fd_is_text _ _ := ok_is_text (n := 12) D_is_text.F D__may_stand_in_text c_TEXT_MOST c__PERCENT T
  have G__word_pair : FnOk P w K mg base (L2.CX P w) 1 f__word_pair fd__word_pair _ _ := ok_pair D__word_pair.F E_BadWords T
  have G__take_within : FnOk P w K mg base (L2.CX P w) 27 f__take_within fd__take_within _ _ := ok_twithin D__take_within D__word_pair G__word_pair D_is_text G_is_text D_is_integer G_is_integer D_is_number G_is_number D__take_items E_BadWords T 12
  have G_take_value : FnOk P w K mg base (L2.CX P w) 28 f_take_value fd_take_value _ _ := ok_take D_take_value.F D__take_within G__take_within c_DEPTH_MOST T
  have G_from_words : FnOk P w K mg base (L2.CX P w) 29 f_from_words fd_from_words _ _ := ok_from D_from_words.F D_take_value G_take_value E_BadWords T
  have G__law_pool : FnOk P w K mg base CX0 1 f__law_pool fd__law_pool _ _ := ok_lpool D__law_pool.F T
  have G__law_next : FnOk P w K mg base CX0 1 f__law_next fd__law_next _ _ := ok_pnext D__law_next.F T
  have G__law_char : FnOk P w K mg base CX0 1 f__law_char fd__law_char _ _ := ok_char D__law_char.F T
  have G__law_some_text : FnOk P w K mg base CX0 2 f__law_some_text fd__law_some_text _ _ := ok_some D__law_some_text.F D__law_next G__law_next D__law_char G__law_char T
  have G__law_good : FnOk P w K mg base CX0 3 f__law_good fd__law_good _ _ := ok_good D__law_good.F D__law_next G__law_next D__law_some_text G__law_some_text T
  have G__law_same : FnOk P w K mg base CX0 14 f__law_same fd__law_same _ _ := ok_same D__law_same T 13
  have G__law_words : FnOk P w K mg base CX0 1 f__law_words fd__law_words _ _ := ok_lwords D__law_words.F T
  have G__law_tree : FnOk P w K mg base CX0 4 f__law_tree fd__law_tree _ _ := ok_tree D__law_tree.F D__law_next G__law_next D__law_good G__law_good D__law_words G__law_words T
  have G__law_word : FnOk P w K mg base CX0 4 f__law_word fd__law_word _ _ := ok_word D__law_word.F D__law_next G__law_next D__law_good G__law_good T
  have G__law_list : FnOk P w K mg base CX0 5 f__law_list fd__law_list _ _ := ok_wlist D__law_list.F D__law_next G__law_next D__law_word G__law_word D__law_tree G__law_tree T
  have G__law_integer : FnOk P w K mg base CX0 1 f__law_integer fd__law_integer _ _ := ok_linteger (n := 12) D__law_integer.F T
  have G__law_text : FnOk P w K mg base CX0 1 f__law_text fd__law_text _ _ := ok_ltext D__law_text.F T
  have G__law_read : FnOk P w K mg base CX0 2 f__law_read fd__law_read _ _ := ok_lread D__law_read.F D__law_integer G__law_integer D__law_text G__law_text T
  have K_BadWords : PySem.W.kitOne K (.ref C_BadWords) (.ref C_BadWords) = some true := KK 1 1 (by decide) (by decide)
  have M_BadWords_HallError : PySem.W.exmOne K (.ref C_BadWords) (.ref C_HallError) = some true := MM 1 (by decide)
  have N_BadWords_BadValue : PySem.W.kitOne K (.ref C_BadWords) (.ref C_BadValue) = some false := KK 1 0 (by decide) (by decide)
  have G__law_asked : FnOk P w K mg base CX0 30 f__law_asked fd__law_asked _ _ := ok_asked D__law_asked.F D_take_value G_take_value D_from_words G_from_words E_BadWords E_HallError.g E_BadValue.g K_BadWords M_BadWords_HallError N_BadWords_BadValue T
  have G__law_raise : FnOk P w K mg base (L2.CX P w) 1 f__law_raise fd__law_raise _ _ := ok_raise D__law_raise.F E_BadValue E_BadWords E_BadBlock E_BadPath E_BadCommand E_OutOfRange E_Busy E_TooFew E_PowerLoss E_MachineDown E_Destroyed E_Unknown E_HallError T
  have G__law_kinds : FnOk P w K mg base CX0 2 f__law_kinds fd__law_kinds _ _ := ok_kinds D__law_kinds.F D__law_raise G__law_raise E_BadValue E_BadWords E_BadBlock E_BadPath E_BadCommand E_OutOfRange E_Busy E_TooFew E_PowerLoss E_MachineDown E_Destroyed E_Unknown E_HallError KK MM T
  exact ok_lawG5 F D__law_pool G__law_pool D__law_next G__law_next D__law_list G__law_list D__law_read G__law_read D__law_asked G__law_asked D__law_same G__law_same D__law_kinds G__law_kinds T

end
end Ap
open PySem PySem.W PyProof.Rows
set_option maxHeartbeats 0 in
theorem PySem.Challenge.cw_appendhall_k05_spoilt_words_holds : PySem.Challenge.rw_appendhall_k05_spoilt_words.Holds := by
  w_on; o_law; k_head; (case hw => w_witness2)
  k_fill
  refine Ap.walk_ofX (l := PySem.Challenge.rw_appendhall_k05_spoilt_words) (n := 63) (k := 40) (x := "script") (CX := fun _ => L2.CX0) (sp := fun w => Ap.spLaw _) rfl (by decide) rfl ⟨rfl, by decide, by decide⟩ (fun w h Y => PySem.W.kIn_of Y) ?F (fun _ _ a ns hl _ hS => ⟨a, ns, rfl, hS, hl, fun _ => rfl⟩) (fun _ _ _ _ _ h => h)
  case F =>
    intro w mg fa h KX G XG hmg
    obtain ⟨C_BadValue, B_BadValue, E_BadValue, g_BadValue_HallError, n_BadValue⟩ : ∃ C B, Ap.Err _ mg "BadValue" C B ∧ mg "HallError" = some (.ref B) ∧ PySem.W.nsIn _ mainGlobals "BadValue" = some (some (.ref C)) := by
      refine' ⟨_, _, (Ap.err_mk (y := "HallError") KX G ?aC ?aB ?kp ?ex ?bs ?ty ?ss ?hg ?hk ?hd ?ha ?hn ?ht ?hm ?dB ?tB ?sb ?sv).1, (PySem.W.mg_of KX G ?aB2), Ap.ns_at KX ?nx⟩
      (case aC => k_is)
      (case aB => k_is)
      (case kp => k_is)
      (case ex => k_exc)
      (case bs => k_is)
      (case ty => k_is)
      (case ss => k_is)
      (case hg => k_is)
      (case hk => k_is)
      (case hd => k_is)
      (case ha => k_is)
      (case hn => k_is)
      (case ht => k_is)
      (case hm => k_is)
      (case dB => k_is)
      (case tB => k_is)
      (case sb => k_is)
      (case sv => k_is)
      (case aB2 => k_is); (case nx => k_is)
    obtain ⟨C_BadWords, B_BadWords, E_BadWords, g_BadWords_HallError, n_BadWords⟩ : ∃ C B, Ap.Err _ mg "BadWords" C B ∧ mg "HallError" = some (.ref B) ∧ PySem.W.nsIn _ mainGlobals "BadWords" = some (some (.ref C)) := by
      refine' ⟨_, _, (Ap.err_mk (y := "HallError") KX G ?aC ?aB ?kp ?ex ?bs ?ty ?ss ?hg ?hk ?hd ?ha ?hn ?ht ?hm ?dB ?tB ?sb ?sv).1, (PySem.W.mg_of KX G ?aB2), Ap.ns_at KX ?nx⟩
      (case aC => k_is)
      (case aB => k_is)
      (case kp => k_is)
      (case ex => k_exc)
      (case bs => k_is)
      (case ty => k_is)
      (case ss => k_is)
      (case hg => k_is)
      (case hk => k_is)
      (case hd => k_is)
      (case ha => k_is)
      (case hn => k_is)
      (case ht => k_is)
      (case hm => k_is)
      (case dB => k_is)
      (case tB => k_is)
      (case sb => k_is)
      (case sv => k_is)
      (case aB2 => k_is); (case nx => k_is)
    obtain ⟨C_BadBlock, B_BadBlock, E_BadBlock, g_BadBlock_HallError, n_BadBlock⟩ : ∃ C B, Ap.Err _ mg "BadBlock" C B ∧ mg "HallError" = some (.ref B) ∧ PySem.W.nsIn _ mainGlobals "BadBlock" = some (some (.ref C)) := by
      refine' ⟨_, _, (Ap.err_mk (y := "HallError") KX G ?aC ?aB ?kp ?ex ?bs ?ty ?ss ?hg ?hk ?hd ?ha ?hn ?ht ?hm ?dB ?tB ?sb ?sv).1, (PySem.W.mg_of KX G ?aB2), Ap.ns_at KX ?nx⟩
      (case aC => k_is)
      (case aB => k_is)
      (case kp => k_is)
      (case ex => k_exc)
      (case bs => k_is)
      (case ty => k_is)
      (case ss => k_is)
      (case hg => k_is)
      (case hk => k_is)
      (case hd => k_is)
      (case ha => k_is)
      (case hn => k_is)
      (case ht => k_is)
      (case hm => k_is)
      (case dB => k_is)
      (case tB => k_is)
      (case sb => k_is)
      (case sv => k_is)
      (case aB2 => k_is); (case nx => k_is)
    obtain ⟨C_BadPath, B_BadPath, E_BadPath, g_BadPath_HallError, n_BadPath⟩ : ∃ C B, Ap.Err _ mg "BadPath" C B ∧ mg "HallError" = some (.ref B) ∧ PySem.W.nsIn _ mainGlobals "BadPath" = some (some (.ref C)) := by
      refine' ⟨_, _, (Ap.err_mk (y := "HallError") KX G ?aC ?aB ?kp ?ex ?bs ?ty ?ss ?hg ?hk ?hd ?ha ?hn ?ht ?hm ?dB ?tB ?sb ?sv).1, (PySem.W.mg_of KX G ?aB2), Ap.ns_at KX ?nx⟩
      (case aC => k_is)
      (case aB => k_is)
      (case kp => k_is)
      (case ex => k_exc)
      (case bs => k_is)
      (case ty => k_is)
      (case ss => k_is)
      (case hg => k_is)
      (case hk => k_is)
      (case hd => k_is)
      (case ha => k_is)
      (case hn => k_is)
      (case ht => k_is)
      (case hm => k_is)
      (case dB => k_is)
      (case tB => k_is)
      (case sb => k_is)
      (case sv => k_is)
      (case aB2 => k_is); (case nx => k_is)
    obtain ⟨C_BadCommand, B_BadCommand, E_BadCommand, g_BadCommand_HallError, n_BadCommand⟩ : ∃ C B, Ap.Err _ mg "BadCommand" C B ∧ mg "HallError" = some (.ref B) ∧ PySem.W.nsIn _ mainGlobals "BadCommand" = some (some (.ref C)) := by
      refine' ⟨_, _, (Ap.err_mk (y := "HallError") KX G ?aC ?aB ?kp ?ex ?bs ?ty ?ss ?hg ?hk ?hd ?ha ?hn ?ht ?hm ?dB ?tB ?sb ?sv).1, (PySem.W.mg_of KX G ?aB2), Ap.ns_at KX ?nx⟩
      (case aC => k_is)
      (case aB => k_is)
      (case kp => k_is)
      (case ex => k_exc)
      (case bs => k_is)
      (case ty => k_is)
      (case ss => k_is)
      (case hg => k_is)
      (case hk => k_is)
      (case hd => k_is)
      (case ha => k_is)
      (case hn => k_is)
      (case ht => k_is)
      (case hm => k_is)
      (case dB => k_is)
      (case tB => k_is)
      (case sb => k_is)
      (case sv => k_is)
      (case aB2 => k_is); (case nx => k_is)
    obtain ⟨C_OutOfRange, B_OutOfRange, E_OutOfRange, g_OutOfRange_HallError, n_OutOfRange⟩ : ∃ C B, Ap.Err _ mg "OutOfRange" C B ∧ mg "HallError" = some (.ref B) ∧ PySem.W.nsIn _ mainGlobals "OutOfRange" = some (some (.ref C)) := by
      refine' ⟨_, _, (Ap.err_mk (y := "HallError") KX G ?aC ?aB ?kp ?ex ?bs ?ty ?ss ?hg ?hk ?hd ?ha ?hn ?ht ?hm ?dB ?tB ?sb ?sv).1, (PySem.W.mg_of KX G ?aB2), Ap.ns_at KX ?nx⟩
      (case aC => k_is)
      (case aB => k_is)
      (case kp => k_is)
      (case ex => k_exc)
      (case bs => k_is)
      (case ty => k_is)
      (case ss => k_is)
      (case hg => k_is)
      (case hk => k_is)
      (case hd => k_is)
      (case ha => k_is)
      (case hn => k_is)
      (case ht => k_is)
      (case hm => k_is)
      (case dB => k_is)
      (case tB => k_is)
      (case sb => k_is)
      (case sv => k_is)
      (case aB2 => k_is); (case nx => k_is)
    obtain ⟨C_Busy, B_Busy, E_Busy, g_Busy_HallError, n_Busy⟩ : ∃ C B, Ap.Err _ mg "Busy" C B ∧ mg "HallError" = some (.ref B) ∧ PySem.W.nsIn _ mainGlobals "Busy" = some (some (.ref C)) := by
      refine' ⟨_, _, (Ap.err_mk (y := "HallError") KX G ?aC ?aB ?kp ?ex ?bs ?ty ?ss ?hg ?hk ?hd ?ha ?hn ?ht ?hm ?dB ?tB ?sb ?sv).1, (PySem.W.mg_of KX G ?aB2), Ap.ns_at KX ?nx⟩
      (case aC => k_is)
      (case aB => k_is)
      (case kp => k_is)
      (case ex => k_exc)
      (case bs => k_is)
      (case ty => k_is)
      (case ss => k_is)
      (case hg => k_is)
      (case hk => k_is)
      (case hd => k_is)
      (case ha => k_is)
      (case hn => k_is)
      (case ht => k_is)
      (case hm => k_is)
      (case dB => k_is)
      (case tB => k_is)
      (case sb => k_is)
      (case sv => k_is)
      (case aB2 => k_is); (case nx => k_is)
    obtain ⟨C_TooFew, B_TooFew, E_TooFew, g_TooFew_HallError, n_TooFew⟩ : ∃ C B, Ap.Err _ mg "TooFew" C B ∧ mg "HallError" = some (.ref B) ∧ PySem.W.nsIn _ mainGlobals "TooFew" = some (some (.ref C)) := by
      refine' ⟨_, _, (Ap.err_mk (y := "HallError") KX G ?aC ?aB ?kp ?ex ?bs ?ty ?ss ?hg ?hk ?hd ?ha ?hn ?ht ?hm ?dB ?tB ?sb ?sv).1, (PySem.W.mg_of KX G ?aB2), Ap.ns_at KX ?nx⟩
      (case aC => k_is)
      (case aB => k_is)
      (case kp => k_is)
      (case ex => k_exc)
      (case bs => k_is)
      (case ty => k_is)
      (case ss => k_is)
      (case hg => k_is)
      (case hk => k_is)
      (case hd => k_is)
      (case ha => k_is)
      (case hn => k_is)
      (case ht => k_is)
      (case hm => k_is)
      (case dB => k_is)
      (case tB => k_is)
      (case sb => k_is)
      (case sv => k_is)
      (case aB2 => k_is); (case nx => k_is)
    obtain ⟨C_PowerLoss, B_PowerLoss, E_PowerLoss, g_PowerLoss_HallError, n_PowerLoss⟩ : ∃ C B, Ap.Err _ mg "PowerLoss" C B ∧ mg "HallError" = some (.ref B) ∧ PySem.W.nsIn _ mainGlobals "PowerLoss" = some (some (.ref C)) := by
      refine' ⟨_, _, (Ap.err_mk (y := "HallError") KX G ?aC ?aB ?kp ?ex ?bs ?ty ?ss ?hg ?hk ?hd ?ha ?hn ?ht ?hm ?dB ?tB ?sb ?sv).1, (PySem.W.mg_of KX G ?aB2), Ap.ns_at KX ?nx⟩
      (case aC => k_is)
      (case aB => k_is)
      (case kp => k_is)
      (case ex => k_exc)
      (case bs => k_is)
      (case ty => k_is)
      (case ss => k_is)
      (case hg => k_is)
      (case hk => k_is)
      (case hd => k_is)
      (case ha => k_is)
      (case hn => k_is)
      (case ht => k_is)
      (case hm => k_is)
      (case dB => k_is)
      (case tB => k_is)
      (case sb => k_is)
      (case sv => k_is)
      (case aB2 => k_is); (case nx => k_is)
    obtain ⟨C_MachineDown, B_MachineDown, E_MachineDown, g_MachineDown_HallError, n_MachineDown⟩ : ∃ C B, Ap.Err _ mg "MachineDown" C B ∧ mg "HallError" = some (.ref B) ∧ PySem.W.nsIn _ mainGlobals "MachineDown" = some (some (.ref C)) := by
      refine' ⟨_, _, (Ap.err_mk (y := "HallError") KX G ?aC ?aB ?kp ?ex ?bs ?ty ?ss ?hg ?hk ?hd ?ha ?hn ?ht ?hm ?dB ?tB ?sb ?sv).1, (PySem.W.mg_of KX G ?aB2), Ap.ns_at KX ?nx⟩
      (case aC => k_is)
      (case aB => k_is)
      (case kp => k_is)
      (case ex => k_exc)
      (case bs => k_is)
      (case ty => k_is)
      (case ss => k_is)
      (case hg => k_is)
      (case hk => k_is)
      (case hd => k_is)
      (case ha => k_is)
      (case hn => k_is)
      (case ht => k_is)
      (case hm => k_is)
      (case dB => k_is)
      (case tB => k_is)
      (case sb => k_is)
      (case sv => k_is)
      (case aB2 => k_is); (case nx => k_is)
    obtain ⟨C_Destroyed, B_Destroyed, E_Destroyed, g_Destroyed_HallError, n_Destroyed⟩ : ∃ C B, Ap.Err _ mg "Destroyed" C B ∧ mg "HallError" = some (.ref B) ∧ PySem.W.nsIn _ mainGlobals "Destroyed" = some (some (.ref C)) := by
      refine' ⟨_, _, (Ap.err_mk (y := "HallError") KX G ?aC ?aB ?kp ?ex ?bs ?ty ?ss ?hg ?hk ?hd ?ha ?hn ?ht ?hm ?dB ?tB ?sb ?sv).1, (PySem.W.mg_of KX G ?aB2), Ap.ns_at KX ?nx⟩
      (case aC => k_is)
      (case aB => k_is)
      (case kp => k_is)
      (case ex => k_exc)
      (case bs => k_is)
      (case ty => k_is)
      (case ss => k_is)
      (case hg => k_is)
      (case hk => k_is)
      (case hd => k_is)
      (case ha => k_is)
      (case hn => k_is)
      (case ht => k_is)
      (case hm => k_is)
      (case dB => k_is)
      (case tB => k_is)
      (case sb => k_is)
      (case sv => k_is)
      (case aB2 => k_is); (case nx => k_is)
    obtain ⟨C_Unknown, B_Unknown, E_Unknown, g_Unknown_HallError, n_Unknown⟩ : ∃ C B, Ap.Err _ mg "Unknown" C B ∧ mg "HallError" = some (.ref B) ∧ PySem.W.nsIn _ mainGlobals "Unknown" = some (some (.ref C)) := by
      refine' ⟨_, _, (Ap.err_mk (y := "HallError") KX G ?aC ?aB ?kp ?ex ?bs ?ty ?ss ?hg ?hk ?hd ?ha ?hn ?ht ?hm ?dB ?tB ?sb ?sv).1, (PySem.W.mg_of KX G ?aB2), Ap.ns_at KX ?nx⟩
      (case aC => k_is)
      (case aB => k_is)
      (case kp => k_is)
      (case ex => k_exc)
      (case bs => k_is)
      (case ty => k_is)
      (case ss => k_is)
      (case hg => k_is)
      (case hk => k_is)
      (case hd => k_is)
      (case ha => k_is)
      (case hn => k_is)
      (case ht => k_is)
      (case hm => k_is)
      (case dB => k_is)
      (case tB => k_is)
      (case sb => k_is)
      (case sv => k_is)
      (case aB2 => k_is); (case nx => k_is)
    obtain ⟨C_HallError, B_HallError, E_HallError, g_HallError_HallError, n_HallError⟩ : ∃ C B, Ap.Err _ mg "HallError" C B ∧ mg "HallError" = some (.ref B) ∧ PySem.W.nsIn _ mainGlobals "HallError" = some (some (.ref C)) := by
      refine' ⟨_, _, (Ap.err_mk (y := "HallError") KX G ?aC ?aB ?kp ?ex ?bs ?ty ?ss ?hg ?hk ?hd ?ha ?hn ?ht ?hm ?dB ?tB ?sb ?sv).1, (PySem.W.mg_of KX G ?aB2), Ap.ns_at KX ?nx⟩
      (case aC => k_is)
      (case aB => k_is)
      (case kp => k_is)
      (case ex => k_exc)
      (case bs => k_is)
      (case ty => k_is)
      (case ss => k_is)
      (case hg => k_is)
      (case hk => k_is)
      (case hd => k_is)
      (case ha => k_is)
      (case hn => k_is)
      (case ht => k_is)
      (case hm => k_is)
      (case dB => k_is)
      (case tB => k_is)
      (case sb => k_is)
      (case sv => k_is)
      (case aB2 => k_is); (case nx => k_is)
    have KK := Ap.kAll_kk (nm := ["BadValue", "BadWords", "BadBlock", "BadPath", "BadCommand", "OutOfRange", "Busy", "TooFew", "PowerLoss", "MachineDown", "Destroyed", "Unknown", "HallError"]) (n := 13) (m := 12) (Cs := [C_BadValue, C_BadWords, C_BadBlock, C_BadPath, C_BadCommand, C_OutOfRange, C_Busy, C_TooFew, C_PowerLoss, C_MachineDown, C_Destroyed, C_Unknown, C_HallError]) KX (by kernel_rfl) (fun i hi => match i, hi with | 0, _ => n_BadValue | 1, _ => n_BadWords | 2, _ => n_BadBlock | 3, _ => n_BadPath | 4, _ => n_BadCommand | 5, _ => n_OutOfRange | 6, _ => n_Busy | 7, _ => n_TooFew | 8, _ => n_PowerLoss | 9, _ => n_MachineDown | 10, _ => n_Destroyed | 11, _ => n_Unknown | 12, _ => n_HallError | (n+13), h => absurd h (by omega)) (by decide)
    have MM := Ap.mAll_mm (nm := ["BadValue", "BadWords", "BadBlock", "BadPath", "BadCommand", "OutOfRange", "Busy", "TooFew", "PowerLoss", "MachineDown", "Destroyed", "Unknown", "HallError"]) (y := "HallError") (n := 13) (Cs := [C_BadValue, C_BadWords, C_BadBlock, C_BadPath, C_BadCommand, C_OutOfRange, C_Busy, C_TooFew, C_PowerLoss, C_MachineDown, C_Destroyed, C_Unknown, C_HallError]) (D := C_HallError) KX (by kernel_rfl) (fun i hi => match i, hi with | 0, _ => n_BadValue | 1, _ => n_BadWords | 2, _ => n_BadBlock | 3, _ => n_BadPath | 4, _ => n_BadCommand | 5, _ => n_OutOfRange | 6, _ => n_Busy | 7, _ => n_TooFew | 8, _ => n_PowerLoss | 9, _ => n_MachineDown | 10, _ => n_Destroyed | 11, _ => n_Unknown | 12, _ => n_HallError | (n+13), h => absurd h (by omega)) n_HallError
    obtain ⟨t_NUMBER_MOST, c_NUMBER_MOST⟩ : ∃ t, mg "NUMBER_MOST" = some (.int (1000000000000000000) t) := by
      obtain ⟨v, a, b⟩ := XG.2.val _ List.mem_cons_self
      cases b
      exact ⟨_, a⟩
    obtain ⟨t_TEXT_MOST, c_TEXT_MOST⟩ : ∃ t, mg "TEXT_MOST" = some (.int (200) t) := by
      refine' ⟨_, (PySem.W.mg_of KX G ?c).trans ?e⟩
      (case c => k_is)
      (case e => exact rfl)
    obtain ⟨t_DEPTH_MOST, c_DEPTH_MOST⟩ : ∃ t, mg "DEPTH_MOST" = some (.int (12) t) := by
      refine' ⟨_, (PySem.W.mg_of KX G ?c).trans ?e⟩
      (case c => k_is)
      (case e => exact rfl)
    obtain ⟨t__PERCENT, c__PERCENT⟩ : ∃ t, mg "_PERCENT" = some (.int (37) t) := by
      refine' ⟨_, (PySem.W.mg_of KX G ?c).trans ?e⟩
      (case c => k_is)
      (case e => exact rfl)
    obtain ⟨f_is_integer, fd_is_integer, D_is_integer⟩ : ∃ f fd, Ap.Df _ mg "is_integer" Ap.s_is_integer ["thing"] f fd := by
      refine' Ap.df_mk KX G ?a ?l ?c ?k ?b
      (case a => k_is); (case l => k_is); (case c => k_is); (case k => k_is); (case b => exact fun _ _ _ _ _ _ us hl => match us, hl with | [_], _ => rfl)
    obtain ⟨f_is_number, fd_is_number, D_is_number⟩ : ∃ f fd, Ap.Df _ mg "is_number" Ap.s_is_number ["thing"] f fd := by
      refine' Ap.df_mk KX G ?a ?l ?c ?k ?b
      (case a => k_is); (case l => k_is); (case c => k_is); (case k => k_is); (case b => exact fun _ _ _ _ _ _ us hl => match us, hl with | [_], _ => rfl)
    obtain ⟨f_is_text, fd_is_text, D_is_text⟩ : ∃ f fd, Ap.Df _ mg "is_text" Ap.s_is_text ["thing"] f fd := by
      refine' Ap.df_mk KX G ?a ?l ?c ?k ?b
      (case a => k_is); (case l => k_is); (case c => k_is); (case k => k_is); (case b => exact fun _ _ _ _ _ _ us hl => match us, hl with | [_], _ => rfl)
    obtain ⟨f__may_stand_in_text, fd__may_stand_in_text, D__may_stand_in_text⟩ : ∃ f fd, Ap.Df _ mg "_may_stand_in_text" Ap.s__may_stand_in_text ["code"] f fd := by
      refine' Ap.df_mk KX G ?a ?l ?c ?k ?b
      (case a => k_is); (case l => k_is); (case c => k_is); (case k => k_is); (case b => exact fun _ _ _ _ _ _ us hl => match us, hl with | [_], _ => rfl)
    obtain ⟨f_take_value, fd_take_value, D_take_value⟩ : ∃ f fd, Ap.Df _ mg "take_value" Ap.s_take_value ["words", "at"] f fd := by
      refine' Ap.df_mk KX G ?a ?l ?c ?k ?b
      (case a => k_is); (case l => k_is); (case c => k_is); (case k => k_is); (case b => exact fun _ _ _ _ _ _ us hl => match us, hl with | [_, _], _ => rfl)
    obtain ⟨f_from_words, fd_from_words, D_from_words⟩ : ∃ f fd, Ap.Df _ mg "from_words" Ap.s_from_words ["words"] f fd := by
      refine' Ap.df_mk KX G ?a ?l ?c ?k ?b
      (case a => k_is); (case l => k_is); (case c => k_is); (case k => k_is); (case b => exact fun _ _ _ _ _ _ us hl => match us, hl with | [_], _ => rfl)
    obtain ⟨f__take_within, fd__take_within, D__take_within⟩ : ∃ f fd, Ap.Df _ mg "_take_within" Ap.s__take_within ["words", "at", "levels"] f fd := by
      refine' Ap.df_mk KX G ?a ?l ?c ?k ?b
      (case a => k_is); (case l => k_is); (case c => k_is); (case k => k_is); (case b => exact fun _ _ _ _ _ _ us hl => match us, hl with | [_, _, _], _ => rfl)
    obtain ⟨f__word_pair, fd__word_pair, D__word_pair⟩ : ∃ f fd, Ap.Df _ mg "_word_pair" Ap.s__word_pair ["words", "at"] f fd := by
      refine' Ap.df_mk KX G ?a ?l ?c ?k ?b
      (case a => k_is); (case l => k_is); (case c => k_is); (case k => k_is); (case b => exact fun _ _ _ _ _ _ us hl => match us, hl with | [_, _], _ => rfl)
    obtain ⟨f__take_items, fd__take_items, D__take_items⟩ : ∃ f fd, Ap.Df _ mg "_take_items" Ap.s__take_items ["words", "at", "count", "levels"] f fd := by
      refine' Ap.df_mk KX G ?a ?l ?c ?k ?b
      (case a => k_is); (case l => k_is); (case c => k_is); (case k => k_is); (case b => exact fun _ _ _ _ _ _ us hl => match us, hl with | [_, _, _, _], _ => rfl)
    obtain ⟨f__law_pool, fd__law_pool, D__law_pool⟩ : ∃ f fd, Ap.Df _ mg "_law_pool" Ap.s__law_pool ["script", "at"] f fd := by
      refine' Ap.df_mk KX G ?a ?l ?c ?k ?b
      (case a => k_is); (case l => k_is); (case c => k_is); (case k => k_is); (case b => exact fun _ _ _ _ _ _ us hl => match us, hl with | [_, _], _ => rfl)
    obtain ⟨f__law_next, fd__law_next, D__law_next⟩ : ∃ f fd, Ap.Df _ mg "_law_next" Ap.s__law_next ["pool", "many"] f fd := by
      refine' Ap.df_mk KX G ?a ?l ?c ?k ?b
      (case a => k_is); (case l => k_is); (case c => k_is); (case k => k_is); (case b => exact fun _ _ _ _ _ _ us hl => match us, hl with | [_, _], _ => rfl)
    obtain ⟨f__law_char, fd__law_char, D__law_char⟩ : ∃ f fd, Ap.Df _ mg "_law_char" Ap.s__law_char ["draw"] f fd := by
      refine' Ap.df_mk KX G ?a ?l ?c ?k ?b
      (case a => k_is); (case l => k_is); (case c => k_is); (case k => k_is); (case b => exact fun _ _ _ _ _ _ us hl => match us, hl with | [_], _ => rfl)
    obtain ⟨f__law_some_text, fd__law_some_text, D__law_some_text⟩ : ∃ f fd, Ap.Df _ mg "_law_some_text" Ap.s__law_some_text ["pool", "most"] f fd := by
      refine' Ap.df_mk KX G ?a ?l ?c ?k ?b
      (case a => k_is); (case l => k_is); (case c => k_is); (case k => k_is); (case b => exact fun _ _ _ _ _ _ us hl => match us, hl with | [_, _], _ => rfl)
    obtain ⟨f__law_good, fd__law_good, D__law_good⟩ : ∃ f fd, Ap.Df _ mg "_law_good" Ap.s__law_good ["pool"] f fd := by
      refine' Ap.df_mk KX G ?a ?l ?c ?k ?b
      (case a => k_is); (case l => k_is); (case c => k_is); (case k => k_is); (case b => exact fun _ _ _ _ _ _ us hl => match us, hl with | [_], _ => rfl)
    obtain ⟨f__law_same, fd__law_same, D__law_same⟩ : ∃ f fd, Ap.Df _ mg "_law_same" Ap.s__law_same ["actual", "due"] f fd := by
      refine' Ap.df_mk KX G ?a ?l ?c ?k ?b
      (case a => k_is); (case l => k_is); (case c => k_is); (case k => k_is); (case b => exact fun _ _ _ _ _ _ us hl => match us, hl with | [_, _], _ => rfl)
    obtain ⟨f__law_words, fd__law_words, D__law_words⟩ : ∃ f fd, Ap.Df _ mg "_law_words" Ap.s__law_words ["atom"] f fd := by
      refine' Ap.df_mk KX G ?a ?l ?c ?k ?b
      (case a => k_is); (case l => k_is); (case c => k_is); (case k => k_is); (case b => exact fun _ _ _ _ _ _ us hl => match us, hl with | [_], _ => rfl)
    obtain ⟨f__law_tree, fd__law_tree, D__law_tree⟩ : ∃ f fd, Ap.Df _ mg "_law_tree" Ap.s__law_tree ["pool", "steps"] f fd := by
      refine' Ap.df_mk KX G ?a ?l ?c ?k ?b
      (case a => k_is); (case l => k_is); (case c => k_is); (case k => k_is); (case b => exact fun _ _ _ _ _ _ us hl => match us, hl with | [_, _], _ => rfl)
    obtain ⟨f__law_word, fd__law_word, D__law_word⟩ : ∃ f fd, Ap.Df _ mg "_law_word" Ap.s__law_word ["pool"] f fd := by
      refine' Ap.df_mk KX G ?a ?l ?c ?k ?b
      (case a => k_is); (case l => k_is); (case c => k_is); (case k => k_is); (case b => exact fun _ _ _ _ _ _ us hl => match us, hl with | [_], _ => rfl)
    obtain ⟨f__law_list, fd__law_list, D__law_list⟩ : ∃ f fd, Ap.Df _ mg "_law_list" Ap.s__law_list ["pool"] f fd := by
      refine' Ap.df_mk KX G ?a ?l ?c ?k ?b
      (case a => k_is); (case l => k_is); (case c => k_is); (case k => k_is); (case b => exact fun _ _ _ _ _ _ us hl => match us, hl with | [_], _ => rfl)
    obtain ⟨f__law_integer, fd__law_integer, D__law_integer⟩ : ∃ f fd, Ap.Df _ mg "_law_integer" Ap.s__law_integer ["word"] f fd := by
      refine' Ap.df_mk KX G ?a ?l ?c ?k ?b
      (case a => k_is); (case l => k_is); (case c => k_is); (case k => k_is); (case b => exact fun _ _ _ _ _ _ us hl => match us, hl with | [_], _ => rfl)
    obtain ⟨f__law_text, fd__law_text, D__law_text⟩ : ∃ f fd, Ap.Df _ mg "_law_text" Ap.s__law_text ["word"] f fd := by
      refine' Ap.df_mk KX G ?a ?l ?c ?k ?b
      (case a => k_is); (case l => k_is); (case c => k_is); (case k => k_is); (case b => exact fun _ _ _ _ _ _ us hl => match us, hl with | [_], _ => rfl)
    obtain ⟨f__law_read, fd__law_read, D__law_read⟩ : ∃ f fd, Ap.Df _ mg "_law_read" Ap.s__law_read ["words"] f fd := by
      refine' Ap.df_mk KX G ?a ?l ?c ?k ?b
      (case a => k_is); (case l => k_is); (case c => k_is); (case k => k_is); (case b => exact fun _ _ _ _ _ _ us hl => match us, hl with | [_], _ => rfl)
    obtain ⟨f__law_asked, fd__law_asked, D__law_asked⟩ : ∃ f fd, Ap.Df _ mg "_law_asked" Ap.s__law_asked ["words", "whole"] f fd := by
      refine' Ap.df_mk KX G ?a ?l ?c ?k ?b
      (case a => k_is); (case l => k_is); (case c => k_is); (case k => k_is); (case b => exact fun _ _ _ _ _ _ us hl => match us, hl with | [_, _], _ => rfl)
    obtain ⟨f__law_raise, fd__law_raise, D__law_raise⟩ : ∃ f fd, Ap.Df _ mg "_law_raise" Ap.s__law_raise ["choice"] f fd := by
      refine' Ap.df_mk KX G ?a ?l ?c ?k ?b
      (case a => k_is); (case l => k_is); (case c => k_is); (case k => k_is); (case b => exact fun _ _ _ _ _ _ us hl => match us, hl with | [_], _ => rfl)
    obtain ⟨f__law_kinds, fd__law_kinds, D__law_kinds⟩ : ∃ f fd, Ap.Df _ mg "_law_kinds" Ap.s__law_kinds ["choice"] f fd := by
      refine' Ap.df_mk KX G ?a ?l ?c ?k ?b
      (case a => k_is); (case l => k_is); (case c => k_is); (case k => k_is); (case b => exact fun _ _ _ _ _ _ us hl => match us, hl with | [_], _ => rfl)
    obtain ⟨fd, hb, F⟩ : ∃ fd, (∀ (s : Shared) (v : Value), BindsTo s fd ⟨[v], []⟩ [("script", v)]) ∧ L2.Fun _ "law" "law" Ap.s_law fa fd := by
      refine' Ap.law_mk KX G hmg ?a ?l ?c ?k ?b
      (case a => k_is); (case l => k_is); (case c => k_is); (case k => k_is); (case b => exact fun _ _ _ _ _ _ _ _ => .of_eq rfl)
    refine ⟨fd, hb, fun base _ _ => Ap.ok_law F D_is_integer D_is_number D_is_text D__may_stand_in_text D_take_value D_from_words D__take_within D__word_pair D__take_items D__law_pool D__law_next D__law_char D__law_some_text D__law_good D__law_same D__law_words D__law_tree D__law_word D__law_list D__law_integer D__law_text D__law_read D__law_asked D__law_raise D__law_kinds (Ap.big_lit c_NUMBER_MOST) c_TEXT_MOST c_DEPTH_MOST c__PERCENT E_BadValue E_BadWords E_BadBlock E_BadPath E_BadCommand E_OutOfRange E_Busy E_TooFew E_PowerLoss E_MachineDown E_Destroyed E_Unknown E_HallError g_BadValue_HallError g_BadWords_HallError g_BadBlock_HallError g_BadPath_HallError g_BadCommand_HallError g_OutOfRange_HallError g_Busy_HallError g_TooFew_HallError g_PowerLoss_HallError g_MachineDown_HallError g_Destroyed_HallError g_Unknown_HallError (fun i j hi hj => KK i j (by omega) hj) (fun i hi => MM i (by omega)) ?T⟩
    refine' ⟨PySem.W.mg_none_of KX G ?z0, PySem.W.mg_none_of KX G ?z1, PySem.W.mg_none_of KX G ?z2, PySem.W.mg_none_of KX G ?z3, PySem.W.mg_none_of KX G ?z4, PySem.W.mg_none_of KX G ?z5, PySem.W.mg_none_of KX G ?z6, PySem.W.mg_none_of KX G ?z7, PySem.W.mg_none_of KX G ?z8, PySem.W.mg_none_of KX G ?z9, PySem.W.mg_none_of KX G ?z10, PySem.W.mg_none_of KX G ?z11⟩
    (case z0 => k_is); (case z1 => k_is); (case z2 => k_is); (case z3 => k_is); (case z4 => k_is); (case z5 => k_is); (case z6 => k_is); (case z7 => k_is); (case z8 => k_is); (case z9 => k_is); (case z10 => k_is); (case z11 => k_is)
#print axioms PySem.Challenge.cw_appendhall_k05_spoilt_words_holds
