import PyProof.Rows.All
import Wide.All
import OpenK.AllK
import Wide.FinOn
import HandS.ForMost
import HandS.Evl
import HandS.Walk
import HandS.SortKw
import HandS.DictComp
import HandS.IsInst
import HandS.ForExc
import HandS.TupAny
import HandS.Conv
import HandS.Property
import HandS.ExcIs
import HandS.Deep
import HandS.SetBool
import HandS.SetKeys
import HandS.ClsMeth
import OpenK.KDescr
import HandS.Style
import HandS.WordsDict
import KE.DataMinMax
import HandS.Text
import HandS.Wide
import PyProof.StrBlock2
import PySem.Challenge.RW_appendhall_k50_lengths_told_and_commit_p
set_option Elab.async false
set_option linter.all false
set_option maxRecDepth 100000
namespace Ap
open PySem PySem.Spec PyProof.Rows L2 Evl

/-! ### more of what evaluates to what -/
section
variable {K : PySem.W.Frag} {σ : L2.St} {H H' : Hp} {ta tb tc te : TE} {t u : TT} {x y z v w : V} {r r' : R2}
theorem ev_chain {k m : Bool} (ha : Ev ta σ H x) (hb : Ev tb σ H y) (hr : RV r x y H (.bl k)) (hc : Ev tc σ H z) (hr' : RV r' y z H (.bl m)) : Ev (tChain r r' ta tb tc) σ H (.bl (k && m)) := fun H1 e Q q =>
  ha H1 e _ fun H2 e2 => hb H2 (e.trans e2) _ fun H3 e3 => hr H3 ((e.trans e2).trans e3) _ fun H4 e4 => ⟨k, rfl, by
    cases k with
    | true =>
      show tc σ H4 _
      exact hc H4 (((e.trans e2).trans e3).trans e4) _ fun H5 e5 => hr' H5 ((((e.trans e2).trans e3).trans e4).trans e5) Q fun H6 e6 => q H6 ((((e2.trans e3).trans e4).trans e5).trans e6)
    | false =>
      show Q (.bl false) H4
      exact q H4 ((e2.trans e3).trans e4)⟩
theorem rc_int {i : Int} : RC (fun xs H Q => (∃ i, xs = [.int i] ∧ Q (.int i) H) ∨ ∃ k, xs = [.bl k] ∧ Q (.int (if k then 1 else 0)) H) [.int i] H (.int i) := fun H1 _ _ q => Or.inl ⟨i, rfl, q H1 (Ex.refl H1)⟩
theorem rc_len {p : Addr} {xs : List V} (h : SqL K H p xs) : RC (fun xs H Q => ∃ p ys, xs = [.ref p] ∧ (SqL K H p ys ∨ SqT K H p ys) ∧ Q (.int ys.length) H) [.ref p] H (.int (xs.length : Int)) := fun H1 e _ q => ⟨p, xs, rfl, Or.inl (ex_l e h), q H1 (Ex.refl H1)⟩
theorem rc_lenT {p : Addr} {xs : List V} (h : SqT K H p xs) : RC (fun xs H Q => ∃ p ys, xs = [.ref p] ∧ (SqL K H p ys ∨ SqT K H p ys) ∧ Q (.int ys.length) H) [.ref p] H (.int (xs.length : Int)) := fun H1 e _ q => ⟨p, xs, rfl, Or.inr (ex_t e h), q H1 (Ex.refl H1)⟩
end


section
variable {K : PySem.W.Frag} {σ : L2.St} {H H' : Hp} {ta tb tc te td ty tv : TE} {t u : TT} {x y z v w : V} {D : Ends} {tz : TS}
theorem ev_dget {a : Addr} {kvs : List (Key × V)} {k : Key} (ha : Ev td σ H (.ref a)) (hk : Ev ty σ H (kV k)) (hr : Rd H a (.dK kvs)) (hv : valV kvs k = some v) : Ev (tDGet td ty) σ H v := fun H1 e Q q =>
  ha H1 e _ fun H2 e2 => hk H2 (e.trans e2) _ fun H3 e3 => ⟨a, v, rfl, .inl ⟨kvs, k, ex_rd ((e.trans e2).trans e3) hr, rfl, hv.symm⟩, q H3 (e2.trans e3)⟩
/-- isinstance(x, T) of a plain value -/
theorem rc_isi {x : V} {T X : String} {b : Bool} (ht : ∀ H, TyX K H x (.type X)) (hb : kitB X T = some b) : RC (rIsi K) [x, .ty T] H (.bl b) := fun H1 _ _ q => ⟨x, .ty T, .type X, .type T, b, rfl, .ty T, ht H1, kit_ty hb, q H1 (Ex.refl H1)⟩
/-- d[k] = e -/
theorem s_put {a : Addr} {kvs : List (Key × V)} {k : Key} (h : Ev tv σ H v) (ha : Ev td σ H (.ref a)) (hk : Ev ty σ H (kV k)) (hd : H a = some (.dK kvs)) (hl : kvs.length < 100000) (q : ∀ H1, Ex H H1 → D.nx σ (upd H1 a (.dK (putK kvs k v)))) : sDPut td ty tv D σ H :=
  h H (Ex.refl H) _ fun H1 e1 => ha H1 e1 _ fun H2 e2 => hk H2 (e1.trans e2) _ fun H3 e3 => ⟨a, _, rfl, DPut.k (((e1.trans e2).trans e3) a _ hd) (sz_lt hl), q H3 ((e1.trans e2).trans e3)⟩
theorem q_put {a : Addr} {kvs : List (Key × V)} {k : Key} (h : Ev tv σ H v) (ha : Ev td σ H (.ref a)) (hk : Ev ty σ H (kV k)) (hd : H a = some (.dK kvs)) (hl : kvs.length < 100000) (q : ∀ H1, Ex H H1 → tz D σ (upd H1 a (.dK (putK kvs k v)))) : tSeq (sDPut td ty tv) tz D σ H :=
  s_put (D := { D with nx := tz D }) h ha hk hd hl q
/-- within a lock, and out of it -/
theorem Ex.unlock {H H' : Hp} {d : Addr} {o : Obj} {u : HO} (hd : H d = some u) (e : Ex (upd H d (.frz o u)) H') : Ex H (upd H' d u) := fun a o' h => by
  by_cases q : a = d
  · subst q
    rw [upd_same, ← hd, h]
  · rw [upd_ne q]
    exact e a o' (by rw [upd_ne q]; exact h)
theorem SqL.locked {a d : Addr} {xs : List V} {o : Obj} {u : HO} (h : SqL K H a xs) (hn : H d = some u) (hu : ∀ l, u ≠ .lst l ∧ ∀ o, u ≠ .frz o (.lst l)) : SqL K (upd H d (.frz o u)) a xs := by
  rcases h with (h | ⟨o', h⟩) | h
  · have q : a ≠ d := fun e => by
      rw [e, hn] at h
      exact (hu xs).1 (Option.some.inj h)
    exact .inl (.inl (by rw [upd_ne q]; exact h))
  · have q : a ≠ d := fun e => by
      rw [e, hn] at h
      exact (hu xs).2 o' (Option.some.inj h)
    exact .inl (.inr ⟨o', by rw [upd_ne q]; exact h⟩)
  · exact .inr h
/-- y = [e for k in d if t] -/
theorem q_lcKeys {d : Addr} {kvs : List (Key × V)} {jd i j : Nat} {vs : List Nat} (hj : σ[jd]? = some (some (.ref d))) (hd : H d = some (.dK kvs)) (hz : kvs.length ≤ 40000) (f : Nat → Bool) (v : Nat → V) (hw : ∀ x, wipe ((wipe σ vs).set j (some x)) vs = wipe σ vs)
    (ht : ∀ (n : Nat) k x o, kvs[n]? = some (k, x) → EvT t ((wipe σ vs).set j (some (kV k))) (upd H d (.frz o (.dK kvs))) (f n))
    (he : ∀ (n : Nat) k x o, kvs[n]? = some (k, x) → f n = true → Ev te ((wipe σ vs).set j (some (kV k))) (upd H d (.frz o (.dK kvs))) (v n))
    (q : ∀ p H1, H p = none → Ex H H1 → H1 p = some (.lst (given kvs.length f v)) → tz D (σ.set i (some (.ref p))) H1) : tSeq (tLock (tAsg (tLc (iKeys (tVar jd)) (gName j) t te vs) (gName i))) tz D σ H := by
  refine ⟨d, .dK kvs, hd, trivial, fun od => ⟨.ref d, hj, d, od, rfl, .inl ⟨kvs, upd_same, fun Dl hD => ?_⟩⟩⟩
  have ne : Dl ≠ d := fun e => by
    rw [e, upd_same] at hD
    cases hD
  refine lc_it walk_keys (fun m H' => Cw (upd H d (.frz od (.dK kvs))) f v Dl m H') ⟨hD, Ex.new hD, upd_same⟩ (fun m H' _ p => p.2.1 d _ upd_same) (fun m x H1 H' hm p y => ?_) (fun H' p => ?_)
  · obtain ⟨rfl, k, x', hk, rfl⟩ := y
    exact ⟨hw _, cw_turn p (by omega) (ht m k x' od hk) (fun hf => he m k x' od hk hf)⟩
  · refine ⟨p.2.1 d _ upd_same, ?_⟩
    refine q Dl _ ?_ (Ex.unlock hd p.2.1) (by rw [upd_ne ne]; exact p.2.2)
    rw [upd_ne ne] at hD
    exact hD
/-- for k in d: body, the dict locked -/
theorem q_forKeys {d : Addr} {kvs : List (Key × V)} {jd j : Nat} {tu : TS} (hj : σ[jd]? = some (some (.ref d))) (hd : H d = some (.dK kvs)) (Pv : Obj → Nat → L2.St → Hp → Prop)
    (h0 : ∀ o, Pv o 0 σ (upd H d (.frz o (.dK kvs)))) (hG : ∀ o i σ' H', i ≤ kvs.length → Pv o i σ' H' → H' d = some (.frz o (.dK kvs)))
    (hs : ∀ o i k x σ' H' rt bk, kvs[i]? = some (k, x) → Pv o i σ' H' → tu ⟨Pv o (i + 1), rt, bk, Pv o (i + 1)⟩ (σ'.set j (some (kV k))) H')
    (q : ∀ o σ' H', Pv o kvs.length σ' H' → tz D σ' (upd H' d (.dK kvs))) : tSeq (tLock (tFor (iKeys (tVar jd)) (gName j) tu)) tz D σ H := by
  refine ⟨d, .dK kvs, hd, trivial, fun od => ⟨.ref d, hj, d, od, rfl, .inl ⟨kvs, upd_same, ?_⟩⟩⟩
  refine for_it walk_keys (Pv od) (h0 od) (fun i σ' H' hi p => hG od i σ' H' hi p) (fun i x σ' H1 H' hi p y => ?_) (fun σ' H' p => ⟨hG od _ σ' H' (Nat.le_refl _) p, q od σ' H' p⟩)
  obtain ⟨rfl, k, x', hk, rfl⟩ := y
  exact hs od i k x' σ' H' _ _ hk p
theorem q_dnew {i : Nat} (k : ∀ p H1, H p = none → Ex H H1 → H1 p = some (.dK []) → tz D (σ.set i (some (.ref p))) H1) : tSeq (tAsg tDNewK (gName i)) tz D σ H := fun p hp => k p _ hp (Ex.new hp) upd_same
theorem el_rep {ta : TA} {vs : List V} {n : Int} (h : EvA ta σ H vs) (hb : Ev tb σ H (.int n)) (hl : vs.length * n.toNat ≤ 100000) (hv : vs.length ≤ 100000) (hn : -100000 ≤ n ∧ n ≤ 100000) : EvL (tOp rRep (tLst ta) tb) σ H (List.replicate n.toNat vs).flatten := fun H1 e Q q =>
  h H1 e _ fun H2 e2 => ⟨sz_of hv, fun p hp => hb _ ((e.trans e2).trans (Ex.new hp)) _ fun H3 e3 => ⟨p, n, vs, rfl, rfl, e3 _ _ upd_same, by omega, by omega, sz_of hl, fun l hl2 => q l _ (fresh_back ((e2.trans (Ex.new hp)).trans e3) hl2) (((e2.trans (Ex.new hp)).trans e3).trans (Ex.new hl2)) upd_same⟩⟩
theorem q_call {sp : Sp} {dvs vs : List V} {E : XK} {ta : TA} {i : Nat} (h : EvA ta σ H vs) (k : ∀ H1, Ex H H1 → sp (vs ++ dvs) H1 (fun v H2 => tz D (σ.set i (some v)) H2) E) : tSeq (tAsg (tCall sp dvs E ta) (gName i)) tz D σ H := h H (Ex.refl H) _ fun H1 e => k H1 e
theorem s_retCall {sp : Sp} {dvs vs : List V} {E : XK} {ta : TA} (h : EvA ta σ H vs) (k : ∀ H1, Ex H H1 → sp (vs ++ dvs) H1 D.rt E) : tRet (tCall sp dvs E ta) D σ H := h H (Ex.refl H) _ fun H1 e => k H1 e
/-- for k in range(lo, hi), any small bounds -/
theorem q_forRng {ta : TA} {j : Nat} {lo n : Int} {tu : TS} (h : EvA ta σ H [.int lo, .int n]) (hn : -100000 ≤ lo ∧ lo ≤ 100000 ∧ -100000 ≤ n ∧ n ≤ 100000) (Pv : Nat → L2.St → Hp → Prop) (h0 : ∀ H1, Ex H H1 → Pv 0 σ H1)
    (hs : ∀ (i : Nat) σ' H', lo + (i : Int) < n → Pv i σ' H' → tu { D with nx := Pv (i + 1), ct := Pv (i + 1), bk := tz D } (σ'.set j (some (.int (lo + (i : Int))))) H') (hd : ∀ σ' H', Pv (n - lo).toNat σ' H' → tz D σ' H') : tSeq (tFor (iRng2 ta) (gName j) tu) tz D σ H :=
  h H (Ex.refl H) _ fun H1 e => ⟨lo, n, rfl, ⟨by omega, by omega, by omega, by omega⟩, for_range (lo := lo) (n := (n - lo).toNat) Pv (h0 H1 e) (fun i σ' H' hi p => hs i σ' H' (by omega) p) hd⟩
theorem given_eq {α : Type} (xs : List α) (d : α) (p : α → Bool) (g : α → V) : given xs.length (fun i => p (xs.getD i d)) (fun i => g (xs.getD i d)) = (xs.filter p).map g := by
  have e : (List.range xs.length).map (fun i => xs.getD i d) = xs := by
    refine List.ext_getElem (by simp) (fun i h1 h2 => ?_)
    rw [List.getElem_map, List.getElem_range, List.getD_eq_getElem?_getD, List.getElem?_eq_getElem h2]
    rfl
  unfold given
  conv => rhs; rw [← e]
  rw [List.filter_map, List.map_map]
  rfl
end
/-! ### draws: whole numbers below 5040 -/
def Dr (ds : List Int) : Prop := ∀ d ∈ ds, 0 ≤ d ∧ d < 5040
theorem Dr.nil : Dr [] := fun _ h => nomatch h
theorem Dr.app {ds : List Int} {d : Int} (h : Dr ds) (h0 : 0 ≤ d) (h1 : d < 5040) : Dr (ds ++ [d]) := fun e he => by
  rcases List.mem_append.mp he with he | he
  · exact h e he
  · rw [List.mem_singleton.mp he]
    exact ⟨h0, h1⟩
/-- a draw: the k-th one, 0 behind the last -/
def drw (ds : List Int) (k : Nat) : Int := ds.getD k 0
theorem drw_ok {ds : List Int} (h : Dr ds) (k : Nat) : 0 ≤ drw ds k ∧ drw ds k < 5040 := by
  unfold drw
  rw [List.getD_eq_getElem?_getD]
  cases e : ds[k]? with
  | none => exact ⟨Int.le_refl _, by show (0 : Int) < 5040; decide⟩
  | some d => exact h d (List.mem_of_getElem? e)
def spStream (K : PySem.W.Frag) : Sp := fun vs H Q _ => ∃ (a : Addr) (ns : List Int) (m : Nat), vs = [.ref a, .int (m : Int)] ∧ SqL K H a (ns.map V.int) ∧ ns.length ≤ 63 ∧ m ≤ 1000 ∧
  ∀ ds : List Int, Dr ds → ds.length ≤ m + 60 → RetL (ds.map V.int) H Q
def spDraw (K : PySem.W.Frag) : Sp := fun vs H Q _ => ∃ (a : Addr) (ds : List Int) (k : Nat), vs = [.ref a, .int (k : Int)] ∧ SqL K H a (ds.map V.int) ∧ RetV (.int (drw ds k)) H Q
theorem spDraw_v {K : PySem.W.Frag} {H : Hp} {a : Addr} {ds : List Int} {j : Int} {k : Nat} (h : SqL K H a (ds.map V.int)) (e : j = (k : Int)) : SpV (spDraw K) [.ref a, .int j] H (.int (drw ds k)) := fun H1 e1 Q q E =>
  ⟨a, ds, k, by rw [e], ex_l e1 h, fun H2 e2 => q H2 e2⟩
def drI (ds : List Int) (j : Int) : Int := drw ds j.toNat
theorem drI_ok {ds : List Int} (h : Dr ds) (j : Int) : 0 ≤ drI ds j ∧ drI ds j < 5040 := drw_ok h _
theorem spDrawI {K : PySem.W.Frag} {H : Hp} {a : Addr} {ds : List Int} {j : Int} (h : SqL K H a (ds.map V.int)) (e : 0 ≤ j) : SpV (spDraw K) [.ref a, .int j] H (.int (drI ds j)) := spDraw_v h (by omega)
theorem q_stream {K : PySem.W.Frag} {σ : L2.St} {H : Hp} {D : Ends} {tz : TS} {E : XK} {i : Nat} {a : Addr} {ns : List Int} {m : Int} (h0 : σ[0]? = some (some (.ref a))) (hS : SqL K H a (ns.map V.int)) (hn : ns.length ≤ 63) (hm : 0 ≤ m ∧ m ≤ 1000)
    (k : ∀ (ds : List Int) (l : Addr) (H1 : Hp), Dr ds → (ds.length : Int) ≤ m + 60 → H l = none → Ex H H1 → H1 l = some (.lst (ds.map V.int)) → tz D (σ.set i (some (.ref l))) H1) :
    tSeq (tAsg (tCall (spStream K) [] E (tCons (tVar 0) (tCons (tC (.int m)) tNil))) (gName i)) tz D σ H :=
  ⟨.ref a, h0, a, ns, m.toNat, by rw [show ((m.toNat : Nat) : Int) = m by omega]; rfl, hS, hn, by omega, fun ds hD hl l H1 n e h => k ds l H1 hD (by omega) n e h⟩

/-! ### a def of the text, its place and how it is called; the law's own end -/
structure Df (K : PySem.W.Frag) (mg : Str → Option Value) (x : Str) (st : Stmt) (ps : List Str) (f : Addr) (fd : FuncData) : Prop where
  F : Fun K x x st f fd
  b : Binds K fd ps []
  g : mg x = some (.ref f)
theorem df_mk {K : PySem.W.Frag} {mg : Str → Option Value} {h : Heap} (X : K.In h) (G : h.Ns mainGlobals mg) {x : Str} {st : Stmt} {ps : List Str} {f : Addr} {oc : Value} {od an : Option Addr} {sl : Array (Option Value)} {kV dc pm cd ct : Value}
    (a : PySem.W.nsIn K mainGlobals x = some (some (.ref f))) (l : K.lookup f = some ⟨oc, od, .func (PySem.W.fnOf x x (defArgs st) (defBody st) (defScope st) .none kV dc pm an cd ct), sl⟩) (c : PySem.W.codeIn K cd x = true) (k : PySem.W.keepIn K (.ref f) = true)
    (hb : ∀ (kV doc pm : Value) (an : Option Addr) (cdv ct : Value) (us : List Value), us.length = ps.length → bindArgs (PySem.W.fnOf x x (defArgs st) (defBody st) (defScope st) .none kV doc pm an cdv ct) ⟨us, []⟩ = pure (ps.zip us)) :
    ∃ f fd, Df K mg x st ps f fd := ⟨_, _, fun_mk l c k, (fun_mk l c k).binds hb, PySem.W.mg_of X G a⟩
theorem law_mk {K : PySem.W.Frag} {mg : Str → Option Value} {h : Heap} (X : K.In h) (G : h.Ns mainGlobals mg) {st : Stmt} {fa f : Addr} {oc : Value} {od an : Option Addr} {sl : Array (Option Value)} {kV dc pm cd ct : Value} (hfa : mg "law" = some (.ref fa))
    (a : PySem.W.nsIn K mainGlobals "law" = some (some (.ref f))) (l : K.lookup f = some ⟨oc, od, .func (PySem.W.fnOf "law" "law" (defArgs st) (defBody st) (defScope st) .none kV dc pm an cd ct), sl⟩) (c : PySem.W.codeIn K cd "law" = true) (k : PySem.W.keepIn K (.ref f) = true)
    (hb : ∀ (kV doc pm : Value) (an : Option Addr) (cdv ct : Value) (s : Shared) (v : Value), BindsTo s (PySem.W.fnOf "law" "law" (defArgs st) (defBody st) (defScope st) .none kV doc pm an cdv ct) ⟨[v], []⟩ [("script", v)]) :
    ∃ fd, (∀ (s : Shared) (v : Value), BindsTo s fd ⟨[v], []⟩ [("script", v)]) ∧ Fun K "law" "law" st fa fd := by
  have e := hfa.symm.trans (PySem.W.mg_of X G a)
  cases e
  exact ⟨_, fun s v => hb kV dc pm an cd ct s v, fun_mk l c k⟩
def spLaw (K : PySem.W.Frag) : Sp := fun vs H Q _ => ∃ (a : Addr) (ns : List Int), vs = [.ref a] ∧ SqL K H a (ns.map V.int) ∧ ns.length ≤ 63 ∧ ∀ H', Q (.bl true) H'
end Ap

set_option Elab.async false
set_option linter.all false
set_option maxRecDepth 100000
namespace Ap
open PySem PySem.Spec PyProof.Rows L2 Evl

/-! ### data: what a value stands for, whatever grows around it -/
section
variable {K : PySem.W.Frag} {H H' : Hp}
mutual
theorem dp_mono (e : Ex H H') : ∀ (d : PyData) (v : V), Dp K H v d → Dp K H' v d
  | .none, _, h => by cases h; exact .non
  | .bool b, _, h => by cases h; exact .bl b
  | .int i, _, h => by cases h; exact .int i
  | .str x, _, h => by cases h; exact .str x
  | .list ds, _, h => by
    cases h with
    | lst hs ha => exact .lst (ex_l e hs) (dpa_mono e ds _ ha)
  | .tuple ds, _, h => by
    cases h with
    | tup hs ha => exact .tup (ex_t e hs) (dpa_mono e ds _ ha)
  | .dict _, _, h => by cases h
theorem dpa_mono (e : Ex H H') : ∀ (ds : List PyData) (vs : List V), DpAll K H vs ds → DpAll K H' vs ds
  | [], _, h => by cases h; exact .nil
  | d :: ds, _, h => by
    cases h with
    | cons h1 h2 => exact .cons (dp_mono e d _ h1) (dpa_mono e ds _ h2)
end
theorem dpa_len : ∀ {vs : List V} {ds : List PyData}, DpAll K H vs ds → vs.length = ds.length
  | _, _, .nil => rfl
  | _, _, .cons _ h => by rw [List.length_cons, List.length_cons, dpa_len h]
theorem dpa_at : ∀ {vs : List V} {ds : List PyData} {i : Nat} {d : PyData}, DpAll K H vs ds → ds[i]? = some d → ∃ v, vs[i]? = some v ∧ Dp K H v d
  | _, _, i, d, .nil, h => by simp at h
  | _, _, 0, d, .cons h1 _, h => ⟨_, rfl, by
    have e := Option.some.inj (show some _ = some d from h)
    rw [← e]
    exact h1⟩
  | _, _, i + 1, d, .cons _ h2, h => by
    obtain ⟨v, e, q⟩ := dpa_at (i := i) h2 (by simpa using h)
    exact ⟨v, by simpa using e, q⟩
theorem dpa_atV : ∀ {vs : List V} {ds : List PyData} {i : Nat} {v : V}, DpAll K H vs ds → vs[i]? = some v → ∃ d, ds[i]? = some d ∧ Dp K H v d
  | _, _, i, v, .nil, h => by simp at h
  | _, _, 0, v, .cons h1 _, h => ⟨_, rfl, by
    have e := Option.some.inj (show some _ = some v from h)
    rw [← e]
    exact h1⟩
  | _, _, i + 1, v, .cons _ h2, h => by
    obtain ⟨d, e, q⟩ := dpa_atV (i := i) h2 (by simpa using h)
    exact ⟨d, by simpa using e, q⟩
theorem dpa_app : ∀ {vs ws : List V} {ds es : List PyData}, DpAll K H vs ds → DpAll K H ws es → DpAll K H (vs ++ ws) (ds ++ es)
  | _, _, _, _, .nil, h => h
  | _, _, _, _, .cons h1 h2, h => .cons h1 (dpa_app h2 h)
theorem dpa_one {v : V} {d : PyData} (h : Dp K H v d) : DpAll K H [v] [d] := .cons h .nil
theorem dpa_drop : ∀ {vs : List V} {ds : List PyData} (n : Nat), DpAll K H vs ds → DpAll K H (vs.drop n) (ds.drop n)
  | _, _, 0, h => h
  | _, _, n + 1, .nil => .nil
  | _, _, n + 1, .cons _ h2 => dpa_drop n h2
theorem dpa_take : ∀ {vs : List V} {ds : List PyData} (n : Nat), DpAll K H vs ds → DpAll K H (vs.take n) (ds.take n)
  | _, _, 0, _ => .nil
  | _, _, n + 1, .nil => .nil
  | _, _, n + 1, .cons h1 h2 => .cons h1 (dpa_take n h2)
theorem dpa_ints : ∀ (ns : List Int), DpAll K H (ns.map V.int) (ns.map PyData.int)
  | [] => .nil
  | n :: r => .cons (.int n) (dpa_ints r)
end

/-! ### data that == reads to its end: no dict, so deep at most -/
mutual
theorem eqv_self : ∀ d : PyData, d.canLay0 = true → PyData.eqv d d = true
  | .none, _ => by simp [PyData.eqv]
  | .bool b, _ => by simp [PyData.eqv]
  | .int i, _ => by simp [PyData.eqv]
  | .str x, _ => by simp [PyData.eqv]
  | .list ds, h => by
    show PyData.eqvAll ds ds = true
    exact eqvAll_self ds (by simpa [PyData.canLay0] using h)
  | .tuple ds, h => by
    show PyData.eqvAll ds ds = true
    exact eqvAll_self ds (by simpa [PyData.canLay0] using h)
  | .dict _, h => by simp [PyData.canLay0] at h
theorem eqvAll_self : ∀ ds : List PyData, PyData.canLayAll0 ds = true → PyData.eqvAll ds ds = true
  | [], _ => by simp [PyData.eqvAll]
  | d :: ds, h => by
    have h' : d.canLay0 = true ∧ PyData.canLayAll0 ds = true := by simpa [PyData.canLayAll0] using h
    simp [PyData.eqvAll, eqv_self d h'.1, eqvAll_self ds h'.2]
end
/-- no dict within, no text out of range, at most n deep -/
def Sd (n : Nat) (d : PyData) : Prop := d.canLay0 = true ∧ d.depth ≤ n
def Sds (n : Nat) (ds : List PyData) : Prop := ∀ d ∈ ds, Sd n d
theorem sds_lay : ∀ {n : Nat} {ds : List PyData}, Sds n ds → PyData.canLayAll0 ds = true ∧ PyData.depthAll ds ≤ n
  | _, [], _ => ⟨by simp [PyData.canLayAll0], by simp [PyData.depthAll]⟩
  | n, d :: ds, h => by
    have h1 := h d List.mem_cons_self
    have h2 := sds_lay (fun e he => h e (List.mem_cons_of_mem _ he))
    exact ⟨by simp [PyData.canLayAll0, h1.1, h2.1], by have := h1.2; have := h2.2; simp only [PyData.depthAll]; omega⟩
theorem sd_tuple {n : Nat} {ds : List PyData} (h : Sds n ds) : Sd (n + 1) (.tuple ds) := ⟨by simp [PyData.canLay0, (sds_lay h).1], by have := (sds_lay h).2; simp only [PyData.depth]; omega⟩
theorem sd_list {n : Nat} {ds : List PyData} (h : Sds n ds) : Sd (n + 1) (.list ds) := ⟨by simp [PyData.canLay0, (sds_lay h).1], by have := (sds_lay h).2; simp only [PyData.depth]; omega⟩
theorem sd_int {n : Nat} {i : Int} : Sd n (.int i) := ⟨by simp [PyData.canLay0], by simp [PyData.depth]⟩
theorem sd_bool {n : Nat} {b : Bool} : Sd n (.bool b) := ⟨by simp [PyData.canLay0], by simp [PyData.depth]⟩
theorem sd_none {n : Nat} : Sd n .none := ⟨by simp [PyData.canLay0], by simp [PyData.depth]⟩
theorem sd_str {n : Nat} {x : Str} (h : PyData.strOk x = true) : Sd n (.str x) := ⟨by simp [PyData.canLay0, h], by simp [PyData.depth]⟩
theorem Sd.up {n m : Nat} {d : PyData} (h : Sd n d) (l : n ≤ m) : Sd m d := ⟨h.1, Nat.le_trans h.2 l⟩
theorem sds_nil {n : Nat} : Sds n [] := fun _ h => nomatch h
theorem sds_cons {n : Nat} {d : PyData} {ds : List PyData} (h : Sd n d) (hs : Sds n ds) : Sds n (d :: ds) := fun e he => by
  rcases List.mem_cons.mp he with q | q
  · rw [q]; exact h
  · exact hs e q
theorem sds_app {n : Nat} {ds es : List PyData} (h : Sds n ds) (hs : Sds n es) : Sds n (ds ++ es) := fun e he => by
  rcases List.mem_append.mp he with q | q
  · exact h e q
  · exact hs e q
theorem Sds.drop {n : Nat} {ds : List PyData} (h : Sds n ds) (k : Nat) : Sds n (ds.drop k) := fun e he => h e (List.mem_of_mem_drop he)
theorem Sds.take {n : Nat} {ds : List PyData} (h : Sds n ds) (k : Nat) : Sds n (ds.take k) := fun e he => h e (List.mem_of_mem_take he)
theorem Sd.shaped {d : PyData} {n : Nat} (h : Sd n d) (l : n ≤ 64) : SeqAt.shaped d = true := by
  unfold SeqAt.shaped
  rw [h.1, decide_eq_true (Nat.le_trans h.2 l)]
  rfl
theorem Sd.self {d : PyData} {n : Nat} (h : Sd n d) : PyData.eqv d d = true := eqv_self d h.1

/-! ### the part of a heap that a base and what is new since a point make -/
def ov (H H1 H2 : Hp) : Hp := fun a => match H a with
  | some o => some o
  | none => match H1 a with
    | some _ => none
    | none => H2 a
theorem ov_ex {H H1 H2 : Hp} (e : Ex H H1) (e2 : Ex H1 H2) : Ex (ov H H1 H2) H2 := fun a o h => by
  unfold ov at h
  cases h0 : H a with
  | some o' =>
    rw [h0] at h
    rw [← h]
    exact e2 a o' (e a o' h0)
  | none =>
    rw [h0] at h
    cases h1 : H1 a with
    | some o' => rw [h1] at h; cases h
    | none => rw [h1] at h; exact h
theorem ov_base {H H1 H2 : Hp} : Ex H (ov H H1 H2) := fun a o h => by
  unfold ov
  rw [h]
theorem ov_none {H H1 H2 : Hp} {a : Addr} {o : HO} (h : H a = none) (h1 : H1 a = some o) : ov H H1 H2 a = none := by
  unfold ov
  rw [h, h1]
theorem ov_grow {H H1 H2 H3 : Hp} (e2 : Ex H2 H3) : Ex (ov H H1 H2) (ov H H1 H3) := fun a o h => by
  unfold ov at h ⊢
  cases h0 : H a with
  | some o' => rw [h0] at h; exact h
  | none =>
    rw [h0] at h
    cases h1 : H1 a with
    | some o' => rw [h1] at h; cases h
    | none =>
      rw [h1] at h
      exact e2 a o h
theorem ov_later {H H1 H2 H3 : Hp} (e1 : Ex H1 H2) : Ex (ov H H2 H3) (ov H H1 H3) := fun a o h => by
  unfold ov at h ⊢
  cases h0 : H a with
  | some o' => rw [h0] at h; exact h
  | none =>
    rw [h0] at h
    cases h2 : H2 a with
    | some o' => rw [h2] at h; cases h
    | none =>
      rw [h2] at h
      have h1 : H1 a = none := fresh_back e1 h2
      rw [h1]
      exact h
theorem ov_new {H H1 H2 : Hp} {p : Addr} (e : Ex H H1) (e2 : Ex H1 H2) (hp : H2 p = none) {u : HO} : ov H H1 (upd H2 p u) p = some u := by
  have h1 : H1 p = none := fresh_back e2 hp
  have h0 : H p = none := fresh_back e h1
  unfold ov
  rw [h0, h1]
  exact upd_same

/-! ### what evaluates to data -/
def EvD (K : PySem.W.Frag) (te : TE) (σ : L2.St) (H : Hp) (d : PyData) : Prop := ∀ H1, Ex H H1 → ∀ Q : VK, (∀ v H2, Ex H1 H2 → Dp K (ov H H1 H2) v d → Q v H2) → te σ H1 Q
def EvDs (K : PySem.W.Frag) (ta : TA) (σ : L2.St) (H : Hp) (ds : List PyData) : Prop := ∀ H1, Ex H H1 → ∀ Q : List V → Hp → Prop, (∀ vs H2, Ex H1 H2 → DpAll K (ov H H1 H2) vs ds → Q vs H2) → ta σ H1 Q
/-- a new list of data -/
def EvN (K : PySem.W.Frag) (te : TE) (σ : L2.St) (H : Hp) (ds : List PyData) : Prop := ∀ H1, Ex H H1 → ∀ Q : VK, (∀ p xs H2, H1 p = none → Ex H1 H2 → H2 p = some (.lst xs) → DpAll K (ov H H1 H2) xs ds → Q (.ref p) H2) → te σ H1 Q
section
variable {K : PySem.W.Frag} {σ : L2.St} {H H' : Hp} {ta tb tc te : TE} {t u : TT} {x y z v w : V} {d e : PyData} {ds es : List PyData} {r : R2}
theorem ed_of (h : Ev te σ H v) (hd : Dp K H v d) : EvD K te σ H d := fun H1 e Q q => h H1 e Q fun H2 e2 => q v H2 e2 (dp_mono ov_base d v hd)
theorem ed_var {i : Nat} (h : σ[i]? = some (some v)) (hd : Dp K H v d) : EvD K (tVar i) σ H d := ed_of (ev_var h) hd
theorem ed_int {i : Int} (h : Ev te σ H (.int i)) : EvD K te σ H (.int i) := ed_of h (.int i)
theorem ed_str {s : Str} : EvD K (tC (.str s)) σ H (.str s) := ed_of ev_c (.str s)
theorem ed_bool {b : Bool} (h : Ev te σ H (.bl b)) : EvD K te σ H (.bool b) := ed_of h (.bl b)
theorem ed_non : EvD K (tC .non) σ H .none := ed_of ev_c .non
theorem ed_is (h : EvD K te σ H d) (q : d = e) : EvD K te σ H e := q ▸ h
theorem EvD.mono (e : Ex H H') (h : EvD K te σ H d) : EvD K te σ H' d := fun H1 a Q q => h H1 (e.trans a) Q fun v H2 e2 hd => q v H2 e2 (dp_mono (fun b o hb => by
  unfold ov at hb ⊢
  cases h0 : H b with
  | some o' => rw [h0] at hb; rw [e b o' h0]; exact hb
  | none =>
    rw [h0] at hb
    cases h1 : H1 b with
    | some o' => rw [h1] at hb; cases hb
    | none =>
      rw [h1] at hb
      rw [fresh_back a h1]
      exact hb) d v hd)
theorem eds_nil : EvDs K tNil σ H [] := fun H1 _ _ q => q [] H1 (Ex.refl H1) .nil
theorem eds_cons {tr : TA} (h : EvD K te σ H d) (hr : EvDs K tr σ H ds) : EvDs K (tCons te tr) σ H (d :: ds) := fun H1 e Q q =>
  h H1 e _ fun v H2 e2 hv => hr H2 (e.trans e2) _ fun vs H3 e3 hs => q _ H3 (e2.trans e3) (.cons (dp_mono (ov_grow e3) d v hv) (dpa_mono (ov_later e2) ds vs hs))
theorem ed_tup {ta : TA} (h : EvDs K ta σ H ds) (hl : ds.length ≤ 100000) : EvD K (tTup ta) σ H (.tuple ds) := fun H1 e Q q =>
  h H1 e _ fun vs H2 e2 hs => ⟨by rw [dpa_len hs]; exact sz_of hl, fun p hp => q _ _ (e2.trans (Ex.new hp)) (.tup (st_of (ov_new e e2 hp)) (dpa_mono (ov_grow (Ex.new hp)) ds vs hs))⟩
theorem en_lst {ta : TA} (h : EvDs K ta σ H ds) (hl : ds.length ≤ 100000) : EvN K (tLst ta) σ H ds := fun H1 e Q q =>
  h H1 e _ fun vs H2 e2 hs => ⟨by rw [dpa_len hs]; exact sz_of hl, fun p hp => q p vs _ (fresh_back e2 hp) (e2.trans (Ex.new hp)) upd_same (dpa_mono (ov_grow (Ex.new hp)) ds vs hs)⟩
theorem ed_new (h : EvN K te σ H ds) : EvD K te σ H (.list ds) := fun H1 e Q q => h H1 e _ fun p xs H2 np e2 hp hs => q _ H2 e2 (.lst (sq_of (by
  have h1 := fresh_back e np
  unfold ov
  rw [h1, np]
  exact hp)) hs)
theorem atI_len {α β : Type} {xs : List α} {ys : List β} (h : xs.length = ys.length) {i : Int} {y : β} (hy : atI ys i = some y) : ∃ j : Nat, ys[j]? = some y ∧ ∀ x, xs[j]? = some x → atI xs i = some x := by
  unfold atI at hy ⊢
  cases e : ixN ys.length i with
  | none => rw [e] at hy; cases hy
  | some j =>
    rw [e] at hy
    refine ⟨j, hy, fun x hx => ?_⟩
    rw [h, e]
    exact hx
theorem ed_ixT {i : Int} (ha : EvD K ta σ H (.tuple ds)) (hb : Ev tb σ H (.int i)) (h : atI ds i = some d) : EvD K (tOp (rIxT K) ta tb) σ H d := fun H1 e Q q =>
  ha H1 e _ fun v H2 e2 hv => hb H2 (e.trans e2) _ fun H3 e3 => by
    cases hv with
    | tup hs hd =>
      obtain ⟨j, hj, hx⟩ := atI_len (dpa_len hd) h
      obtain ⟨x, ex, dx⟩ := dpa_at hd hj
      exact ⟨_, _, i, x, rfl, rfl, ex_t ((ov_ex e e2).trans e3) hs, hx x ex, q x H3 (e2.trans e3) (dp_mono (ov_grow e3) d x dx)⟩
theorem ed_ixL {i : Int} (ha : EvD K ta σ H (.list ds)) (hb : Ev tb σ H (.int i)) (h : atI ds i = some d) : EvD K (tOp (rIxL K) ta tb) σ H d := fun H1 e Q q =>
  ha H1 e _ fun v H2 e2 hv => hb H2 (e.trans e2) _ fun H3 e3 => by
    cases hv with
    | lst hs hd =>
      obtain ⟨j, hj, hx⟩ := atI_len (dpa_len hd) h
      obtain ⟨x, ex, dx⟩ := dpa_at hd hj
      exact ⟨_, _, i, x, rfl, rfl, ex_l ((ov_ex e e2).trans e3) hs, hx x ex, q x H3 (e2.trans e3) (dp_mono (ov_grow e3) d x dx)⟩
/-- the same part of two lists of one length -/
def cutA {α : Type} (xs : List α) (lo hi : Option Int) : List α := (xs.drop (HT.sIx xs.length 0 lo)).take (HT.sIx xs.length xs.length hi - HT.sIx xs.length 0 lo)
theorem dpa_cut {vs : List V} {lo hi : Option Int} (h : DpAll K H vs ds) : DpAll K H (cutV vs lo hi) (cutA ds lo hi) := by
  unfold cutV cutA
  rw [dpa_len h]
  exact dpa_take _ (dpa_drop _ h)
theorem ed_slT {tl th : TO} {lo hi : Option Int} (h : EvD K te σ H (.tuple ds)) (h1 : EvO tl σ H lo) (h2 : EvO th σ H hi) : EvD K (tSl (rSlA K) te tl th) σ H (.tuple (cutA ds lo hi)) := fun H1 e Q q =>
  h H1 e _ fun v H2 e2 hv => h1 H2 (e.trans e2) _ fun H3 e3 => h2 H3 ((e.trans e2).trans e3) _ fun H4 e4 => by
    have e24 := e2.trans (e3.trans e4)
    cases hv with
    | @tup a xs _ hs hd =>
      refine ⟨a, xs, rfl, ex_t ((ov_ex e e2).trans (e3.trans e4)) hs, fun hw => q _ H4 e24 (.tup (ex_t (ov_grow (e3.trans e4)) hs) ?_), fun _ p hp => q _ _ (e24.trans (Ex.new hp)) (.tup (st_of (ov_new e e24 hp)) (dpa_cut (dpa_mono (ov_grow ((e3.trans e4).trans (Ex.new hp))) ds xs hd)))⟩
      have ec : cutA ds lo hi = ds := by
        unfold cutA
        rw [← dpa_len hd, hw.1, hw.2, List.drop_zero, Nat.sub_zero, dpa_len hd, List.take_length]
      rw [ec]
      exact dpa_mono (ov_grow (e3.trans e4)) ds xs hd
theorem en_slL {tl th : TO} {lo hi : Option Int} (h : EvD K te σ H (.list ds)) (h1 : EvO tl σ H lo) (h2 : EvO th σ H hi) : EvN K (tSl (rSlL K) te tl th) σ H (cutA ds lo hi) := fun H1 e Q q =>
  h H1 e _ fun v H2 e2 hv => h1 H2 (e.trans e2) _ fun H3 e3 => h2 H3 ((e.trans e2).trans e3) _ fun H4 e4 => by
    have e24 := e2.trans (e3.trans e4)
    cases hv with
    | @lst a xs _ hs hd =>
      exact ⟨a, xs, rfl, ex_l ((ov_ex e e2).trans (e3.trans e4)) hs, fun p hp => q p _ _ (fresh_back e24 hp) (e24.trans (Ex.new hp)) upd_same (dpa_cut (dpa_mono (ov_grow ((e3.trans e4).trans (Ex.new hp))) ds xs hd))⟩
theorem ed_catT (ha : EvD K ta σ H (.tuple ds)) (hb : EvD K tb σ H (.tuple es)) (hl : ds.length + es.length ≤ 100000) : EvD K (tOp (rCatA K) ta tb) σ H (.tuple (ds ++ es)) := fun H1 e Q q =>
  ha H1 e _ fun v H2 e2 hv => hb H2 (e.trans e2) _ fun w H3 e3 hw => by
    have e13 := e2.trans e3
    cases hv with
    | @tup a xs _ hs hd =>
      cases hw with
      | @tup b ys _ ht he =>
        have hs3 := ex_t ((ov_ex e e2).trans e3) hs
        have ht3 := ex_t (ov_ex (e.trans e2) e3) ht
        have hd3 := dpa_mono (ov_grow e3) ds xs hd
        have he3 := dpa_mono (ov_later e2) es ys he
        have ld := dpa_len hd
        have le := dpa_len he
        refine ⟨a, b, xs, ys, rfl, rfl, hs3, ht3, sz_of (by omega), fun h0 => ?_, fun _ h0 => ?_, fun _ _ p hp => q _ _ (e13.trans (Ex.new hp)) (.tup (st_of (ov_new e e13 hp)) (dpa_app (dpa_mono (ov_grow (Ex.new hp)) ds xs hd3) (dpa_mono (ov_grow (Ex.new hp)) es ys he3)))⟩
        · have z : ds = [] := List.eq_nil_of_length_eq_zero (by rw [← ld, h0]; rfl)
          subst z
          exact q _ _ e13 (.tup (ex_t (ov_later e2) ht) he3)
        · have z : es = [] := List.eq_nil_of_length_eq_zero (by rw [← le, h0]; rfl)
          subst z
          exact q _ _ e13 (.tup (ex_t (ov_grow e3) hs) (by rw [List.append_nil]; exact hd3))
theorem en_cat (ha : EvN K ta σ H ds) (hb : EvN K tb σ H es) (hl : ds.length + es.length ≤ 100000) : EvN K (tOp rCat ta tb) σ H (ds ++ es) := fun H1 e Q q =>
  ha H1 e _ fun p xs H2 np e2 hp hs => hb H2 (e.trans e2) _ fun p' ys H3 np' e3 hp' ht =>
    ⟨p, p', xs, ys, rfl, rfl, e3 _ _ hp, hp', by rw [dpa_len hs, dpa_len ht]; exact sz_of hl, fun o ho => q o _ _ (fresh_back (e2.trans e3) ho) ((e2.trans e3).trans (Ex.new ho)) upd_same
      (dpa_app (dpa_mono (ov_grow (e3.trans (Ex.new ho))) ds xs hs) (dpa_mono ((ov_later e2).trans (ov_grow (Ex.new ho))) es ys ht))⟩
/-- a list that stands in the base, by its items -/
theorem en_tup {a : Addr} {xs : List V} (ha : Ev ta σ H (.ref a)) (hs : SqL K H a xs) (hd : DpAll K H xs ds) : EvD K (tThen ta (kTup K)) σ H (.tuple ds) := fun H1 e Q q =>
  ha H1 e _ fun H2 e2 => .inl ⟨a, xs, rfl, ex_l (e.trans e2) hs, fun p hp => q _ _ (e2.trans (Ex.new hp)) (.tup (st_of (ov_new e e2 hp)) (dpa_mono ov_base ds xs hd))⟩
theorem ed_tupOf (ha : EvD K ta σ H (.list ds)) : EvD K (tThen ta (kTup K)) σ H (.tuple ds) := fun H1 e Q q =>
  ha H1 e _ fun v H2 e2 hv => by
    cases hv with
    | @lst a xs _ hs hd => exact .inl ⟨a, xs, rfl, ex_l (ov_ex e e2) hs, fun p hp => q _ _ (e2.trans (Ex.new hp)) (.tup (st_of (ov_new e e2 hp)) (dpa_mono (ov_grow (Ex.new hp)) ds xs hd))⟩
theorem ev_eqD {n m : Nat} (ha : EvD K ta σ H d) (hb : EvD K tb σ H e) (sd : Sd n d) (se : Sd m e) (hn : n ≤ 64) (hm : m ≤ 64) : Ev (tOp (rEqD K) ta tb) σ H (.bl (PyData.eqv d e)) := fun H1 a Q q =>
  ha H1 a _ fun v H2 e2 hv => hb H2 (a.trans e2) _ fun w H3 e3 hw => ⟨d, e, dp_mono ((ov_ex a e2).trans e3) d v hv, dp_mono (ov_ex (a.trans e2) e3) e w hw, sd.shaped hn, se.shaped hm, q H3 (e2.trans e3)⟩
theorem ev_neD {n m : Nat} (ha : EvD K ta σ H d) (hb : EvD K tb σ H e) (sd : Sd n d) (se : Sd m e) (hn : n ≤ 64) (hm : m ≤ 64) : Ev (tOp (rNeD K) ta tb) σ H (.bl (!PyData.eqv d e)) := fun H1 a Q q =>
  ha H1 a _ fun v H2 e2 hv => hb H2 (a.trans e2) _ fun w H3 e3 hw => ⟨d, e, dp_mono ((ov_ex a e2).trans e3) d v hv, dp_mono (ov_ex (a.trans e2) e3) e w hw, sd.shaped hn, se.shaped hm, q H3 (e2.trans e3)⟩
/-- the two sides are one: != is False -/
theorem ev_neSelf {n : Nat} (ha : EvD K ta σ H d) (hb : EvD K tb σ H d) (sd : Sd n d) (hn : n ≤ 64) : Ev (tOp (rNeD K) ta tb) σ H (.bl false) := ev_is (ev_neD ha hb sd sd hn hn) (by rw [sd.self]; rfl)
theorem ev_eqSelf {n : Nat} (ha : EvD K ta σ H d) (hb : EvD K tb σ H d) (sd : Sd n d) (hn : n ≤ 64) : Ev (tOp (rEqD K) ta tb) σ H (.bl true) := ev_is (ev_eqD ha hb sd sd hn hn) (by rw [sd.self])
theorem ev_lenD (ha : EvD K ta σ H (.list ds)) : Ev (tCB (fun xs H Q => ∃ p ys, xs = [.ref p] ∧ (SqL K H p ys ∨ SqT K H p ys) ∧ Q (.int ys.length) H) (tCons ta tNil)) σ H (.int (ds.length : Int)) := fun H1 e Q q =>
  ha H1 e _ fun v H2 e2 hv => by
    cases hv with
    | @lst a xs _ hs hd => exact ⟨a, xs, rfl, .inl (ex_l (ov_ex e e2) hs), by rw [dpa_len hd]; exact q H2 e2⟩
theorem ev_lenDT (ha : EvD K ta σ H (.tuple ds)) : Ev (tCB (fun xs H Q => ∃ p ys, xs = [.ref p] ∧ (SqL K H p ys ∨ SqT K H p ys) ∧ Q (.int ys.length) H) (tCons ta tNil)) σ H (.int (ds.length : Int)) := fun H1 e Q q =>
  ha H1 e _ fun v H2 e2 hv => by
    cases hv with
    | @tup a xs _ hs hd => exact ⟨a, xs, rfl, .inr (ex_t (ov_ex e e2) hs), by rw [dpa_len hd]; exact q H2 e2⟩
theorem ed_if {b : Bool} (h : EvT t σ H b) (h1 : b = true → EvD K ta σ H d) (h2 : b = false → EvD K tb σ H d) : EvD K (tIf t ta tb) σ H d := fun H1 e Q q => h H1 e _ fun H2 e2 => by
  cases b with
  | true =>
    show ta σ H2 Q
    exact h1 rfl H2 (e.trans e2) Q fun v H3 e3 hv => q v H3 (e2.trans e3) (dp_mono (ov_later e2) d v hv)
  | false =>
    show tb σ H2 Q
    exact h2 rfl H2 (e.trans e2) Q fun v H3 e3 hv => q v H3 (e2.trans e3) (dp_mono (ov_later e2) d v hv)
/-- a promise that gives data, over a base that the caller names -/
def RetD (K : PySem.W.Frag) (B : Hp) (d : PyData) (H : Hp) (Q : VK) : Prop := ∀ v H2, Ex H H2 → Dp K (ov B H H2) v d → Q v H2
theorem ov_ov {B H H1 H2 : Hp} (e : Ex B H) (e1 : Ex H H1) (e2 : Ex H1 H2) : Ex (ov (ov B H H1) H1 H2) (ov B H H2) := fun a o h => by
  unfold ov at h ⊢
  cases h0 : B a with
  | some o' =>
    rw [h0] at h
    exact h
  | none =>
    rw [h0] at h
    cases h1 : H a with
    | some o' =>
      rw [h1, e1 a o' h1] at h
      cases h
    | none =>
      rw [h1] at h
      cases h3 : H1 a with
      | some o' =>
        rw [h3] at h
        rw [← h]
        exact e2 a o' h3
      | none =>
        rw [h3] at h
        exact h
def SpD (K : PySem.W.Frag) (sp : Sp) (vs : List V) (H : Hp) (d : PyData) : Prop := ∀ H1, Ex H H1 → ∀ Q : VK, (∀ v H2, Ex H1 H2 → Dp K (ov H H1 H2) v d → Q v H2) → ∀ E : XK, sp vs H1 Q E
theorem ed_call {sp : Sp} {dvs vs : List V} {E : XK} {ta : TA} (h : EvA ta σ H vs) (hs : SpD K sp (vs ++ dvs) H d) : EvD K (tCall sp dvs E ta) σ H d := fun H1 e Q q =>
  h H1 e _ fun H2 e2 => hs H2 (e.trans e2) Q (fun v H3 e3 hv => q v H3 (e2.trans e3) (dp_mono (ov_later e2) d v hv)) E
/-! ### statements -/
variable {D : Ends} {tz : TS} {i : Nat}
theorem dp_all {H2 : Hp} {v : V} {d : PyData} (e : Ex H H2) (h : Dp K (ov H H H2) v d) : Dp K H2 v d := dp_mono (ov_ex (Ex.refl H) e) d v h
theorem q_asgD (h : EvD K te σ H d) (k : ∀ v H1, Ex H H1 → Dp K H1 v d → tz D (σ.set i (some v)) H1) : tSeq (tAsg te (gName i)) tz D σ H := h H (Ex.refl H) _ fun v H1 e hv => k v H1 e (dp_mono (ov_ex (Ex.refl H) e) d v hv)
theorem s_asgD (h : EvD K te σ H d) (k : ∀ v H1, Ex H H1 → Dp K H1 v d → D.nx (σ.set i (some v)) H1) : tAsg te (gName i) D σ H := h H (Ex.refl H) _ fun v H1 e hv => k v H1 e (dp_mono (ov_ex (Ex.refl H) e) d v hv)
theorem q_asgN (h : EvN K te σ H ds) (k : ∀ p xs H1, H p = none → Ex H H1 → H1 p = some (.lst xs) → DpAll K H1 xs ds → tz D (σ.set i (some (.ref p))) H1) : tSeq (tAsg te (gName i)) tz D σ H :=
  h H (Ex.refl H) _ fun p xs H1 np e hp hs => k p xs H1 np e hp (dpa_mono (ov_ex (Ex.refl H) e) ds xs hs)
theorem q_asgDB {B : Hp} (eB : Ex B H) (h : EvD K te σ B d) (k : ∀ v H1, Ex H H1 → Dp K (ov B H H1) v d → tz D (σ.set i (some v)) H1) : tSeq (tAsg te (gName i)) tz D σ H := h H eB _ fun v H1 e hv => k v H1 e hv
theorem s_retDB {B : Hp} (eB : Ex B H) (h : EvD K te σ B d) (k : ∀ v H1, Ex H H1 → Dp K (ov B H H1) v d → D.rt v H1) : tRet te D σ H := h H eB _ k
theorem s_retD (h : EvD K te σ H d) (k : ∀ v H1, Ex H H1 → Dp K (ov H H H1) v d → D.rt v H1) : tRet te D σ H := h H (Ex.refl H) _ k
/-! ### a comprehension over a range, its items data -/
def givenD (n : Nat) (f : Nat → Bool) (g : Nat → PyData) : List PyData := ((List.range n).filter f).map g
theorem givenD_yes {n : Nat} {f : Nat → Bool} {g : Nat → PyData} (h : f n = true) : givenD (n + 1) f g = givenD n f g ++ [g n] := by
  unfold givenD
  rw [List.range_succ, List.filter_append, List.map_append, List.filter_cons, if_pos h]
  all_goals rfl
theorem givenD_no {n : Nat} {f : Nat → Bool} {g : Nat → PyData} (h : f n = false) : givenD (n + 1) f g = givenD n f g := by
  unfold givenD
  rw [List.range_succ, List.filter_append, List.map_append, List.filter_cons, if_neg (by rw [h]; decide)]
  show _ ++ [] = _
  rw [List.append_nil]
theorem givenD_len (n : Nat) (f : Nat → Bool) (g : Nat → PyData) : (givenD n f g).length ≤ n := by
  unfold givenD
  rw [List.length_map]
  have h := List.length_filter_le f (List.range n)
  rw [List.length_range] at h
  exact h
/-- the word of a comprehension over the base B, begun at H1: the items lean on the base and on what is new, not on the list itself -/
def CwD (K : PySem.W.Frag) (B H1 : Hp) (f : Nat → Bool) (g : Nat → PyData) (Dl : Addr) (i : Nat) (H' : Hp) : Prop := Ex B H' ∧ Ex H1 H' ∧ ∃ acc, H' Dl = some (.lst acc) ∧ DpAll K (ov B (upd H1 Dl (.lst [])) H') acc (givenD i f g)
theorem cwD_turn {B H1 H' : Hp} {f : Nat → Bool} {g : Nat → PyData} {Dl : Addr} {i : Nat} {σ2 : L2.St} (b1 : Ex B H1) (nD : H1 Dl = none) (p : CwD K B H1 f g Dl i H') (hi : i < 50000) (ht : EvT t σ2 B (f i)) (he : f i = true → EvD K te σ2 B (g i)) :
    t σ2 H' fun b H3 => if b = true then te σ2 H3 fun y H4 => ∃ acc, H4 Dl = some (.lst acc) ∧ acc.length < sizeLine ∧ CwD K B H1 f g Dl (i + 1) (upd H4 Dl (.lst (acc ++ [y]))) else CwD K B H1 f g Dl (i + 1) H3 := by
  obtain ⟨p1, p2, acc, p3, p4⟩ := p
  have nB : B Dl = none := fresh_back b1 nD
  refine ht H' p1 _ fun H3 e3 => ?_
  cases hf : f i with
  | true =>
    show te σ2 H3 fun y H4 => ∃ acc, H4 Dl = some (.lst acc) ∧ acc.length < sizeLine ∧ CwD K B H1 f g Dl (i + 1) (upd H4 Dl (.lst (acc ++ [y])))
    refine he hf H3 (p1.trans e3) _ fun y H4 e4 hy => ⟨acc, e4 Dl _ (e3 Dl _ p3), sz_lt (by rw [dpa_len p4]; have := givenD_len i f g; omega), Ex.mut ((p1.trans e3).trans e4) nB, Ex.mut ((p2.trans e3).trans e4) nD, _, upd_same, ?_⟩
    have k1 : Ex (ov B H3 H4) (ov B (upd H1 Dl (.lst [])) (upd H4 Dl (.lst (acc ++ [y])))) := fun a o ha => by
      unfold ov at ha ⊢
      cases h0 : B a with
      | some o' => rw [h0] at ha; exact ha
      | none =>
        rw [h0] at ha
        cases h3 : H3 a with
        | some o' => rw [h3] at ha; cases ha
        | none =>
          rw [h3] at ha
          have ne : a ≠ Dl := fun e => by
            rw [e, e3 Dl _ p3] at h3
            cases h3
          rw [upd_ne ne, fresh_back (p2.trans e3) h3]
          show upd H4 Dl _ a = some o
          rw [upd_ne ne]
          exact ha
    have k2 : Ex (ov B (upd H1 Dl (.lst [])) H') (ov B (upd H1 Dl (.lst [])) (upd H4 Dl (.lst (acc ++ [y])))) := fun a o ha => by
      unfold ov at ha ⊢
      cases h0 : B a with
      | some o' => rw [h0] at ha; exact ha
      | none =>
        rw [h0] at ha
        by_cases ne : a = Dl
        · rw [ne, upd_same] at ha
          cases ha
        · rw [upd_ne ne] at ha ⊢
          cases h1 : H1 a with
          | some o' => rw [h1] at ha; cases ha
          | none =>
            rw [h1] at ha
            show upd H4 Dl _ a = some o
            rw [upd_ne ne]
            exact e4 a o (e3 a o ha)
    rw [givenD_yes hf]
    exact dpa_app (dpa_mono k2 _ _ p4) (dpa_one (dp_mono k1 _ _ hy))
  | false =>
    show CwD K B H1 f g Dl (i + 1) H3
    refine ⟨p1.trans e3, p2.trans e3, acc, e3 Dl _ p3, ?_⟩
    rw [givenD_no hf]
    exact dpa_mono (ov_grow e3) _ _ p4
theorem cwD_start {B H1 : Hp} {f : Nat → Bool} {g : Nat → PyData} {Dl : Addr} (b1 : Ex B H1) (nD : H1 Dl = none) : CwD K B H1 f g Dl 0 (upd H1 Dl (.lst [])) := ⟨b1.trans (Ex.new nD), Ex.new nD, [], upd_same, .nil⟩
theorem cwD_end {B H1 H' : Hp} {f : Nat → Bool} {g : Nat → PyData} {Dl : Addr} {n : Nat} (p : CwD K B H1 f g Dl n H') : ∃ acc, H' Dl = some (.lst acc) ∧ DpAll K (ov B H1 H') acc (givenD n f g) := by
  obtain ⟨_, _, acc, p3, p4⟩ := p
  refine ⟨acc, p3, dpa_mono (fun a o ha => ?_) _ _ p4⟩
  unfold ov at ha ⊢
  cases h0 : B a with
  | some o' => rw [h0] at ha; exact ha
  | none =>
    rw [h0] at ha
    by_cases ne : a = Dl
    · rw [ne, upd_same] at ha
      cases ha
    · rw [upd_ne ne] at ha
      exact ha
theorem en_lcR1 {ta : TA} {j : Nat} {vs : List Nat} {n : Int} (f : Nat → Bool) (g : Nat → PyData) (h : EvA ta σ H [.int n]) (hn : 0 ≤ n ∧ n ≤ 40000) (hw : ∀ x, wipe ((wipe σ vs).set j (some x)) vs = wipe σ vs)
    (ht : ∀ i : Nat, (i : Int) < n → EvT t ((wipe σ vs).set j (some (.int (i : Int)))) H (f i)) (he : ∀ i : Nat, (i : Int) < n → f i = true → EvD K te ((wipe σ vs).set j (some (.int (i : Int)))) H (g i)) :
    EvN K (tLc (iRng1 ta) (gName j) t te vs) σ H (givenD n.toNat f g) := fun H0 e Q q => h H0 e _ fun H1 e1 => ⟨n, rfl, by omega, by omega, fun Dl hD =>
  lc_range (lo := 0) (n := n.toNat) (CwD K H H1 f g Dl) (cwD_start (e.trans e1) hD) (fun i H' hi p => by
    have e0 : (0 : Int) + (i : Int) = (i : Int) := Int.zero_add _
    show wipe ((wipe σ vs).set j (some (.int ((0 : Int) + (i : Int))))) vs = wipe σ vs ∧ t ((wipe σ vs).set j (some (.int ((0 : Int) + (i : Int))))) H' fun b H3 => if b = true then te ((wipe σ vs).set j (some (.int ((0 : Int) + (i : Int))))) H3 fun y H4 => ∃ acc, H4 Dl = some (.lst acc) ∧ acc.length < sizeLine ∧ CwD K H H1 f g Dl (i + 1) (upd H4 Dl (.lst (acc ++ [y]))) else CwD K H H1 f g Dl (i + 1) H3
    rw [e0]
    exact ⟨hw _, cwD_turn (e.trans e1) hD p (by omega) (ht i (by omega)) (fun hf => he i (by omega) hf)⟩) (fun H' p => by
      obtain ⟨acc, h1, h2⟩ := cwD_end p
      exact q Dl acc H' (fresh_back e1 hD) (e1.trans p.2.1) h1 (dpa_mono (ov_later e1) _ _ h2))⟩
theorem et_nil : EvT tYes σ H true := fun H1 _ _ q => q H1 (Ex.refl H1)
end
end Ap

set_option Elab.async false
set_option linter.all false
set_option maxRecDepth 100000
namespace Ap
open PySem PySem.Spec PyProof.Rows L2 Evl
/-! ### a method that may raise, called where the wish hangs on the slots -/
def tMX (C : Addr) (m : Str) (sp : Sp) (E : L2.St → XK) (ta : TE) (t : TA) : TE := fun σ H Q => ta σ H fun x G => ∃ a dx fs, x = .ref a ∧ G a = some (.ins C dx fs) ∧ fs.lookup m = none ∧ t σ G fun vs G2 => sp (x :: vs) G2 Q (E σ)
theorem pe_mx {X : Cx} {CX : CXT} {k : Nat} {f C : Addr} {fd : FuncData} {ps : List Str} {sp : Sp} {E : L2.St → XK} {m : Str} {pos apos : Pos} {e o : Expr} {es : List Expr} {ta : TE} {t : TA} {pl : Sem Bool}
    (he : PE X o ta) (c : Cls X.K C) (hm : Meth X.K C m f) (F : FnOk X.prog X.w X.K X.mg X.base CX k f fd ps sp) (hr : Room k X.A) (hb : Binds X.K fd ps []) (hx : ∀ σ, PassesAt CX X σ (E σ)) (ha : PA X (e :: es) t)
    (z1 : starEach (e :: es) X.env = (false, eval e X.env) :: starEach es X.env := by rfl) (z2 : (backTo pos (starEach es X.env)).any (·.1) = false := by rfl)
    (z3 : eval (.Call (.Attribute o m apos) (e :: es) [] pos) X.env = (do { let ov ← eval o X.env; standAt apos.atName; let (f, first) ← holding [ov] (getMethod ov m pl); callWith pos f first (backTo pos (starEach (e :: es) X.env)) (backToKw pos (keywordEach [] X.env)) }) := by rfl) :
    PE X (.Call (.Attribute o m apos) (e :: es) [] pos) (tMX C m sp E ta t) := ⟨fun pins s σ H Q I h => PySem.W.methodCall_KW (pl := pl) (thn (he.run pins s σ H _ I h) fun u s1 hh => by
  obtain ⟨x, G, J, rx, a, dx, fs, ex, ea, l, q⟩ := hh
  subst ex
  cases (show u = Value.ref a from rx)
  exact getmeth_ok J ea c hm l (PySem.W.callWith_K (first := [.ref a]) (h₀ := X.base) I.ok.mod.kin hm.kp (thn (ha.run pos pins s1 σ G _ J q) fun us s2 ⟨vs, G2, J2, r, q2⟩ => ⟨J2.kIn, run_fnS (us := .ref a :: us) (vs := .ref a :: vs) F hr hb (hx σ) J2 (.cons rfl r) q2⟩) z1 z2)) z3⟩
/-- a block under a proposition -/
theorem pss_guard {X : Cx} {b : List Stmt} {t : TS} {p : Prop} (h : p → PSs X b t) : PSs X b (fun D σ H => p ∧ t D σ H) := ⟨fun pins s σ H D I q => (h q.1).run pins s σ H D I q.2⟩
/-- try: .. except X as n: suite, the errors of the body of one own class without fields -/
theorem ps_try_own {X : Cx} {C : Addr} {x n : Str} {c : Value} {i : Nat} {body suite : List Stmt} {b₀ : Stmt} {np pos pos' : Pos} {tb : WX → TS} {ts : Addr → TS} {Wout : WX} (hs : X.stack = X.env :: X.outer) (hf : X.env.frame = some X.env.locals) (hN : X.N.Nodup) (hi : X.N[i]? = some n) (hln : X.env.kindOf n = some .local) (hc : Names X x c) (tk : Takes X Wout)
    (hb : ∀ (W : WX) (pn : List (Addr × Obj)) (xe : Value → Shared → Prop), Takes (X.tr pn xe) W → PSs (X.tr pn xe) body (tb W))
    (hsu : ∀ (a : Addr) (oe : Obj) (pn : List (Addr × Obj)), Zc (.ref C) none oe → (∃ vs, oe.data = .fields vs) → PSs (X.suite a ((a, oe) :: pn)) (b₀ :: suite) (ts a)) :
    PS X (.Try body [.ExceptHandler (some (.Name x np)) (some n) (b₀ :: suite) pos'] [] [] pos) (fun D σ H => tb (wAs X.K c i (fun a cls d D σ H => (cls = .ref C ∧ d = none) ∧ ts a D σ H) Wout D) D σ H) :=
  ps_try_as hs hf hN hi hln hc tk (fun W pn xe tk' _ => hb W pn xe tk') (fun a oe cls d pn hz hf => pss_guard fun h => by
    obtain ⟨h1, h2⟩ := h
    subst h1
    subst h2
    exact hsu a oe pn hz hf)
/-- the same without a name -/
theorem ps_try_ownN {X : Cx} {C : Addr} {x : Str} {c : Value} {body suite : List Stmt} {b₀ : Stmt} {np pos pos' : Pos} {tb : WX → TS} {ts : Addr → TS} {Wout : WX} (hs : X.stack = X.env :: X.outer) (hf : X.env.frame = some X.env.locals) (hc : Names X x c) (tk : Takes X Wout)
    (hb : ∀ (W : WX) (pn : List (Addr × Obj)) (xe : Value → Shared → Prop), Takes (X.tr pn xe) W → PSs (X.tr pn xe) body (tb W))
    (hsu : ∀ (a : Addr) (oe : Obj) (pn : List (Addr × Obj)), Zc (.ref C) none oe → (∃ vs, oe.data = .fields vs) → PSs (X.suite a ((a, oe) :: pn)) (b₀ :: suite) (ts a)) :
    PS X (.Try body [.ExceptHandler (some (.Name x np)) none (b₀ :: suite) pos'] [] [] pos) (fun D σ H => tb (wOnly X.K c (fun a cls d D σ H => (cls = .ref C ∧ d = none) ∧ ts a D σ H) Wout D) D σ H) :=
  ps_try_only hs hf hc tk (fun W pn xe tk' _ => hb W pn xe tk') (fun a oe cls d pn hz hf => pss_guard fun h => by
    obtain ⟨h1, h2⟩ := h
    subst h1
    subst h2
    exact hsu a oe pn hz hf)
/-- an own error class C over ValueError (through B), as the top left it -/
structure Err (K : PySem.W.Frag) (mg : Str → Option Value) (x : Str) (C B : Addr) : Prop where
  g : mg x = some (.ref C)
  kp : PySem.W.keepIn K (.ref C) = true
  ex : PySem.W.excIn K C [.type "ValueError", .type "Exception", .type "BaseException", .type "object"] "ValueError.__new__" = true
  bs : PySem.W.subIn K (.ref C) (.type "BaseException") = some true
  ty : PySem.W.typeIn K (.ref C) = some (.type "type")
  me : PySem.W.exmOne K (.ref C) (.ref C) = some true
  ec : ExcC K C
  k1 : PySem.W.kitOne K (.ref C) (.ref B) = some true
  k2 : PySem.W.kitOne K (.ref C) (.type "ValueError") = some true
theorem Err.mk' {X : Cx} {x m : Str} {C B : Addr} {j : Nat} {p p2 pos : Pos} (T : Err X.K X.mg x C B) (hg : Gl X x) (hdb : (x == ("__debug__" : Str)) = false := by decide) : PMk X (.Call (.Name x p) [.Constant (.str m) j p2] [] pos) (fun _ H Q => Q (.ref C) none H) :=
  pmk_own PySem.F.excBase_ValueError T.ex T.g T.kp (raises_own T.bs T.ty) hg hdb
/-- isinstance(e, T), e the error in hand -/
theorem ev_isE {K : PySem.W.Frag} {σ : L2.St} {H : Hp} {tx : TE} {D a : Addr} {i : Nat} {c : V} {cv : Value} {b : Bool} (h : σ[i]? = some (some (.ref a))) (hx : Ev tx σ H c) (hc : ∀ u, RelV c u → u = cv) (k : PySem.W.kitOne K (.ref D) cv = some b) : Ev (tCB (rIsE K D a) (tCons (tVar i) (tCons tx tNil))) σ H (.bl b) :=
  ev_cb (ea_cons (ev_var h) (ea_cons hx ea_nil)) fun H1 _ Q q => ⟨c, cv, b, rfl, hc, k, q H1 (Ex.refl H1)⟩
/-! ### slices and comprehensions of data -/
theorem cutA_from {α : Type} (xs : List α) (m : Nat) : cutA xs (some (m : Int)) none = xs.drop m := by
  unfold cutA
  rw [show HT.sIx xs.length 0 (some ((m : Nat) : Int)) = min m xs.length from HT.sIx_nat xs.length 0 m, HT.sIx_none]
  by_cases h : m ≤ xs.length
  · rw [Nat.min_eq_left h, ← List.length_drop, List.take_length]
  · rw [Nat.min_eq_right (by omega), List.drop_length, List.drop_eq_nil_of_le (by omega), List.take_nil]
theorem filter_from (m : Nat) : ∀ n : Nat, (List.range n).filter (fun k => decide (m ≤ k)) = (List.range n).drop m
  | 0 => by simp
  | n + 1 => by
    rw [List.range_succ, List.filter_append, filter_from m n]
    by_cases h : m ≤ n
    · rw [List.drop_append_of_le_length (by rw [List.length_range]; exact h), List.filter_cons, if_pos (by exact decide_eq_true h)]
      all_goals rfl
    · rw [List.filter_cons, if_neg (by rw [decide_eq_false h]; decide), List.filter_nil, List.append_nil, List.drop_eq_nil_of_le (by rw [List.length_range]; omega), List.drop_eq_nil_of_le (by rw [List.length_append, List.length_range, List.length_singleton]; omega)]
theorem range_getD {α : Type} (xs : List α) (d : α) : (List.range xs.length).map (fun i => xs.getD i d) = xs := by
  refine List.ext_getElem (by simp) (fun i h1 h2 => ?_)
  rw [List.getElem_map, List.getElem_range, List.getD_eq_getElem?_getD, List.getElem?_eq_getElem h2]
  rfl
theorem givenD_from (ds : List PyData) (m : Nat) (f : Nat → Bool) (hf : ∀ k, k < ds.length → f k = decide (m ≤ k)) : givenD ds.length f (fun k => ds.getD k .none) = ds.drop m := by
  unfold givenD
  have e : (List.range ds.length).filter f = (List.range ds.length).filter (fun k => decide (m ≤ k)) := List.filter_congr fun k hk => hf k (List.mem_range.mp hk)
  rw [e, filter_from, List.map_drop, range_getD]
theorem givenD_all (n : Nat) (g : Nat → PyData) : givenD n (fun _ => true) g = (List.range n).map g := by
  unfold givenD
  rw [List.filter_eq_self.mpr (fun _ _ => rfl)]
theorem atI_getD {α : Type} {xs : List α} {i : Int} {d : α} (h0 : 0 ≤ i) (h1 : i < (xs.length : Int)) : atI xs i = some (xs.getD i.toNat d) := by
  obtain ⟨j, rfl⟩ := Int.eq_ofNat_of_zero_le h0
  have hj : j < xs.length := by omega
  refine atI_nat ?_
  rw [show ((j : Int)).toNat = j from rfl, List.getD_eq_getElem?_getD, List.getElem?_eq_getElem hj]
  rfl
/-- range with great bounds -/
theorem q_forRngB {σ : L2.St} {H : Hp} {D : Ends} {tz : TS} {ta : TA} {j : Nat} {lo n : Int} {tu : TS} (h : EvA ta σ H [.int lo, .int n]) (hn : -(2 ^ 62) ≤ lo ∧ lo < 2 ^ 62 ∧ -(2 ^ 62) ≤ n ∧ n < 2 ^ 62) (Pv : Nat → L2.St → Hp → Prop) (h0 : ∀ H1, Ex H H1 → Pv 0 σ H1)
    (hs : ∀ (i : Nat) σ' H', lo + (i : Int) < n → Pv i σ' H' → tu { D with nx := Pv (i + 1), ct := Pv (i + 1), bk := tz D } (σ'.set j (some (.int (lo + (i : Int))))) H') (hd : ∀ σ' H', Pv (n - lo).toNat σ' H' → tz D σ' H') : tSeq (tFor (iRng2 ta) (gName j) tu) tz D σ H :=
  h H (Ex.refl H) _ fun H1 e => ⟨lo, n, rfl, hn, for_range (lo := lo) (n := (n - lo).toNat) Pv (h0 H1 e) (fun i σ' H' hi p => hs i σ' H' (by omega) p) hd⟩

/-! ### a method of the text, its class's own -/
structure Dm (K : PySem.W.Frag) (C : Addr) (x qual : Str) (st : Stmt) (ps : List Str) (f : Addr) (fd : FuncData) : Prop where
  F : Fun K x qual st f fd
  b : Binds K fd ps []
  m : Meth K C x f
theorem dm_mk {K : PySem.W.Frag} {h : Heap} (X : K.In h) {C : Addr} {x qual : Str} {st : Stmt} {ps : List Str} {f : Addr} {oc : Value} {od an : Option Addr} {sl : Array (Option Value)} {kV dc pm cd ct : Value}
    (a : PySem.W.findIn K (.ref C) x = some (some (.ref f))) (i : PySem.W.isFn K (.ref f) = true) (l : K.lookup f = some ⟨oc, od, .func (PySem.W.fnOf x qual (defArgs st) (defBody st) (defScope st) .none kV dc pm an cd ct), sl⟩) (c : PySem.W.codeIn K cd qual = true) (k : PySem.W.keepIn K (.ref f) = true)
    (hb : ∀ (kV doc pm : Value) (an : Option Addr) (cdv ct : Value) (us : List Value), us.length = ps.length → bindArgs (PySem.W.fnOf x qual (defArgs st) (defBody st) (defScope st) .none kV doc pm an cdv ct) ⟨us, []⟩ = pure (ps.zip us)) :
    ∃ f fd, Dm K C x qual st ps f fd := ⟨_, _, fun_mk l c k, (fun_mk l c k).binds hb, ⟨a, i, k⟩⟩
/-- a class of the text with an __init__ -/
structure Kl (K : PySem.W.Frag) (mg : Str → Option Value) (x : Str) (C : Addr) : Prop where
  cl : Cls K C
  g : mg x = some (.ref C)
  makes : PySem.W.makesIn K C = true
  kp : PySem.W.keepIn K (.ref C) = true
theorem Kl.make {K : PySem.W.Frag} {mg : Str → Option Value} {x : Str} {C f : Addr} {q : Str} {st : Stmt} {ps : List Str} {fd : FuncData} (L : Kl K mg x C) (D : Dm K C "__init__" q st ps f fd) : Mk K C f := ⟨L.makes, D.m.at_, D.m.fn, L.kp⟩
theorem kl_mk {K : PySem.W.Frag} {h : Heap} {mg : Str → Option Value} {x : Str} {C : Addr} (X : K.In h) (G : h.Ns mainGlobals mg) (a : PySem.W.nsIn K mainGlobals x = some (some (.ref C))) (pg : PySem.W.plainGet K C Str.empty = true) (hd : PySem.W.hasDictIn K C = true) (po : PySem.W.plainOver K C = true)
    (sa : PySem.W.findIn K (.ref C) "__setattr__" = some (some (.builtin "object.__setattr__"))) (mk : PySem.W.makesIn K C = true) (kp : PySem.W.keepIn K (.ref C) = true) : Kl K mg x C := ⟨⟨pg, hd, po, sa⟩, PySem.W.mg_of X G a, mk, kp⟩
theorem na_mk {K : PySem.W.Frag} {h : Heap} {C : Addr} {f : Str} (X : K.In h) (a : PySem.W.findIn K (.ref C) f = some none) : NoAttr K C f := a
/-- a property of an own class: its getter -/
structure Pr (K : PySem.W.Frag) (C : Addr) (x qual : Str) (st : Stmt) (f : Addr) (fd : FuncData) : Prop where
  F : Fun K x qual st f fd
  b : Binds K fd ["self"] []
  p : ∃ p, PropOf K C x p f
theorem pr_mk {K : PySem.W.Frag} {h : Heap} (X : K.In h) {C : Addr} {x qual : Str} {st : Stmt} {f p : Addr} {rest : List Value} {oc : Value} {od an : Option Addr} {sl : Array (Option Value)} {kV dc pm cd ct : Value}
    (a : PySem.W.findIn K (.ref C) x = some (some (.ref p))) (g : PySem.W.specialIn K (.ref p) "__get__" = some (some (.builtin "property.__get__"))) (t : PySem.W.takesIn K (.ref p) = some true) (r : PySem.W.recIn K p "property" = some (.ref f :: rest))
    (l : K.lookup f = some ⟨oc, od, .func (PySem.W.fnOf x qual (defArgs st) (defBody st) (defScope st) .none kV dc pm an cd ct), sl⟩) (c : PySem.W.codeIn K cd qual = true) (k : PySem.W.keepIn K (.ref f) = true)
    (hb : ∀ (kV doc pm : Value) (an : Option Addr) (cdv ct : Value) (us : List Value), us.length = (["self"] : List Str).length → bindArgs (PySem.W.fnOf x qual (defArgs st) (defBody st) (defScope st) .none kV doc pm an cdv ct) ⟨us, []⟩ = pure ((["self"] : List Str).zip us)) :
    ∃ f fd, Pr K C x qual st f fd := ⟨_, _, fun_mk l c k, (fun_mk l c k).binds hb, p, ⟨a, g, t, rest, r⟩⟩
theorem pe_pr {X : Cx} {CX : CXT} {k : Nat} {C g : Addr} {f : Str} {fd : FuncData} {sp : Sp} {E : XK} {e : Expr} {pos : Pos} {ta : TE} {q : Str} {st : Stmt} (he : PE X e ta) (c : Cls X.K C) (hp : Pr X.K C f q st g fd) (F : FnOk X.prog X.w X.K X.mg X.base CX k g fd ["self"] sp) (hr : Room (k + 1) X.A) (hx : Passes CX X.nox E)
    (hab : attributeBase e f X.env (eval e X.env) = eval e X.env) : PE X (.Attribute e f pos) (tProp C sp [] E ta) := by
  obtain ⟨p, hp'⟩ := hp.p
  exact pe_prop he c hp' F hr hp.b .nil hx hab
section
variable {K : PySem.W.Frag} {σ : L2.St} {H H' : Hp} {ta tb te : TE} {ds es : List PyData}
theorem en_catV {a : Addr} {xs : List V} (ha : Ev ta σ H (.ref a)) (h : H a = some (.lst xs)) (hd : DpAll K H xs ds) (hb : EvN K tb σ H es) (hl : ds.length + es.length ≤ 100000) : EvN K (tOp rCat ta tb) σ H (ds ++ es) := fun H1 e Q q =>
  ha H1 e _ fun H2 e2 => hb H2 (e.trans e2) _ fun p' ys H3 np' e3 hp' ht =>
    ⟨a, p', xs, ys, rfl, rfl, ((e.trans e2).trans e3) _ _ h, hp', by rw [dpa_len hd, dpa_len ht]; exact sz_of hl, fun o ho => q o _ _ (fresh_back (e2.trans e3) ho) ((e2.trans e3).trans (Ex.new ho)) upd_same
      (dpa_app (dpa_mono ov_base ds xs hd) (dpa_mono ((ov_later e2).trans (ov_grow (Ex.new ho))) es ys ht))⟩
theorem el_cat {xs ys : List V} (ha : EvL ta σ H xs) (hb : EvL tb σ H ys) (hl : xs.length + ys.length ≤ 100000) : EvL (tOp rCat ta tb) σ H (xs ++ ys) := fun H1 e Q q =>
  ha H1 e _ fun p H2 np e2 hp => hb H2 (e.trans e2) _ fun p' H3 np' e3 hp' => ⟨p, p', xs, ys, rfl, rfl, e3 _ _ hp, hp', sz_of hl, fun o ho => q o _ (fresh_back (e2.trans e3) ho) ((e2.trans e3).trans (Ex.new ho)) upd_same⟩
theorem el_rg2 {a b : Int} (ha : Ev ta σ H (.int a)) (hb : Ev tb σ H (.int b)) (ok : RgOk a b) : EvL (tLstRg (tRg2 ta tb)) σ H (rgV a b) := fun H1 e Q q =>
  ha H1 e _ fun H2 e2 => hb H2 (e.trans e2) _ fun H3 e3 => ⟨a, b, rfl, rfl, ok, fun p hp => q p _ (fresh_back (e2.trans e3) hp) ((e2.trans e3).trans (Ex.new hp)) upd_same⟩
theorem rc_max2 {i j : Int} : RC (fun xs H Q => ∃ i j, xs = [.int i, .int j] ∧ Q (.int (if j > i then j else i)) H) [.int i, .int j] H (.int (if j > i then j else i)) := fun H1 _ Q q => ⟨i, j, rfl, q H1 (Ex.refl H1)⟩
theorem rc_min2 {i j : Int} : RC (fun xs H Q => ∃ i j, xs = [.int i, .int j] ∧ Q (.int (if j < i then j else i)) H) [.int i, .int j] H (.int (if j < i then j else i)) := fun H1 _ Q q => ⟨i, j, rfl, q H1 (Ex.refl H1)⟩
end
theorem q_forRng3 {σ : L2.St} {H : Hp} {D : Ends} {tz : TS} {ta : TA} {j : Nat} {lo hi c : Int} {n : Nat} {tu : TS} (h : EvA ta σ H [.int lo, .int hi, .int c]) (hn : RgC lo hi c n) (Pv : Nat → L2.St → Hp → Prop) (h0 : ∀ H1, Ex H H1 → Pv 0 σ H1)
    (hs : ∀ (i : Nat) σ' H', i < n → Pv i σ' H' → tu { D with nx := Pv (i + 1), ct := Pv (i + 1), bk := tz D } (σ'.set j (some (.int (lo + (i : Int) * c)))) H') (hd : ∀ σ' H', Pv n σ' H' → tz D σ' H') : tSeq (tFor (iRng3 ta) (gName j) tu) tz D σ H :=
  h H (Ex.refl H) _ fun H1 e => ⟨lo, hi, c, n, rfl, hn, for_it walk_rangeC Pv (h0 H1 e) (fun _ _ _ _ _ => trivial) (fun i x σ' H1 H' hi p y => by
    obtain ⟨rfl, rfl⟩ := y
    exact hs i σ' _ hi p) hd⟩
/-- the part of a list from lo to hi -/
def rng {α : Type} (xs : List α) (lo hi : Nat) : List α := (xs.drop lo).take (hi - lo)
theorem rng_drop {α : Type} (xs : List α) (lo hi k : Nat) : (rng xs lo hi).drop k = rng xs (lo + k) hi := by
  unfold rng
  rw [List.drop_take, List.drop_drop, Nat.sub_sub]
theorem rng_nil {α : Type} (xs : List α) {lo hi : Nat} (h : hi ≤ lo) : rng xs lo hi = [] := by
  unfold rng
  rw [Nat.sub_eq_zero_of_le h, List.take_zero]
theorem rng_app {α : Type} (xs : List α) {a b c : Nat} (h1 : a ≤ b) (h2 : b ≤ c) : rng xs a b ++ rng xs b c = rng xs a c := by
  unfold rng
  have e : c - a = (b - a) + (c - b) := by omega
  rw [e, List.take_add, List.drop_drop, show a + (b - a) = b by omega]
theorem rng_len {α : Type} (xs : List α) {lo hi : Nat} (h1 : lo ≤ hi) (h2 : hi ≤ xs.length) : (rng xs lo hi).length = hi - lo := by
  unfold rng
  rw [List.length_take, List.length_drop]
  omega
theorem rng_all {α : Type} (xs : List α) (lo : Nat) : rng xs lo xs.length = xs.drop lo := by
  unfold rng
  rw [← List.length_drop, List.take_length]
theorem cutA_rng {α : Type} (xs : List α) {lo hi : Nat} (h : lo ≤ xs.length) : cutA xs (some (lo : Int)) (some (hi : Int)) = rng xs lo (min hi xs.length) := by
  unfold cutA rng
  rw [HT.sIx_nat, HT.sIx_nat, Nat.min_eq_left h]
theorem Sds.rng {n : Nat} {ds : List PyData} (h : Sds n ds) (a b : Nat) : Sds n (Ap.rng ds a b) := (h.drop _).take _
section
variable {σ : L2.St} {H : Hp} {ta : TE} {p : Addr}
theorem et_isY (h : Ev ta σ H .non) : EvT (tTest (tOp (fun x y H Q => y = .non ∧ Q (.bl (decide (x = .non))) H) ta (tC .non))) σ H true := et_test (ev_is (ev_op h ev_c (fun G _ _ q => ⟨rfl, q G (Ex.refl G)⟩)) (by rfl))
theorem et_isR (h : Ev ta σ H (.ref p)) : EvT (tTest (tOp (fun x y H Q => y = .non ∧ Q (.bl (decide (x = .non))) H) ta (tC .non))) σ H false := et_test (ev_is (v := .bl (decide (V.ref p = .non))) (ev_op h ev_c (fun G _ _ q => ⟨rfl, q G (Ex.refl G)⟩)) (by rw [decide_eq_false (fun h => nomatch h)]))
theorem et_notY (h : Ev ta σ H .non) : EvT (tTest (tOp (fun x y H Q => y = .non ∧ Q (.bl (!decide (x = .non))) H) ta (tC .non))) σ H false := et_test (ev_is (ev_op h ev_c (fun G _ _ q => ⟨rfl, q G (Ex.refl G)⟩)) (by rfl))
theorem et_notR (h : Ev ta σ H (.ref p)) : EvT (tTest (tOp (fun x y H Q => y = .non ∧ Q (.bl (!decide (x = .non))) H) ta (tC .non))) σ H true := et_test (ev_is (v := .bl (!decide (V.ref p = .non))) (ev_op h ev_c (fun G _ _ q => ⟨rfl, q G (Ex.refl G)⟩)) (by rw [decide_eq_false (fun h => nomatch h)]; rfl))
end
theorem kit_own {K : PySem.W.Frag} {t : Value} {B : Addr} (hd : PySem.W.hasDictIn K B = true) (ht : PySem.W.typeIn K (.ref B) = some (.type "type")) (hs : PySem.W.subIn K t (.ref B) = some true) : PySem.W.kitOne K t (.ref B) = some true := by
  obtain ⟨cd, hc, _⟩ := PySem.W.any_some hd
  unfold PySem.W.kitOne
  split
  · rfl
  · show (if ((PySem.W.clsIn K B).isSome && PySem.W.typeIn K (.ref B) == some (.type "type")) = true then PySem.W.subIn K t (.ref B) else none) = some true
    rw [hc, ht, if_pos (by rfl)]
    exact hs
theorem kit_blt {K : PySem.W.Frag} {t : Value} {n : String} (hm : PySem.W.kitMeta n = true) (hs : PySem.W.subIn K t (.type n) = some true) : PySem.W.kitOne K t (.type n) = some true := by
  unfold PySem.W.kitOne
  split
  · rfl
  · show (if PySem.W.kitMeta n = true then PySem.W.subIn K t (.type n) else none) = some true
    rw [if_pos hm]
    exact hs
theorem err_mk {K : PySem.W.Frag} {h : Heap} {mg : Str → Option Value} {x y : Str} {C B : Addr} (X : K.In h) (G : h.Ns mainGlobals mg) (a : PySem.W.nsIn K mainGlobals x = some (some (.ref C))) (b : PySem.W.nsIn K mainGlobals y = some (some (.ref B))) (kp : PySem.W.keepIn K (.ref C) = true)
    (ex : PySem.W.excIn K C [.type "ValueError", .type "Exception", .type "BaseException", .type "object"] "ValueError.__new__" = true) (bs : PySem.W.subIn K (.ref C) (.type "BaseException") = some true) (ty : PySem.W.typeIn K (.ref C) = some (.type "type")) (ss : PySem.W.subIn K (.ref C) (.ref C) = some true)
    (hg : PySem.W.findIn K (.ref C) "__getattribute__" = some (some (.builtin "BaseException.__getattribute__"))) (hk : PySem.W.findIn K (.ref C) "__getattr__" = some none) (hd : PySem.W.hasDictIn K C = true) (ha : PySem.W.findIn K (.ref C) "__class__" = some (some (.builtin "object.__class__")))
    (hn : PySem.W.specialIn K (.builtin "object.__class__") "__get__" = some (some (.builtin "getset_descriptor.__get__"))) (ht : PySem.W.takesIn K (.builtin "object.__class__") = some true) (hm : PySem.W.mroIn K C (.type "object") = some true)
    (dB : PySem.W.hasDictIn K B = true) (tB : PySem.W.typeIn K (.ref B) = some (.type "type")) (sb : PySem.W.subIn K (.ref C) (.ref B) = some true) (sv : PySem.W.subIn K (.ref C) (.type "ValueError") = some true) : Err K mg x C B ∧ mg y = some (.ref B) :=
  ⟨⟨PySem.W.mg_of X G a, kp, ex, bs, ty, PySem.W.exm_ref bs hd ty ss, ⟨hg, hk, bs, hd, ha, hn, ht, hm⟩, kit_own dB tB sb, kit_blt (by decide +kernel) sv⟩, PySem.W.mg_of X G b⟩
end Ap

set_option Elab.async false
set_option linter.all false
set_option maxRecDepth 100000
namespace Ap
open PySem PySem.Spec PyProof.Rows L2 Evl
/-! ### any object: as data, and dicts besides (what is in a dict is left open) -/
mutual
inductive Dx (K : PySem.W.Frag) (H : Hp) : V → PyData → Prop
  | non : Dx K H .non .none
  | bl (b : Bool) : Dx K H (.bl b) (.bool b)
  | int (i : Int) : Dx K H (.int i) (.int i)
  | str (x : Str) : Dx K H (.str x) (.str x)
  | lst {a : Addr} {xs : List V} {ds : List PyData} : SqL K H a xs → DxAll K H xs ds → Dx K H (.ref a) (.list ds)
  | tup {a : Addr} {xs : List V} {ds : List PyData} : SqT K H a xs → DxAll K H xs ds → Dx K H (.ref a) (.tuple ds)
  | dic {a : Addr} {kvs : List (Key × V)} : H a = some (.dK kvs) → Dx K H (.ref a) (.dict [])
inductive DxAll (K : PySem.W.Frag) (H : Hp) : List V → List PyData → Prop
  | nil : DxAll K H [] []
  | cons {v : V} {vs : List V} {d : PyData} {ds : List PyData} : Dx K H v d → DxAll K H vs ds → DxAll K H (v :: vs) (d :: ds)
end
mutual
theorem dx_dp {K : PySem.W.Frag} {H : Hp} : ∀ (d : PyData) (v : V), Dx K H v d → d.canLay0 = true → Dp K H v d
  | .none, _, h, _ => by cases h; exact .non
  | .bool b, _, h, _ => by cases h; exact .bl b
  | .int i, _, h, _ => by cases h; exact .int i
  | .str x, _, h, _ => by cases h; exact .str x
  | .list ds, _, h, c => by
    cases h with
    | lst hs ha => exact .lst hs (dxa_dpa ds _ ha (by simpa [PyData.canLay0] using c))
  | .tuple ds, _, h, c => by
    cases h with
    | tup hs ha => exact .tup hs (dxa_dpa ds _ ha (by simpa [PyData.canLay0] using c))
  | .dict _, _, _, c => by simp [PyData.canLay0] at c
theorem dxa_dpa {K : PySem.W.Frag} {H : Hp} : ∀ (ds : List PyData) (vs : List V), DxAll K H vs ds → PyData.canLayAll0 ds = true → DpAll K H vs ds
  | [], _, h, _ => by cases h; exact .nil
  | d :: ds, _, h, c => by
    have c' : d.canLay0 = true ∧ PyData.canLayAll0 ds = true := by simpa [PyData.canLayAll0] using c
    cases h with
    | cons h1 h2 => exact .cons (dx_dp d _ h1 c'.1) (dxa_dpa ds _ h2 c'.2)
end
/-! ### data: what a value stands for, whatever grows around it -/
section
variable {K : PySem.W.Frag} {H H' : Hp}
mutual
theorem dx_mono (e : Ex H H') : ∀ (d : PyData) (v : V), Dx K H v d → Dx K H' v d
  | .none, _, h => by cases h; exact .non
  | .bool b, _, h => by cases h; exact .bl b
  | .int i, _, h => by cases h; exact .int i
  | .str x, _, h => by cases h; exact .str x
  | .list ds, _, h => by
    cases h with
    | lst hs ha => exact .lst (Evl.ex_l e hs) (dxa_mono e ds _ ha)
  | .tuple ds, _, h => by
    cases h with
    | tup hs ha => exact .tup (ex_t e hs) (dxa_mono e ds _ ha)
  | .dict _, _, h => by
    cases h with
    | dic h => exact .dic (e _ _ h)
theorem dxa_mono (e : Ex H H') : ∀ (ds : List PyData) (vs : List V), DxAll K H vs ds → DxAll K H' vs ds
  | [], _, h => by cases h; exact .nil
  | d :: ds, _, h => by
    cases h with
    | cons h1 h2 => exact .cons (dx_mono e d _ h1) (dxa_mono e ds _ h2)
end
theorem dxa_len : ∀ {vs : List V} {ds : List PyData}, DxAll K H vs ds → vs.length = ds.length
  | _, _, .nil => rfl
  | _, _, .cons _ h => by rw [List.length_cons, List.length_cons, dxa_len h]
theorem dxa_at : ∀ {vs : List V} {ds : List PyData} {i : Nat} {d : PyData}, DxAll K H vs ds → ds[i]? = some d → ∃ v, vs[i]? = some v ∧ Dx K H v d
  | _, _, i, d, .nil, h => by simp at h
  | _, _, 0, d, .cons h1 _, h => ⟨_, rfl, by
    have e := Option.some.inj (show some _ = some d from h)
    rw [← e]
    exact h1⟩
  | _, _, i + 1, d, .cons _ h2, h => by
    obtain ⟨v, e, q⟩ := dxa_at (i := i) h2 (by simpa using h)
    exact ⟨v, by simpa using e, q⟩
theorem dxa_atV : ∀ {vs : List V} {ds : List PyData} {i : Nat} {v : V}, DxAll K H vs ds → vs[i]? = some v → ∃ d, ds[i]? = some d ∧ Dx K H v d
  | _, _, i, v, .nil, h => by simp at h
  | _, _, 0, v, .cons h1 _, h => ⟨_, rfl, by
    have e := Option.some.inj (show some _ = some v from h)
    rw [← e]
    exact h1⟩
  | _, _, i + 1, v, .cons _ h2, h => by
    obtain ⟨d, e, q⟩ := dxa_atV (i := i) h2 (by simpa using h)
    exact ⟨d, by simpa using e, q⟩
theorem dxa_app : ∀ {vs ws : List V} {ds es : List PyData}, DxAll K H vs ds → DxAll K H ws es → DxAll K H (vs ++ ws) (ds ++ es)
  | _, _, _, _, .nil, h => h
  | _, _, _, _, .cons h1 h2, h => .cons h1 (dxa_app h2 h)
theorem dxa_one {v : V} {d : PyData} (h : Dx K H v d) : DxAll K H [v] [d] := .cons h .nil
theorem dxa_drop : ∀ {vs : List V} {ds : List PyData} (n : Nat), DxAll K H vs ds → DxAll K H (vs.drop n) (ds.drop n)
  | _, _, 0, h => h
  | _, _, n + 1, .nil => .nil
  | _, _, n + 1, .cons _ h2 => dxa_drop n h2
theorem dxa_take : ∀ {vs : List V} {ds : List PyData} (n : Nat), DxAll K H vs ds → DxAll K H (vs.take n) (ds.take n)
  | _, _, 0, _ => .nil
  | _, _, n + 1, .nil => .nil
  | _, _, n + 1, .cons h1 h2 => .cons h1 (dxa_take n h2)
theorem dxa_ints : ∀ (ns : List Int), DxAll K H (ns.map V.int) (ns.map PyData.int)
  | [] => .nil
  | n :: r => .cons (.int n) (dxa_ints r)
end

/-! ### what evaluates to data -/
def EvX (K : PySem.W.Frag) (te : TE) (σ : L2.St) (H : Hp) (d : PyData) : Prop := ∀ H1, Ex H H1 → ∀ Q : VK, (∀ v H2, Ex H1 H2 → Dx K (ov H H1 H2) v d → Q v H2) → te σ H1 Q
def EvXs (K : PySem.W.Frag) (ta : TA) (σ : L2.St) (H : Hp) (ds : List PyData) : Prop := ∀ H1, Ex H H1 → ∀ Q : List V → Hp → Prop, (∀ vs H2, Ex H1 H2 → DxAll K (ov H H1 H2) vs ds → Q vs H2) → ta σ H1 Q
/-- a new list of data -/
def EvXN (K : PySem.W.Frag) (te : TE) (σ : L2.St) (H : Hp) (ds : List PyData) : Prop := ∀ H1, Ex H H1 → ∀ Q : VK, (∀ p xs H2, H1 p = none → Ex H1 H2 → H2 p = some (.lst xs) → DxAll K (ov H H1 H2) xs ds → Q (.ref p) H2) → te σ H1 Q
section
variable {K : PySem.W.Frag} {σ : L2.St} {H H' : Hp} {ta tb tc te : TE} {t u : TT} {x y z v w : V} {d e : PyData} {ds es : List PyData} {r : R2}
theorem ex_of (h : Ev te σ H v) (hd : Dx K H v d) : EvX K te σ H d := fun H1 e Q q => h H1 e Q fun H2 e2 => q v H2 e2 (dx_mono ov_base d v hd)
theorem ex_var {i : Nat} (h : σ[i]? = some (some v)) (hd : Dx K H v d) : EvX K (tVar i) σ H d := ex_of (ev_var h) hd
theorem ex_int {i : Int} (h : Ev te σ H (.int i)) : EvX K te σ H (.int i) := ex_of h (.int i)
theorem ex_str {s : Str} : EvX K (tC (.str s)) σ H (.str s) := ex_of ev_c (.str s)
theorem ex_bool {b : Bool} (h : Ev te σ H (.bl b)) : EvX K te σ H (.bool b) := ex_of h (.bl b)
theorem ex_non : EvX K (tC .non) σ H .none := ex_of ev_c .non
theorem ex_is (h : EvX K te σ H d) (q : d = e) : EvX K te σ H e := q ▸ h
theorem EvX.mono (e : Ex H H') (h : EvX K te σ H d) : EvX K te σ H' d := fun H1 a Q q => h H1 (e.trans a) Q fun v H2 e2 hd => q v H2 e2 (dx_mono (fun b o hb => by
  unfold ov at hb ⊢
  cases h0 : H b with
  | some o' => rw [h0] at hb; rw [e b o' h0]; exact hb
  | none =>
    rw [h0] at hb
    cases h1 : H1 b with
    | some o' => rw [h1] at hb; cases hb
    | none =>
      rw [h1] at hb
      rw [fresh_back a h1]
      exact hb) d v hd)
theorem exs_nil : EvXs K tNil σ H [] := fun H1 _ _ q => q [] H1 (Ex.refl H1) .nil
theorem exs_cons {tr : TA} (h : EvX K te σ H d) (hr : EvXs K tr σ H ds) : EvXs K (tCons te tr) σ H (d :: ds) := fun H1 e Q q =>
  h H1 e _ fun v H2 e2 hv => hr H2 (e.trans e2) _ fun vs H3 e3 hs => q _ H3 (e2.trans e3) (.cons (dx_mono (ov_grow e3) d v hv) (dxa_mono (ov_later e2) ds vs hs))
theorem ex_tup {ta : TA} (h : EvXs K ta σ H ds) (hl : ds.length ≤ 100000) : EvX K (tTup ta) σ H (.tuple ds) := fun H1 e Q q =>
  h H1 e _ fun vs H2 e2 hs => ⟨by rw [dxa_len hs]; exact sz_of hl, fun p hp => q _ _ (e2.trans (Ex.new hp)) (.tup (st_of (ov_new e e2 hp)) (dxa_mono (ov_grow (Ex.new hp)) ds vs hs))⟩
theorem exn_lst {ta : TA} (h : EvXs K ta σ H ds) (hl : ds.length ≤ 100000) : EvXN K (tLst ta) σ H ds := fun H1 e Q q =>
  h H1 e _ fun vs H2 e2 hs => ⟨by rw [dxa_len hs]; exact sz_of hl, fun p hp => q p vs _ (fresh_back e2 hp) (e2.trans (Ex.new hp)) upd_same (dxa_mono (ov_grow (Ex.new hp)) ds vs hs)⟩
theorem ex_new (h : EvXN K te σ H ds) : EvX K te σ H (.list ds) := fun H1 e Q q => h H1 e _ fun p xs H2 np e2 hp hs => q _ H2 e2 (.lst (sq_of (by
  have h1 := fresh_back e np
  unfold ov
  rw [h1, np]
  exact hp)) hs)
theorem ex_ixT {i : Int} (ha : EvX K ta σ H (.tuple ds)) (hb : Ev tb σ H (.int i)) (h : atI ds i = some d) : EvX K (tOp (rIxT K) ta tb) σ H d := fun H1 e Q q =>
  ha H1 e _ fun v H2 e2 hv => hb H2 (e.trans e2) _ fun H3 e3 => by
    cases hv with
    | tup hs hd =>
      obtain ⟨j, hj, hx⟩ := atI_len (dxa_len hd) h
      obtain ⟨x, ex, dx⟩ := dxa_at hd hj
      exact ⟨_, _, i, x, rfl, rfl, ex_t ((ov_ex e e2).trans e3) hs, hx x ex, q x H3 (e2.trans e3) (dx_mono (ov_grow e3) d x dx)⟩
theorem ex_ixL {i : Int} (ha : EvX K ta σ H (.list ds)) (hb : Ev tb σ H (.int i)) (h : atI ds i = some d) : EvX K (tOp (rIxL K) ta tb) σ H d := fun H1 e Q q =>
  ha H1 e _ fun v H2 e2 hv => hb H2 (e.trans e2) _ fun H3 e3 => by
    cases hv with
    | lst hs hd =>
      obtain ⟨j, hj, hx⟩ := atI_len (dxa_len hd) h
      obtain ⟨x, ex, dx⟩ := dxa_at hd hj
      exact ⟨_, _, i, x, rfl, rfl, Evl.ex_l ((ov_ex e e2).trans e3) hs, hx x ex, q x H3 (e2.trans e3) (dx_mono (ov_grow e3) d x dx)⟩
theorem dxa_cut {vs : List V} {lo hi : Option Int} (h : DxAll K H vs ds) : DxAll K H (cutV vs lo hi) (cutA ds lo hi) := by
  unfold cutV cutA
  rw [dxa_len h]
  exact dxa_take _ (dxa_drop _ h)
theorem ex_slT {tl th : TO} {lo hi : Option Int} (h : EvX K te σ H (.tuple ds)) (h1 : EvO tl σ H lo) (h2 : EvO th σ H hi) : EvX K (tSl (rSlA K) te tl th) σ H (.tuple (cutA ds lo hi)) := fun H1 e Q q =>
  h H1 e _ fun v H2 e2 hv => h1 H2 (e.trans e2) _ fun H3 e3 => h2 H3 ((e.trans e2).trans e3) _ fun H4 e4 => by
    have e24 := e2.trans (e3.trans e4)
    cases hv with
    | @tup a xs _ hs hd =>
      refine ⟨a, xs, rfl, ex_t ((ov_ex e e2).trans (e3.trans e4)) hs, fun hw => q _ H4 e24 (.tup (ex_t (ov_grow (e3.trans e4)) hs) ?_), fun _ p hp => q _ _ (e24.trans (Ex.new hp)) (.tup (st_of (ov_new e e24 hp)) (dxa_cut (dxa_mono (ov_grow ((e3.trans e4).trans (Ex.new hp))) ds xs hd)))⟩
      have ec : cutA ds lo hi = ds := by
        unfold cutA
        rw [← dxa_len hd, hw.1, hw.2, List.drop_zero, Nat.sub_zero, dxa_len hd, List.take_length]
      rw [ec]
      exact dxa_mono (ov_grow (e3.trans e4)) ds xs hd
theorem exn_slL {tl th : TO} {lo hi : Option Int} (h : EvX K te σ H (.list ds)) (h1 : EvO tl σ H lo) (h2 : EvO th σ H hi) : EvXN K (tSl (rSlL K) te tl th) σ H (cutA ds lo hi) := fun H1 e Q q =>
  h H1 e _ fun v H2 e2 hv => h1 H2 (e.trans e2) _ fun H3 e3 => h2 H3 ((e.trans e2).trans e3) _ fun H4 e4 => by
    have e24 := e2.trans (e3.trans e4)
    cases hv with
    | @lst a xs _ hs hd =>
      exact ⟨a, xs, rfl, Evl.ex_l ((ov_ex e e2).trans (e3.trans e4)) hs, fun p hp => q p _ _ (fresh_back e24 hp) (e24.trans (Ex.new hp)) upd_same (dxa_cut (dxa_mono (ov_grow ((e3.trans e4).trans (Ex.new hp))) ds xs hd))⟩
theorem ex_catT (ha : EvX K ta σ H (.tuple ds)) (hb : EvX K tb σ H (.tuple es)) (hl : ds.length + es.length ≤ 100000) : EvX K (tOp (rCatA K) ta tb) σ H (.tuple (ds ++ es)) := fun H1 e Q q =>
  ha H1 e _ fun v H2 e2 hv => hb H2 (e.trans e2) _ fun w H3 e3 hw => by
    have e13 := e2.trans e3
    cases hv with
    | @tup a xs _ hs hd =>
      cases hw with
      | @tup b ys _ ht he =>
        have hs3 := ex_t ((ov_ex e e2).trans e3) hs
        have ht3 := ex_t (ov_ex (e.trans e2) e3) ht
        have hd3 := dxa_mono (ov_grow e3) ds xs hd
        have he3 := dxa_mono (ov_later e2) es ys he
        have ld := dxa_len hd
        have le := dxa_len he
        refine ⟨a, b, xs, ys, rfl, rfl, hs3, ht3, sz_of (by omega), fun h0 => ?_, fun _ h0 => ?_, fun _ _ p hp => q _ _ (e13.trans (Ex.new hp)) (.tup (st_of (ov_new e e13 hp)) (dxa_app (dxa_mono (ov_grow (Ex.new hp)) ds xs hd3) (dxa_mono (ov_grow (Ex.new hp)) es ys he3)))⟩
        · have z : ds = [] := List.eq_nil_of_length_eq_zero (by rw [← ld, h0]; rfl)
          subst z
          exact q _ _ e13 (.tup (ex_t (ov_later e2) ht) he3)
        · have z : es = [] := List.eq_nil_of_length_eq_zero (by rw [← le, h0]; rfl)
          subst z
          exact q _ _ e13 (.tup (ex_t (ov_grow e3) hs) (by rw [List.append_nil]; exact hd3))
theorem exn_cat (ha : EvXN K ta σ H ds) (hb : EvXN K tb σ H es) (hl : ds.length + es.length ≤ 100000) : EvXN K (tOp rCat ta tb) σ H (ds ++ es) := fun H1 e Q q =>
  ha H1 e _ fun p xs H2 np e2 hp hs => hb H2 (e.trans e2) _ fun p' ys H3 np' e3 hp' ht =>
    ⟨p, p', xs, ys, rfl, rfl, e3 _ _ hp, hp', by rw [dxa_len hs, dxa_len ht]; exact sz_of hl, fun o ho => q o _ _ (fresh_back (e2.trans e3) ho) ((e2.trans e3).trans (Ex.new ho)) upd_same
      (dxa_app (dxa_mono (ov_grow (e3.trans (Ex.new ho))) ds xs hs) (dxa_mono ((ov_later e2).trans (ov_grow (Ex.new ho))) es ys ht))⟩
/-- a list that stands in the base, by its items -/
theorem exn_tup {a : Addr} {xs : List V} (ha : Ev ta σ H (.ref a)) (hs : SqL K H a xs) (hd : DxAll K H xs ds) : EvX K (tThen ta (kTup K)) σ H (.tuple ds) := fun H1 e Q q =>
  ha H1 e _ fun H2 e2 => .inl ⟨a, xs, rfl, Evl.ex_l (e.trans e2) hs, fun p hp => q _ _ (e2.trans (Ex.new hp)) (.tup (st_of (ov_new e e2 hp)) (dxa_mono ov_base ds xs hd))⟩
theorem ex_tupOf (ha : EvX K ta σ H (.list ds)) : EvX K (tThen ta (kTup K)) σ H (.tuple ds) := fun H1 e Q q =>
  ha H1 e _ fun v H2 e2 hv => by
    cases hv with
    | @lst a xs _ hs hd => exact .inl ⟨a, xs, rfl, Evl.ex_l (ov_ex e e2) hs, fun p hp => q _ _ (e2.trans (Ex.new hp)) (.tup (st_of (ov_new e e2 hp)) (dxa_mono (ov_grow (Ex.new hp)) ds xs hd))⟩
theorem ev_eqX {n m : Nat} (ha : EvX K ta σ H d) (hb : EvX K tb σ H e) (sd : Sd n d) (se : Sd m e) (hn : n ≤ 64) (hm : m ≤ 64) : Ev (tOp (rEqD K) ta tb) σ H (.bl (PyData.eqv d e)) := fun H1 a Q q =>
  ha H1 a _ fun v H2 e2 hv => hb H2 (a.trans e2) _ fun w H3 e3 hw => ⟨d, e, dx_dp _ _ (dx_mono ((ov_ex a e2).trans e3) d v hv) sd.1, dx_dp _ _ (dx_mono (ov_ex (a.trans e2) e3) e w hw) se.1, sd.shaped hn, se.shaped hm, q H3 (e2.trans e3)⟩
theorem ev_neX {n m : Nat} (ha : EvX K ta σ H d) (hb : EvX K tb σ H e) (sd : Sd n d) (se : Sd m e) (hn : n ≤ 64) (hm : m ≤ 64) : Ev (tOp (rNeD K) ta tb) σ H (.bl (!PyData.eqv d e)) := fun H1 a Q q =>
  ha H1 a _ fun v H2 e2 hv => hb H2 (a.trans e2) _ fun w H3 e3 hw => ⟨d, e, dx_dp _ _ (dx_mono ((ov_ex a e2).trans e3) d v hv) sd.1, dx_dp _ _ (dx_mono (ov_ex (a.trans e2) e3) e w hw) se.1, sd.shaped hn, se.shaped hm, q H3 (e2.trans e3)⟩
/-- the two sides are one: != is False -/
theorem ev_neSelfX {n : Nat} (ha : EvX K ta σ H d) (hb : EvX K tb σ H d) (sd : Sd n d) (hn : n ≤ 64) : Ev (tOp (rNeD K) ta tb) σ H (.bl false) := ev_is (ev_neX ha hb sd sd hn hn) (by rw [sd.self]; rfl)
theorem ev_eqSelfX {n : Nat} (ha : EvX K ta σ H d) (hb : EvX K tb σ H d) (sd : Sd n d) (hn : n ≤ 64) : Ev (tOp (rEqD K) ta tb) σ H (.bl true) := ev_is (ev_eqX ha hb sd sd hn hn) (by rw [sd.self])
theorem ev_lenX (ha : EvX K ta σ H (.list ds)) : Ev (tCB (fun xs H Q => ∃ p ys, xs = [.ref p] ∧ (SqL K H p ys ∨ SqT K H p ys) ∧ Q (.int ys.length) H) (tCons ta tNil)) σ H (.int (ds.length : Int)) := fun H1 e Q q =>
  ha H1 e _ fun v H2 e2 hv => by
    cases hv with
    | @lst a xs _ hs hd => exact ⟨a, xs, rfl, .inl (Evl.ex_l (ov_ex e e2) hs), by rw [dxa_len hd]; exact q H2 e2⟩
theorem ev_lenXT (ha : EvX K ta σ H (.tuple ds)) : Ev (tCB (fun xs H Q => ∃ p ys, xs = [.ref p] ∧ (SqL K H p ys ∨ SqT K H p ys) ∧ Q (.int ys.length) H) (tCons ta tNil)) σ H (.int (ds.length : Int)) := fun H1 e Q q =>
  ha H1 e _ fun v H2 e2 hv => by
    cases hv with
    | @tup a xs _ hs hd => exact ⟨a, xs, rfl, .inr (ex_t (ov_ex e e2) hs), by rw [dxa_len hd]; exact q H2 e2⟩
theorem ex_if {b : Bool} (h : EvT t σ H b) (h1 : b = true → EvX K ta σ H d) (h2 : b = false → EvX K tb σ H d) : EvX K (tIf t ta tb) σ H d := fun H1 e Q q => h H1 e _ fun H2 e2 => by
  cases b with
  | true =>
    show ta σ H2 Q
    exact h1 rfl H2 (e.trans e2) Q fun v H3 e3 hv => q v H3 (e2.trans e3) (dx_mono (ov_later e2) d v hv)
  | false =>
    show tb σ H2 Q
    exact h2 rfl H2 (e.trans e2) Q fun v H3 e3 hv => q v H3 (e2.trans e3) (dx_mono (ov_later e2) d v hv)
/-- a promise that gives data, over a base that the caller names -/
def RetX (K : PySem.W.Frag) (B : Hp) (d : PyData) (H : Hp) (Q : VK) : Prop := ∀ v H2, Ex H H2 → Dx K (ov B H H2) v d → Q v H2
def SpX (K : PySem.W.Frag) (sp : Sp) (vs : List V) (H : Hp) (d : PyData) : Prop := ∀ H1, Ex H H1 → ∀ Q : VK, (∀ v H2, Ex H1 H2 → Dx K (ov H H1 H2) v d → Q v H2) → ∀ E : XK, sp vs H1 Q E
theorem ex_call {sp : Sp} {dvs vs : List V} {E : XK} {ta : TA} (h : EvA ta σ H vs) (hs : SpX K sp (vs ++ dvs) H d) : EvX K (tCall sp dvs E ta) σ H d := fun H1 e Q q =>
  h H1 e _ fun H2 e2 => hs H2 (e.trans e2) Q (fun v H3 e3 hv => q v H3 (e2.trans e3) (dx_mono (ov_later e2) d v hv)) E
/-! ### statements -/
variable {D : Ends} {tz : TS} {i : Nat}
theorem dx_all {H2 : Hp} {v : V} {d : PyData} (e : Ex H H2) (h : Dx K (ov H H H2) v d) : Dx K H2 v d := dx_mono (ov_ex (Ex.refl H) e) d v h
theorem q_asgX (h : EvX K te σ H d) (k : ∀ v H1, Ex H H1 → Dx K H1 v d → tz D (σ.set i (some v)) H1) : tSeq (tAsg te (gName i)) tz D σ H := h H (Ex.refl H) _ fun v H1 e hv => k v H1 e (dx_mono (ov_ex (Ex.refl H) e) d v hv)
theorem s_asgX (h : EvX K te σ H d) (k : ∀ v H1, Ex H H1 → Dx K H1 v d → D.nx (σ.set i (some v)) H1) : tAsg te (gName i) D σ H := h H (Ex.refl H) _ fun v H1 e hv => k v H1 e (dx_mono (ov_ex (Ex.refl H) e) d v hv)
theorem q_asgXN (h : EvXN K te σ H ds) (k : ∀ p xs H1, H p = none → Ex H H1 → H1 p = some (.lst xs) → DxAll K H1 xs ds → tz D (σ.set i (some (.ref p))) H1) : tSeq (tAsg te (gName i)) tz D σ H :=
  h H (Ex.refl H) _ fun p xs H1 np e hp hs => k p xs H1 np e hp (dxa_mono (ov_ex (Ex.refl H) e) ds xs hs)
theorem q_asgXB {B : Hp} (eB : Ex B H) (h : EvX K te σ B d) (k : ∀ v H1, Ex H H1 → Dx K (ov B H H1) v d → tz D (σ.set i (some v)) H1) : tSeq (tAsg te (gName i)) tz D σ H := h H eB _ fun v H1 e hv => k v H1 e hv
theorem s_retXB {B : Hp} (eB : Ex B H) (h : EvX K te σ B d) (k : ∀ v H1, Ex H H1 → Dx K (ov B H H1) v d → D.rt v H1) : tRet te D σ H := h H eB _ k
theorem s_retX (h : EvX K te σ H d) (k : ∀ v H1, Ex H H1 → Dx K (ov H H H1) v d → D.rt v H1) : tRet te D σ H := h H (Ex.refl H) _ k
/-! ### a comprehension over a range, its items data -/
/-- the word of a comprehension over the base B, begun at H1: the items lean on the base and on what is new, not on the list itself -/
def CwX (K : PySem.W.Frag) (B H1 : Hp) (f : Nat → Bool) (g : Nat → PyData) (Dl : Addr) (i : Nat) (H' : Hp) : Prop := Ex B H' ∧ Ex H1 H' ∧ ∃ acc, H' Dl = some (.lst acc) ∧ DxAll K (ov B (upd H1 Dl (.lst [])) H') acc (givenD i f g)
theorem cwX_turn {B H1 H' : Hp} {f : Nat → Bool} {g : Nat → PyData} {Dl : Addr} {i : Nat} {σ2 : L2.St} (b1 : Ex B H1) (nD : H1 Dl = none) (p : CwX K B H1 f g Dl i H') (hi : i < 50000) (ht : EvT t σ2 B (f i)) (he : f i = true → EvX K te σ2 B (g i)) :
    t σ2 H' fun b H3 => if b = true then te σ2 H3 fun y H4 => ∃ acc, H4 Dl = some (.lst acc) ∧ acc.length < sizeLine ∧ CwX K B H1 f g Dl (i + 1) (upd H4 Dl (.lst (acc ++ [y]))) else CwX K B H1 f g Dl (i + 1) H3 := by
  obtain ⟨p1, p2, acc, p3, p4⟩ := p
  have nB : B Dl = none := fresh_back b1 nD
  refine ht H' p1 _ fun H3 e3 => ?_
  cases hf : f i with
  | true =>
    show te σ2 H3 fun y H4 => ∃ acc, H4 Dl = some (.lst acc) ∧ acc.length < sizeLine ∧ CwX K B H1 f g Dl (i + 1) (upd H4 Dl (.lst (acc ++ [y])))
    refine he hf H3 (p1.trans e3) _ fun y H4 e4 hy => ⟨acc, e4 Dl _ (e3 Dl _ p3), sz_lt (by rw [dxa_len p4]; have := givenD_len i f g; omega), Ex.mut ((p1.trans e3).trans e4) nB, Ex.mut ((p2.trans e3).trans e4) nD, _, upd_same, ?_⟩
    have k1 : Ex (ov B H3 H4) (ov B (upd H1 Dl (.lst [])) (upd H4 Dl (.lst (acc ++ [y])))) := fun a o ha => by
      unfold ov at ha ⊢
      cases h0 : B a with
      | some o' => rw [h0] at ha; exact ha
      | none =>
        rw [h0] at ha
        cases h3 : H3 a with
        | some o' => rw [h3] at ha; cases ha
        | none =>
          rw [h3] at ha
          have ne : a ≠ Dl := fun e => by
            rw [e, e3 Dl _ p3] at h3
            cases h3
          rw [upd_ne ne, fresh_back (p2.trans e3) h3]
          show upd H4 Dl _ a = some o
          rw [upd_ne ne]
          exact ha
    have k2 : Ex (ov B (upd H1 Dl (.lst [])) H') (ov B (upd H1 Dl (.lst [])) (upd H4 Dl (.lst (acc ++ [y])))) := fun a o ha => by
      unfold ov at ha ⊢
      cases h0 : B a with
      | some o' => rw [h0] at ha; exact ha
      | none =>
        rw [h0] at ha
        by_cases ne : a = Dl
        · rw [ne, upd_same] at ha
          cases ha
        · rw [upd_ne ne] at ha ⊢
          cases h1 : H1 a with
          | some o' => rw [h1] at ha; cases ha
          | none =>
            rw [h1] at ha
            show upd H4 Dl _ a = some o
            rw [upd_ne ne]
            exact e4 a o (e3 a o ha)
    rw [givenD_yes hf]
    exact dxa_app (dxa_mono k2 _ _ p4) (dxa_one (dx_mono k1 _ _ hy))
  | false =>
    show CwX K B H1 f g Dl (i + 1) H3
    refine ⟨p1.trans e3, p2.trans e3, acc, e3 Dl _ p3, ?_⟩
    rw [givenD_no hf]
    exact dxa_mono (ov_grow e3) _ _ p4
theorem cwX_start {B H1 : Hp} {f : Nat → Bool} {g : Nat → PyData} {Dl : Addr} (b1 : Ex B H1) (nD : H1 Dl = none) : CwX K B H1 f g Dl 0 (upd H1 Dl (.lst [])) := ⟨b1.trans (Ex.new nD), Ex.new nD, [], upd_same, .nil⟩
theorem cwX_end {B H1 H' : Hp} {f : Nat → Bool} {g : Nat → PyData} {Dl : Addr} {n : Nat} (p : CwX K B H1 f g Dl n H') : ∃ acc, H' Dl = some (.lst acc) ∧ DxAll K (ov B H1 H') acc (givenD n f g) := by
  obtain ⟨_, _, acc, p3, p4⟩ := p
  refine ⟨acc, p3, dxa_mono (fun a o ha => ?_) _ _ p4⟩
  unfold ov at ha ⊢
  cases h0 : B a with
  | some o' => rw [h0] at ha; exact ha
  | none =>
    rw [h0] at ha
    by_cases ne : a = Dl
    · rw [ne, upd_same] at ha
      cases ha
    · rw [upd_ne ne] at ha
      exact ha
theorem exn_lcR1 {ta : TA} {j : Nat} {vs : List Nat} {n : Int} (f : Nat → Bool) (g : Nat → PyData) (h : EvA ta σ H [.int n]) (hn : 0 ≤ n ∧ n ≤ 40000) (hw : ∀ x, wipe ((wipe σ vs).set j (some x)) vs = wipe σ vs)
    (ht : ∀ i : Nat, (i : Int) < n → EvT t ((wipe σ vs).set j (some (.int (i : Int)))) H (f i)) (he : ∀ i : Nat, (i : Int) < n → f i = true → EvX K te ((wipe σ vs).set j (some (.int (i : Int)))) H (g i)) :
    EvXN K (tLc (iRng1 ta) (gName j) t te vs) σ H (givenD n.toNat f g) := fun H0 e Q q => h H0 e _ fun H1 e1 => ⟨n, rfl, by omega, by omega, fun Dl hD =>
  lc_range (lo := 0) (n := n.toNat) (CwX K H H1 f g Dl) (cwX_start (e.trans e1) hD) (fun i H' hi p => by
    have e0 : (0 : Int) + (i : Int) = (i : Int) := Int.zero_add _
    show wipe ((wipe σ vs).set j (some (.int ((0 : Int) + (i : Int))))) vs = wipe σ vs ∧ t ((wipe σ vs).set j (some (.int ((0 : Int) + (i : Int))))) H' fun b H3 => if b = true then te ((wipe σ vs).set j (some (.int ((0 : Int) + (i : Int))))) H3 fun y H4 => ∃ acc, H4 Dl = some (.lst acc) ∧ acc.length < sizeLine ∧ CwX K H H1 f g Dl (i + 1) (upd H4 Dl (.lst (acc ++ [y]))) else CwX K H H1 f g Dl (i + 1) H3
    rw [e0]
    exact ⟨hw _, cwX_turn (e.trans e1) hD p (by omega) (ht i (by omega)) (fun hf => he i (by omega) hf)⟩) (fun H' p => by
      obtain ⟨acc, h1, h2⟩ := cwX_end p
      exact q Dl acc H' (fresh_back e1 hD) (e1.trans p.2.1) h1 (dxa_mono (ov_later e1) _ _ h2))⟩
end
end Ap

set_option Elab.async false
set_option linter.all false
set_option maxRecDepth 100000
set_option maxHeartbeats 2000000
namespace Ap
open PySem PySem.Spec PyProof.Rows L2 Evl
/-! ### a set comprehension whose items are keys (integers, texts): the library tells it of truth values alone -/
def emptySet (w : World) : Obj := { cls := .type "set", dict := none, data := .set #[] 0 (.fresh 0 0 (!w.params.followText "set-order")) }
theorem emptySet_of {P : Program} {w : World} {h : Heap} : (h.push (emptySet w)).SetOf (mixKind P w) h.objs.size (fun _ => false) 0 :=
  ⟨_, #[], 0, _, Heap.get?_push_size _ rfl, ⟨rfl, rfl, rfl⟩, rfl, (fun e he => by simp at he), (fun k => by simp), (by decide), (by rfl), rfl⟩
/-- the set of no keys at D -/
abbrev hp0 (P : Program) (w : World) (H : Hp) (D : Addr) : Hp := upd H D (SetK P w D (fun _ => false) 0)
/-- the set at D with one key more -/
def Adds (P : Program) (w : World) (D : Addr) (Nx : Hp → Prop) : VK := fun y H => ∃ (k : Key) (S : Key → Bool) (n : Nat), y = kV k ∧ H D = some (SetK P w D S n) ∧ n + 1 < scanBound ∧ Nx (upd H D (SetK P w D (fun j => S j || decide (j = k)) (if S k = true then n else n + 1)))
def ScTurns (P : Program) (w : World) (g : TG) (tt : TT) (te : TE) (τ : L2.St) (vs : List Nat) (D : Addr) (J : It) (Qe : Hp → Prop) (W : Nat → Nat → Hp → Prop) : Prop := ∀ i m H, W i m H →
  (J.stop i H ∧ Qe H) ∨ (J.go i H ∧ ∃ Nx : Hp → Prop, (∀ H', Nx H' → ∃ m', m' < m ∧ W (i + 1) m' H') ∧
    ∀ x H', J.yld i H x H' → g x τ H' fun σ2 H2 => wipe σ2 vs = τ ∧ tt σ2 H2 fun b H3 => if b = true then te σ2 H3 (Adds P w D Nx) else Nx H3)
def tScK (P : Program) (w : World) (wi : TI) (g : TG) (tt : TT) (te : TE) (vs : List Nat) : TE := fun σ H Q => wi σ H fun J H1 => ∀ D, H1 D = none → ∃ W : Nat → Nat → Hp → Prop, (∃ m, W 0 m (hp0 P w H1 D)) ∧ ScTurns P w g tt te (wipe σ vs) vs D J (fun H => Q (.ref D) H) W
section
variable {X : Cx}
theorem adds_ok {pins : List (Addr × Obj)} {σ : L2.St} {H : Hp} {s : Shared} {D : Addr} {Nx : Hp → Prop} {y : V} {u : Value} {E : Value → Shared → Prop} {A : Around} {Q : Value → Shared → Prop} (I : Inv X pins σ H s) (r : RelV y u) (a : Adds X.prog X.w D Nx y H)
    (h : ∀ H' s', Inv X pins σ H' s' → Nx H' → Q .none s') : wpAny (model X.prog X.w) A (call (.builtin "set.add") [.ref D, u]) Q E s := by
  obtain ⟨k, S, n, rfl, hD, room, nx⟩ := a
  refine call_set_add (kV_is r) (key_scan r) (setK_get I hD) room fun h' sb new => ?_
  obtain ⟨o, _, _, _, ho, _⟩ := id new
  exact h _ _ (I.write (e := D) (t' := s.toks + 1) (by rw [hD]; trivial) (.inl rfl) (fun b v hb hv => (sb.2 b hb).trans hv) ⟨o, ho⟩ (setK_new new)) nx
theorem pe_scK {elt tg iter : Expr} {ifs : List Expr} {scope : Scope} {own : List (PySem.Str × Nat)} {pos : Pos} {wi : TI} {g : TG} {tt : TT} {te : TE} (hc : X.calm = true) (hN : X.N.Nodup) (hi : PI X tg iter wi) (ok : BlkOk X.N X.env.scope scope own)
    (hg : ∀ (s : Shared) (H : Hp) (C : Addr) (cl : List (PySem.Str × Addr)) (fp : List Addr), PG (X.blk s H scope (compEnvC scope cl C X.env) fp) tg g) (ht : ∀ (s : Shared) (H : Hp) (C : Addr) (cl : List (PySem.Str × Addr)) (fp : List Addr), PTs (X.blk s H scope (compEnvC scope cl C X.env) fp) ifs tt)
    (he : ∀ (s : Shared) (H : Hp) (C : Addr) (cl : List (PySem.Str × Addr)) (fp : List Addr), PE (X.blk s H scope (compEnvC scope cl C X.env) fp) elt te) (hs : ∀ x, foldedSetIterable iter X.env x = pure x := by intro _; rfl) :
    PE X (.SetComp elt [⟨tg, iter, ifs, 0⟩] scope pos) (tScK X.prog X.w wi g tt te (own.map (·.2))) := by
  refine ⟨fun pins s σ H Q I h => ?_⟩
  rw [PpSet.eval_SetComp]
  -- the closure, the iterated thing, its iterator
  refine wpAny_comprehension_free (use := none) rfl hs (closure_ok fun y hy e => (ok.free y hy e).elim (fun k => I.ok.has _ (.inl k)) fun k => I.ok.has _ (.inr k)) ok.kind (fun y hy e => by rw [ok.uniq y hy, e])
    (thn (hi.run pins s σ H _ I h) fun xv s1 hx => thn hx fun itv s2 h2 => ?_)
  obtain ⟨it, fp, tn, J, H2, rfl, I2, T, st2, f2, q⟩ := h2
  -- the empty set
  refine PpSet.newSet_ok (newEnv_comp ?_)
  obtain ⟨D, hD⟩ : ∃ D, D = s2.heap.objs.size := ⟨_, rfl⟩
  rw [← hD]
  obtain ⟨W, ⟨m0, w0⟩, turn⟩ := q D (I2.hok.fresh (Nat.le_of_eq hD.symm))
  obtain ⟨s3, h3⟩ : ∃ s3 : Shared, s3 = { s2 with heap := s2.heap.push (emptySet X.w) } := ⟨_, rfl⟩
  have hs3 : s3.heap = s2.heap.push (emptySet X.w) := by rw [h3]
  have kp3 : ∀ b o, s2.heap.get? b = some o → s3.heap.get? b = some o := fun b o e => by rw [hs3]; exact Heap.get?_push_of_some _ e
  have I3 : Inv X pins σ (hp0 X.prog X.w H2 D) s3 := by
    rw [h3]
    refine I2.laid (t' := s2.toks) (fun b o e => Heap.get?_push_of_some _ e) (Nat.le_of_eq hD.symm) ?_
    rw [hD]
    exact setK_new emptySet_of
  obtain ⟨H3, hH3⟩ : ∃ H3, H3 = hp0 X.prog X.w H2 D := ⟨_, rfl⟩
  rw [← hH3] at I3 w0
  -- what the iterator keeps stays apart from it
  have f3 : ∀ b ∈ fp, FpOk X pins H3 b ∧ b < s3.heap.objs.size := fun b hb => by
    obtain ⟨o, e, _⟩ := T.obj _ _ st2 b hb
    have hlt := Heap.lt_size e
    refine ⟨⟨?_, (f2 b hb).2⟩, by rw [hs3, Heap.size_push]; exact Nat.lt_succ_of_lt hlt⟩
    rw [hH3]
    show upd H2 D _ b = none
    rw [upd_ne (by rw [hD]; exact Nat.ne_of_lt hlt)]
    exact (f2 b hb).1
  have n3 : ∀ b ∈ fp, H3 b = none := fun b hb => (f3 b hb).1.1
  -- the block's own variables
  have I4 := block_start I3 ok hN f3
  show codeAny _ _ (.compStart (.SetComp elt [⟨tg, iter, ifs, 0⟩] scope pos) 0 (.ref it) (.ref D) (compEnvC scope (cellsFrom ((s2.heap.push (emptySet X.w)).objs.size + 1) scope.names (cloFrom X.env.cells scope.names [])) (s2.heap.push (emptySet X.w)).objs.size X.env)) (compPost (model X.prog X.w) X.A X.xe none (EP X pins σ Q) (.ref D) (s2.heap.push (emptySet X.w)).objs.size) { s2 with heap := pushCells ((s2.heap.push (emptySet X.w)).push { cls := .type "dict", data := .dict #[] }) scope.names }
  rw [← hs3, show ({ s2 with heap := pushCells (s3.heap.push { cls := .type "dict", data := .dict #[] }) scope.names } : Shared) = { s3 with heap := pushCells (s3.heap.push { cls := .type "dict", data := .dict #[] }) scope.names } by rw [h3]]
  have pg := hg s3 H3 s3.heap.objs.size (cellsFrom (s3.heap.objs.size + 1) scope.names (cloFrom X.env.cells scope.names [])) fp
  have pt := ht s3 H3 s3.heap.objs.size (cellsFrom (s3.heap.objs.size + 1) scope.names (cloFrom X.env.cells scope.names [])) fp
  have pe := he s3 H3 s3.heap.objs.size (cellsFrom (s3.heap.objs.size + 1) scope.names (cloFrom X.env.cells scope.names [])) fp
  have st4 : tn 0 (pushCells (s3.heap.push { cls := .type "dict", data := .dict #[] }) scope.names) := T.keep _ _ _ st2 fun b _ o e => pushCells_keeps _ _ _ _ (Heap.get?_push_of_some _ (kp3 b o e))
  generalize hce : compEnvC scope (cellsFrom (s3.heap.objs.size + 1) scope.names (cloFrom X.env.cells scope.names [])) s3.heap.objs.size X.env = ce at I4 pg pt pe ⊢
  have cL : ce.locals = s3.heap.objs.size := by subst hce; rfl
  generalize hs4 : ({ s3 with heap := pushCells (s3.heap.push { cls := .type "dict", data := .dict #[] }) scope.names } : Shared) = s4 at I4 ⊢
  have st4 : tn 0 s4.heap := by
    rw [← hs4]
    exact st4
  have fpk : ∀ {τ : L2.St} {H' : Hp} {s' : Shared}, Inv (X.blk s3 H3 scope ce fp) [] τ H' s' → (∀ b ∈ fp, H' b = none) → ∀ b ∈ fp, FpOk (X.blk s3 H3 scope ce fp) [] H' b := fun I' nn b hb =>
    ⟨nn b hb, (I'.ok.exf b hb).1, I'.ok.exfs b hb, .inl hb, fun x c e => (I'.ok.exf b hb).2 x c e, fun p hp => absurd (show p ∈ ([] : List (Addr × Obj)) ++ [] from hp) (by simp)⟩
  -- the loop
  have loop : codeAny (model X.prog X.w) X.A (.compLoop (.SetComp elt [⟨tg, iter, ifs, 0⟩] scope pos) 0 (.ref it) (.ref D) ce) (compPost (model X.prog X.w) X.A X.xe none (EP X pins σ Q) (.ref D) s3.heap.objs.size) s4 := by
    refine PpSet.compLoopS_any (fun n s' => ∃ i H', Inv (X.blk s3 H3 scope ce fp) [] (wipe σ (own.map (·.2))) H' s' ∧ tn i s'.heap ∧ (∀ b ∈ fp, H' b = none) ∧ W i n H') ?_ m0 ⟨0, H3, I4, st4, n3, w0⟩
    rintro n s5 ⟨i, H5, I5, st5, n5, w5⟩
    rcases turn i n H5 w5 with ⟨stop, qe⟩ | ⟨go, Nx, hNx, step⟩
    · -- it is through: back in the block around
      refine thnF (T.done (X.blk s3 H3 scope ce fp) rfl rfl rfl hc i [] s5 _ H5 (fun _ _ => False) I5 (fpk I5 n5) st5 stop) fun r s6 ⟨hr, I6⟩ => ?_
      subst hr
      obtain ⟨m, hn, _⟩ := I6.loc
      have hn : s6.heap.Ns s3.heap.objs.size m := cL ▸ (show s6.heap.Ns ce.locals m from hn)
      have nC : H5 s3.heap.objs.size = none := cL ▸ (show H5 ce.locals = none from I6.free)
      have I7 : Inv X pins σ H5 s6 := I3.call' (ch := fp) I6.os I6.base I6.hok I6.bare fun b hb => ⟨(f3 b hb).1.2.2.2.1, (f3 b hb).1.2.1, (f3 b hb).1.2.2.2.2.1, (f3 b hb).1.2.2.2.2.2⟩
      obtain ⟨k0, k1, k2, k3, k4, k5⟩ := I3.fpOk (Nat.le_refl _) nC
      exact ⟨m, hn, fun h'' sb => ⟨.ref D, H5, I7.turned (t' := s6.toks) (fun b o hb e => (sb.2 b hb).trans e) k0 k1 k3 k4 k5, rfl, qe⟩⟩
    · -- one item more
      refine thnF (T.item (X.blk s3 H3 scope ce fp) rfl rfl rfl hc i [] s5 _ H5 (fun _ _ => False) I5 (fpk I5 n5) st5 go) fun r s6 ⟨u, hr, h6⟩ => ?_
      subst hr
      refine thnF h6 fun _ s7 ⟨x, H7, I7, r7, y7, st7, n7⟩ => ?_
      refine thnF (pg.run _ s7 _ H7 x u _ (I7.pinned (fpk I7 n7) (T.obj _ _ st7)) r7 (step x H7 y7)) fun _ s8 ⟨σ8, H8, I8, hw8, q8⟩ => ?_
      refine thnF (pt.run _ s8 σ8 H8 _ I8 q8) fun b s9 ⟨H9, I9, q9⟩ => ?_
      have fin : ∀ (s' : Shared) (H' : Hp), Inv (X.blk s3 H3 scope ce fp) ([] ++ pinsAt fp s7.heap) σ8 H' s' → Nx H' → ∃ m, m < n ∧ ∃ i H', Inv (X.blk s3 H3 scope ce fp) [] (wipe σ (own.map (·.2))) H' s' ∧ tn i s'.heap ∧ (∀ b ∈ fp, H' b = none) ∧ W i m H' := fun s' H' I' nx => by
        have pin' : ∀ b ∈ fp, ∀ o, s7.heap.get? b = some o → s'.heap.get? b = some o ∧ H' b = none := fun b hb o e =>
          have z := I'.pin (b, o) (List.mem_append_right _ (List.mem_append_right _ (mem_pinsAt hb e)))
          ⟨z.1, z.2.1⟩
        obtain ⟨m', hm, w'⟩ := hNx H' nx
        exact ⟨m', hm, i + 1, H', (I'.unpinned (pins := [])).weak (by rw [← hw8, wipe_length]) (fun j v e => (wipe_some (hw8.symm ▸ e)).1), T.keep _ _ _ st7 fun b hb o e => (pin' b hb o e).1, fun b hb => by
          obtain ⟨o, e, _⟩ := T.obj _ _ st7 b hb
          exact (pin' b hb o e).2, w'⟩
      cases b with
      | false =>
        simp only [Bool.false_eq_true, if_false] at q9 ⊢
        exact fin s9 H9 I9 q9
      | true =>
        simp only [if_true] at q9 ⊢
        exact thnF (pe.run _ s9 σ8 H9 _ I9 q9) fun z s10 ⟨y, H10, I10, r10, ad⟩ => adds_ok (X := X.blk s3 H3 scope ce fp) I10 r10 ad fun H' s11 I11 nx => fin s11 H' I11 nx
  exact PpSet.codeAny_compStart_set loop (T.self X.A 0 _ _ _ st4 loop)
/-- len of a set of keys -/
def rLenK (P : Program) (w : World) : List V → Hp → VK → Prop := fun xs H Q => ∃ (a : Addr) (S : Key → Bool) (n : Nat), xs = [V.ref a] ∧ H a = some (SetK P w a S n) ∧ Q (.int (n : Int)) H
theorem call_lenK : CallR X (.builtin "len") (rLenK X.prog X.w) := by
  intro pins s σ H xs us Q I r h
  obtain ⟨a, S, n, rfl, ha, q⟩ := h
  obtain ⟨u, rfl, rx⟩ := vals1 r
  cases rx
  obtain ⟨o, es, ep, t, ho, hex, hd, _, _, hb, hf, rfl⟩ := setK_get I ha
  exact call_len_set ho hex hd hf (by have : scanBound = 4096 := rfl; omega) ⟨.int es.size, H, I.tok _, ⟨s.toks + 1, rfl⟩, q⟩
end
/-! ### the set of those items of a list of integers that pass a test -/
def keyOfI (k : Key) : Option Int := match k with
  | .inl i => some i
  | .inr _ => none
def setStep (f : Int → Bool) (p : (Key → Bool) × Nat) (x : Int) : (Key → Bool) × Nat := if f x = true then (fun j => p.1 j || decide (j = Sum.inl x), if p.1 (Sum.inl x) = true then p.2 else p.2 + 1) else p
def setSt (f : Int → Bool) (ns : List Int) : (Key → Bool) × Nat := ns.foldl (setStep f) (fun _ => false, 0)
theorem setSt_snoc (f : Int → Bool) (ns : List Int) (x : Int) : setSt f (ns ++ [x]) = setStep f (setSt f ns) x := by
  unfold setSt
  rw [List.foldl_append]
  rfl
theorem setSt_le (f : Int → Bool) : ∀ ns : List Int, (setSt f ns).2 ≤ ns.length := fun ns => by
  suffices h : ∀ (ns : List Int) (p : (Key → Bool) × Nat), (ns.foldl (setStep f) p).2 ≤ p.2 + ns.length by
    have := h ns (fun _ => false, 0)
    simpa [setSt] using this
  intro ns
  induction ns with
  | nil => intro p; simp
  | cons x r ih =>
    intro p
    have h1 := ih (setStep f p x)
    have h2 : (setStep f p x).2 ≤ p.2 + 1 := by
      unfold setStep
      split
      · dsimp only
        split <;> omega
      · omega
    simp only [List.foldl_cons, List.length_cons]
    omega
/-- its items are as many as it tells -/
theorem setSt_acc (f : Int → Bool) (ns : List Int) : ∃ acc : List Int, acc.Nodup ∧ (setSt f ns).2 = acc.length ∧ (∀ x, (setSt f ns).1 (Sum.inl x) = true ↔ x ∈ acc) ∧ ∀ x, x ∈ acc ↔ x ∈ ns ∧ f x = true := by
  suffices h : ∀ (ns : List Int) (p : (Key → Bool) × Nat) (a0 : List Int), a0.Nodup → p.2 = a0.length → (∀ x, p.1 (Sum.inl x) = true ↔ x ∈ a0) → ∃ acc : List Int, acc.Nodup ∧ (ns.foldl (setStep f) p).2 = acc.length ∧ (∀ x, (ns.foldl (setStep f) p).1 (Sum.inl x) = true ↔ x ∈ acc) ∧ ∀ x, x ∈ acc ↔ x ∈ a0 ∨ (x ∈ ns ∧ f x = true) by
    obtain ⟨acc, h1, h2, h3, h4⟩ := h ns (fun _ => false, 0) [] List.nodup_nil rfl (fun x => by simp)
    exact ⟨acc, h1, h2, h3, fun x => (h4 x).trans (by simp)⟩
  intro ns
  induction ns with
  | nil => exact fun p a0 h1 h2 h3 => ⟨a0, h1, h2, h3, fun x => by simp⟩
  | cons y r ih =>
    intro p a0 h1 h2 h3
    rw [List.foldl_cons]
    by_cases hf : f y = true
    · by_cases hy : y ∈ a0
      · obtain ⟨acc, k1, k2, k3, k4⟩ := ih (setStep f p y) a0 h1 (by unfold setStep; rw [if_pos hf]; show (if p.1 (Sum.inl y) = true then p.2 else p.2 + 1) = _; rw [if_pos ((h3 y).mpr hy), h2]) (fun x => by
          unfold setStep
          rw [if_pos hf]
          show (p.1 (Sum.inl x) || decide ((Sum.inl x : Key) = Sum.inl y)) = true ↔ _
          rw [Bool.or_eq_true, h3 x, decide_eq_true_iff]
          exact ⟨fun h => h.elim id fun e => by rw [Sum.inl.inj e]; exact hy, .inl⟩)
        refine ⟨acc, k1, k2, k3, fun x => (k4 x).trans ⟨fun h => h.elim .inl fun h => .inr ⟨List.mem_cons_of_mem _ h.1, h.2⟩, fun h => h.elim .inl fun h => ?_⟩⟩
        rcases List.mem_cons.mp h.1 with e | m
        · exact .inl (e ▸ hy)
        · exact .inr ⟨m, h.2⟩
      · obtain ⟨acc, k1, k2, k3, k4⟩ := ih (setStep f p y) (y :: a0) (List.nodup_cons.mpr ⟨hy, h1⟩) (by unfold setStep; rw [if_pos hf]; show (if p.1 (Sum.inl y) = true then p.2 else p.2 + 1) = _; rw [if_neg (fun q => hy ((h3 y).mp q)), h2]; rfl) (fun x => by
          unfold setStep
          rw [if_pos hf]
          show (p.1 (Sum.inl x) || decide ((Sum.inl x : Key) = Sum.inl y)) = true ↔ _
          rw [Bool.or_eq_true, h3 x, decide_eq_true_iff, List.mem_cons]
          exact ⟨fun h => h.elim .inr fun e => .inl (Sum.inl.inj e), fun h => h.elim (fun e => .inr (by rw [e])) .inl⟩)
        refine ⟨acc, k1, k2, k3, fun x => (k4 x).trans ⟨fun h => ?_, fun h => ?_⟩⟩
        · rcases h with h | h
          · rcases List.mem_cons.mp h with e | m
            · exact .inr ⟨e ▸ List.mem_cons_self, e ▸ hf⟩
            · exact .inl m
          · exact .inr ⟨List.mem_cons_of_mem _ h.1, h.2⟩
        · rcases h with h | h
          · exact .inl (List.mem_cons_of_mem _ h)
          · rcases List.mem_cons.mp h.1 with e | m
            · exact .inl (e ▸ List.mem_cons_self)
            · exact .inr ⟨m, h.2⟩
    · obtain ⟨acc, k1, k2, k3, k4⟩ := ih p a0 h1 h2 h3
      have e0 : setStep f p y = p := if_neg hf
      rw [e0]
      refine ⟨acc, k1, k2, k3, fun x => (k4 x).trans ⟨fun h => h.elim .inl fun h => .inr ⟨List.mem_cons_of_mem _ h.1, h.2⟩, fun h => h.elim .inl fun h => ?_⟩⟩
      rcases List.mem_cons.mp h.1 with e | m
      · exact absurd (e ▸ h.2) hf
      · exact .inr ⟨m, h.2⟩
section
variable {P : Program} {w : World} {K : PySem.W.Frag} {σ : L2.St} {H : Hp} {tl : TE} {t : TT} {te : TE}
/-- len({x for x in xs if ..}) of a list of integers -/
theorem ev_lenSc {a : Addr} {ns : List Int} {j : Nat} {vs : List Nat} (f : Int → Bool) (h : Ev tl σ H (.ref a)) (hx : SqL K H a (ns.map V.int)) (hz : ns.length ≤ 1000) (hw : ∀ x, wipe ((wipe σ vs).set j (some x)) vs = wipe σ vs)
    (ht : ∀ x : Int, EvT t ((wipe σ vs).set j (some (.int x))) H (f x)) (he : ∀ x : Int, Ev te ((wipe σ vs).set j (some (.int x))) H (.int x)) :
    Ev (tCB (rLenK P w) (tCons (tScK P w (iList K tl) (gName j) t te vs) tNil)) σ H (.int ((setSt f ns).2 : Int)) := fun H1 e Q q => h H1 e _ fun H2 e2 => ⟨a, rfl, ⟨_, ex_l (e.trans e2) hx⟩, fun D hD => by
    refine ⟨fun i m H' => m = ns.length - i ∧ i ≤ ns.length ∧ Ex H2 H' ∧ H' D = some (SetK P w D (setSt f (ns.take i)).1 (setSt f (ns.take i)).2), ⟨ns.length, rfl, Nat.zero_le _, Ex.new hD, upd_same⟩, ?_⟩
    rintro i m H' ⟨rfl, hi, e3, hS⟩
    have hx' : SqL K H' a (ns.map V.int) := ex_l ((e.trans e2).trans e3) hx
    by_cases hlt : i < ns.length
    · have hni : (ns.map V.int)[i]? = some (.int ns[i]) := by rw [List.getElem?_map, List.getElem?_eq_getElem hlt]; rfl
      have htk : ns.take (i + 1) = ns.take i ++ [ns[i]] := by rw [List.take_succ, List.getElem?_eq_getElem hlt]; rfl
      refine .inr ⟨⟨_, _, hx', hni⟩, fun H3 => Ex H2 H3 ∧ H3 D = some (SetK P w D (setSt f (ns.take (i + 1))).1 (setSt f (ns.take (i + 1))).2), fun H3 p => ⟨ns.length - (i + 1), by omega, rfl, hlt, p⟩, fun x H3 y => ?_⟩
      obtain ⟨rfl, y⟩ := y
      have ex := Option.some.inj ((y _ hx').symm.trans hni)
      subst ex
      refine ⟨hw _, ht _ H3 ((e.trans e2).trans e3) _ fun H4 e4 => ?_⟩
      rw [htk, setSt_snoc]
      unfold setStep
      cases hf : f ns[i] with
      | true =>
        show te _ H4 _
        refine he _ H4 (((e.trans e2).trans e3).trans e4) _ fun H5 e5 => ⟨Sum.inl ns[i], _, _, rfl, e5 _ _ (e4 _ _ hS), ?_, ?_⟩
        · have h1 := setSt_le f (ns.take i)
          have h2 : (ns.take i).length ≤ ns.length := by rw [List.length_take]; omega
          have : scanBound = 4096 := rfl
          omega
        · rw [if_pos rfl]
          exact ⟨Ex.mut ((e3.trans e4).trans e5) hD, upd_same⟩
      | false =>
        show Ex H2 H4 ∧ _
        rw [if_neg (by decide)]
        exact ⟨e3.trans e4, e4 _ _ hS⟩
    · have ei : i = ns.length := by omega
      subst ei
      rw [List.take_length] at hS
      exact .inl ⟨⟨_, hx', by rw [List.length_map]; exact Nat.le_refl _⟩, D, _, _, rfl, hS, q H' (e2.trans e3)⟩⟩
end
end Ap

set_option Elab.async false
set_option linter.all false
set_option maxRecDepth 100000
namespace Ap
open PySem PySem.Spec PyProof.Rows L2 Evl
/-! ### values: what is_integer, is_text, is_value, is_deed, is_record say of any object -/
def tyN : PyData → String
  | .none => "NoneType"
  | .bool _ => "bool"
  | .int _ => "int"
  | .str _ => "str"
  | .list _ => "list"
  | .tuple _ => "tuple"
  | .dict _ => "dict"
theorem tyx_dx {K : PySem.W.Frag} {H : Hp} : ∀ {d : PyData} {v : V}, Dx K H v d → TyX K H v (.type (tyN d))
  | _, _, .non => .base .non
  | _, _, .bl b => .base (.bl b)
  | _, _, .int i => .base (.int i)
  | _, _, .str x => .base (.str x)
  | _, _, .lst hs _ => by
    rcases hs with (h | ⟨o, h⟩) | ⟨o, its, n, h, hc, _⟩
    · exact .base (.lst h)
    · exact .base (.frz h)
    · exact .kList h hc
  | _, _, .tup hs _ => by
    rcases hs with (h | ⟨o, h⟩) | ⟨o, its, n, h, hc, _⟩
    · exact .base (.tup h)
    · exact .fTuple h
    · exact .kTuple h hc
  | _, _, .dic h => .base (.dK h)
def isInt : PyData → Bool
  | .int _ => true
  | .bool _ => true
  | _ => false
def isBoo : PyData → Bool
  | .bool _ => true
  | _ => false
def isStr : PyData → Bool
  | .str _ => true
  | _ => false
def isTup : PyData → Bool
  | .tuple _ => true
  | _ => false
theorem kit_int : ∀ d : PyData, kitB (tyN d) "int" = some (isInt d)
  | .none => (by decide +kernel : kitB "NoneType" "int" = some false)
  | .bool _ => (by decide +kernel : kitB "bool" "int" = some true)
  | .int _ => (by decide +kernel : kitB "int" "int" = some true)
  | .str _ => (by decide +kernel : kitB "str" "int" = some false)
  | .list _ => (by decide +kernel : kitB "list" "int" = some false)
  | .tuple _ => (by decide +kernel : kitB "tuple" "int" = some false)
  | .dict _ => (by decide +kernel : kitB "dict" "int" = some false)
theorem kit_bool : ∀ d : PyData, kitB (tyN d) "bool" = some (isBoo d)
  | .none => (by decide +kernel : kitB "NoneType" "bool" = some false)
  | .bool _ => (by decide +kernel : kitB "bool" "bool" = some true)
  | .int _ => (by decide +kernel : kitB "int" "bool" = some false)
  | .str _ => (by decide +kernel : kitB "str" "bool" = some false)
  | .list _ => (by decide +kernel : kitB "list" "bool" = some false)
  | .tuple _ => (by decide +kernel : kitB "tuple" "bool" = some false)
  | .dict _ => (by decide +kernel : kitB "dict" "bool" = some false)
theorem kit_str : ∀ d : PyData, kitB (tyN d) "str" = some (isStr d)
  | .none => (by decide +kernel : kitB "NoneType" "str" = some false)
  | .bool _ => (by decide +kernel : kitB "bool" "str" = some false)
  | .int _ => (by decide +kernel : kitB "int" "str" = some false)
  | .str _ => (by decide +kernel : kitB "str" "str" = some true)
  | .list _ => (by decide +kernel : kitB "list" "str" = some false)
  | .tuple _ => (by decide +kernel : kitB "tuple" "str" = some false)
  | .dict _ => (by decide +kernel : kitB "dict" "str" = some false)
theorem kit_tup : ∀ d : PyData, kitB (tyN d) "tuple" = some (isTup d)
  | .none => (by decide +kernel : kitB "NoneType" "tuple" = some false)
  | .bool _ => (by decide +kernel : kitB "bool" "tuple" = some false)
  | .int _ => (by decide +kernel : kitB "int" "tuple" = some false)
  | .str _ => (by decide +kernel : kitB "str" "tuple" = some false)
  | .list _ => (by decide +kernel : kitB "list" "tuple" = some false)
  | .tuple _ => (by decide +kernel : kitB "tuple" "tuple" = some true)
  | .dict _ => (by decide +kernel : kitB "dict" "tuple" = some false)
section
variable {K : PySem.W.Frag} {σ : L2.St} {H : Hp} {te : TE} {d : PyData} {T : String} {b : Bool}
theorem ev_isiX (h : EvX K te σ H d) (k : kitB (tyN d) T = some b) : Ev (tCB (rIsi K) (tCons te (tCons (tC (.ty T)) tNil))) σ H (.bl b) := fun H1 e Q q => h H1 e _ fun v H2 e2 hv =>
  ⟨v, .ty T, .type (tyN d), .type T, b, rfl, .ty T, tyx_dx (dx_mono (ov_ex e e2) d v hv), kit_ty k, q H2 e2⟩
end
/-- bounded: texts, lists and tuples of at most 1000, at most n deep -/
inductive Okd : Nat → PyData → Prop
  | non {n : Nat} : Okd n .none
  | bl {n : Nat} (b : Bool) : Okd n (.bool b)
  | int {n : Nat} (i : Int) : Okd n (.int i)
  | str {n : Nat} {x : Str} (h : x.length ≤ 1000) : Okd n (.str x)
  | dic {n : Nat} {kvs : List (PyData × PyData)} : Okd n (.dict kvs)
  | lst {n : Nat} {ds : List PyData} (h : ds.length ≤ 1000) (hs : ∀ d, d ∈ ds → Okd n d) : Okd (n + 1) (.list ds)
  | tup {n : Nat} {ds : List PyData} (h : ds.length ≤ 1000) (hs : ∀ d, d ∈ ds → Okd n d) : Okd (n + 1) (.tuple ds)
def isI : PyData → Bool
  | .int i => decide (-(10 ^ 18) ≤ i) && decide (i ≤ 10 ^ 18)
  | _ => false
def chOk (c : Nat) : Bool := (decide ((32 : Int) ≤ (c : Int)) && decide ((c : Int) ≤ 126)) && !decide (V.int (c : Int) = V.int 37)
def isT : PyData → Bool
  | .str x => decide (x.length ≤ 200) && x.cps.toList.all chOk
  | _ => false
def isP (d : PyData) : Bool := isI d || isT d
mutual
def isV : PyData → Bool
  | .tuple ds => isVs ds
  | d => isP d
def isVs : List PyData → Bool
  | [] => true
  | d :: ds => isV d && isVs ds
end
theorem isVs_iff : ∀ ds : List PyData, isVs ds = ds.all isV
  | [] => rfl
  | d :: ds => by simp [isVs, isVs_iff ds]
def isN (d : PyData) : Bool := isI d && (match d with
  | .int i => decide (0 ≤ i)
  | _ => false)
section
variable {K : PySem.W.Frag} {σ : L2.St} {H : Hp} {te tl : TE} {t : TT}
/-- [f(c) for c in text] -/
theorem el_lcS {j : Nat} {vs : List Nat} {z : Str} (v : Nat → V) (h : Ev tl σ H (.str z)) (hz : z.cps.size ≤ 40000) (hw : ∀ x, wipe ((wipe σ vs).set j (some x)) vs = wipe σ vs) (ht : ∀ (c : Nat) H1, Ex H H1 → EvT t ((wipe σ vs).set j (some (.str ⟨#[c]⟩))) H1 true)
    (he : ∀ (i c : Nat) H1, Ex H H1 → z.cps[i]? = some c → Ev te ((wipe σ vs).set j (some (.str ⟨#[c]⟩))) H1 (v i)) : EvL (tLc (iStr tl) (gName j) t te vs) σ H (given z.cps.size (fun _ => true) v) := fun H0 e Q q => h H0 e _ fun H1 e1 => ⟨z, rfl, fun Dl hD =>
  lc_it walk_str (Cw H1 (fun _ => true) v Dl) ⟨hD, Ex.new hD, upd_same⟩ (fun _ _ _ _ => trivial) (fun i x H2 H' hi p y => by
    obtain ⟨rfl, c, hc, rfl⟩ := y
    exact ⟨hw _, cw_turn p (by omega) (ht c H1 (e.trans e1)) (fun _ => he i c H1 (e.trans e1) hc)⟩) (fun H' p => q Dl H' (fresh_back e1 p.1) (e1.trans p.2.1) p.2.2)⟩
/-- for c in text -/
theorem q_forS {D : Ends} {tz tu : TS} {j : Nat} {z : Str} (h : Ev tl σ H (.str z)) (Pv : Nat → L2.St → Hp → Prop) (h0 : ∀ H1, Ex H H1 → Pv 0 σ H1) (hs : ∀ (i c : Nat) σ' H', z.cps[i]? = some c → Pv i σ' H' → tu { D with nx := Pv (i + 1), ct := Pv (i + 1), bk := tz D } (σ'.set j (some (.str ⟨#[c]⟩))) H') (hd : ∀ σ' H', Pv z.cps.size σ' H' → tz D σ' H') :
    tSeq (tFor (iStr tl) (gName j) tu) tz D σ H := h H (Ex.refl H) _ fun H1 e => ⟨z, rfl, for_it walk_str Pv (h0 H1 e) (fun _ _ _ _ _ => trivial) (fun i x σ' H2 H' hi p y => by
    obtain ⟨rfl, c, hc, rfl⟩ := y
    exact hs i c σ' _ hc p) hd⟩
theorem ev_all {bs : List Bool} (h : EvL tl σ H (bs.map V.bl)) : Ev (tCB (rAll K) (tCons tl tNil)) σ H (.bl (bs.all id)) := fun H1 e Q q => h H1 e _ fun p H2 np e2 hp => ⟨p, bs, rfl, sq_of hp, q H2 e2⟩
theorem rc_lenS {z : Str} (h : z.length ≤ 100000) : RC (fun xs H Q => ∃ z, xs = [.str z] ∧ z.length ≤ sizeLine ∧ Q (.int z.length) H) [.str z] H (.int (z.length : Int)) := fun H1 _ Q q => ⟨z, rfl, sz_of h, q H1 (Ex.refl H1)⟩
theorem rc_ordS {x : Str} {n : Nat} (h : x.length = 1) (hn : x.cps.getD 0 0 = n) : RC (fun xs H Q => ∃ x : Str, xs = [.str x] ∧ x.length = 1 ∧ Q (.int (x.cps.getD 0 0 : Nat)) H) [.str x] H (.int (n : Int)) := fun H1 _ Q q => ⟨x, rfl, h, by rw [hn]; exact q H1 (Ex.refl H1)⟩
theorem rc_ord {c : Nat} : RC (fun xs H Q => ∃ x : Str, xs = [.str x] ∧ x.length = 1 ∧ Q (.int (x.cps.getD 0 0 : Nat)) H) [.str ⟨#[c]⟩] H (.int (c : Int)) := fun H1 _ Q q => ⟨⟨#[c]⟩, rfl, rfl, q H1 (Ex.refl H1)⟩
theorem all_given (z : Str) (f : Nat → Bool) : ∃ bs : List Bool, given z.cps.size (fun _ => true) (fun i => V.bl (f (z.cps.getD i 0))) = bs.map V.bl ∧ bs.all id = z.cps.toList.all f := by
  refine ⟨z.cps.toList.map f, ?_, by rw [List.all_map]; rfl⟩
  unfold given
  rw [List.filter_eq_self.mpr (fun _ _ => rfl)]
  refine List.ext_getElem (by simp) (fun i h1 h2 => ?_)
  have h1 : i < z.cps.size := by simpa using h1
  simp [Array.getD, h1]
end
section
variable {K : PySem.W.Frag} {σ : L2.St} {H : Hp} {te tl : TE} {t : TT}
/-- [e for x in a tuple] -/
theorem el_lcT {a : Addr} {xs : List V} {j : Nat} {vs : List Nat} (v : Nat → V) (h : Ev tl σ H (.ref a)) (hx : SqT K H a xs) (hz : xs.length ≤ 40000) (hw : ∀ x, wipe ((wipe σ vs).set j (some x)) vs = wipe σ vs) (ht : ∀ (x : V) H1, Ex H H1 → EvT t ((wipe σ vs).set j (some x)) H1 true)
    (he : ∀ (i : Nat) (x : V) H1, Ex H H1 → xs[i]? = some x → Ev te ((wipe σ vs).set j (some x)) H1 (v i)) : EvL (tLc (iTup K tl) (gName j) t te vs) σ H (given xs.length (fun _ => true) v) := fun H0 e Q q => h H0 e _ fun H1 e1 => ⟨a, rfl, ⟨xs, ex_t (e.trans e1) hx⟩, fun Dl hD =>
  lc_it (walk_tup (xs := xs)) (Cw H1 (fun _ => true) v Dl) ⟨hD, Ex.new hD, upd_same⟩ (fun _ _ _ p => ex_t ((e.trans e1).trans p.2.1) hx) (fun i x H2 H' hi p y => by
    obtain ⟨rfl, hxi⟩ := y
    exact ⟨hw _, cw_turn p (by omega) (ht x H1 (e.trans e1)) (fun _ => he i x H1 (e.trans e1) hxi)⟩) (fun H' p => q Dl H' (fresh_back e1 p.1) (e1.trans p.2.1) p.2.2)⟩
theorem q_forTn {D : Ends} {tz tu : TS} {a : Addr} {xs : List V} {j : Nat} (h : Ev tl σ H (.ref a)) (hx : SqT K H a xs) (Pv : Nat → L2.St → Hp → Prop) (h0 : ∀ H1, Ex H H1 → Pv 0 σ H1) (hl : ∀ i σ' H', i ≤ xs.length → Pv i σ' H' → SqT K H' a xs)
    (hs : ∀ i x σ' H', xs[i]? = some x → Pv i σ' H' → tu { D with nx := Pv (i + 1), ct := Pv (i + 1), bk := tz D } (σ'.set j (some x)) H') (hd : ∀ σ' H', Pv xs.length σ' H' → tz D σ' H') : tSeq (tFor (iTup K tl) (gName j) tu) tz D σ H := q_forT h hx Pv h0 hl hs hd
theorem given_map (ds : List PyData) (g : PyData → Bool) : given ds.length (fun _ => true) (fun i => V.bl (g (ds.getD i .none))) = (ds.map g).map V.bl := by
  unfold given
  rw [List.filter_eq_self.mpr (fun _ _ => rfl)]
  refine List.ext_getElem (by simp) (fun i h1 h2 => ?_)
  have h1 : i < ds.length := by simpa using h1
  simp [h1]
theorem fn_false {P : Program} {w : World} {K : PySem.W.Frag} {mg : Str → Option Value} {base : Heap} {CX : CXT} {k : Nat} {f : Addr} {fd : FuncData} {ps : List Str} : FnOk P w K mg base CX k f fd ps (fun _ _ _ _ => False) := ⟨fun _ _ _ _ h => h.elim, fun _ _ _ _ _ _ _ _ _ _ _ _ _ h => h.elim⟩
end
def neS : PyData → Bool
  | .str x => !decide (V.str x = V.str "")
  | _ => false
def isDeed : PyData → Bool
  | .tuple ds => ((decide (1 ≤ (ds.length : Int)) && decide ((ds.length : Int) ≤ 4)) && (isT (ds.getD 0 .none) && neS (ds.getD 0 .none))) && ds.all isP
  | _ => false
def geB (k : Int) : PyData → Bool
  | .int i => decide (i ≥ k)
  | _ => false
def isRec : PyData → Bool
  | .tuple ds => decide (ds.length = 3) && (isN (ds.getD 0 .none) && (isN (ds.getD 1 .none) && (geB 1 (ds.getD 1 .none) && isDeed (ds.getD 2 .none))))
  | _ => false
end Ap

set_option Elab.async false
set_option linter.all false
set_option maxRecDepth 100000
namespace Ap
open PySem PySem.Spec PyProof.Rows L2 Evl ClX
/-! ### C.m(..), m a static method of the class at C, that may raise -/
structure SMet (K : PySem.W.Frag) (C : Addr) (mc : Value) (m : Str) (p g : Addr) : Prop where
  at_ : PySem.W.findCls K (.ref C) mc m = some (.get (.builtin "staticmethod.__get__") (.ref p) .none (.ref C))
  rc : ∃ rest, PySem.W.recIn K p "staticmethod" = some (.ref g :: rest)
  kp : PySem.W.keepIn K (.ref g) = true
def tSX (C : Addr) (sp : Sp) (E : L2.St → XK) (ta : TE) (t : TA) : TE := fun σ H Q => ta σ H fun x G => x = .ref C ∧ t σ G fun vs G2 => sp vs G2 Q (E σ)
section
variable {X : Cx} {pins : List (Addr × Obj)} {σ : L2.St} {H : Hp} {s : Shared} {A : Around} {E : Value → Shared → Prop}
theorem getsmet_ok {C p g : Addr} {mc : Value} {m : Str} {pl : Sem Bool} {Q : Value × List Value → Shared → Prop} (I : L2.Inv X pins σ H s) (r : CRead X.K C mc) (k : SMet X.K C mc m p g) (h : ∀ s', L2.Inv X pins σ H s' → Q (.ref g, []) s') : wpAny (model X.prog X.w) A (getMethod (.ref C) m pl) Q E s := by
  obtain ⟨rest, hp⟩ := k.rc
  refine PySem.W.method_cls I.kIn r.ga (PySem.W.cls_bind I.kIn r.rd k.at_ ?_)
  refine wpAny_call (PySem.W.sm_get (s := { s with toks := s.toks + 1 }) I.kIn hp (PySem.W.handed_on rfl ?_))
  exact h _ (I.tok _)
theorem pe_smx {CX : CXT} {k : Nat} {C p g : Addr} {mc : Value} {fd : FuncData} {ps : List Str} {sp : Sp} {E : L2.St → XK} {m : Str} {pos apos : Pos} {e o : Expr} {es : List Expr} {ta : TE} {t : TA} {pl : Sem Bool}
    (he : PE X o ta) (r : CRead X.K C mc) (hm : SMet X.K C mc m p g) (F : FnOk X.prog X.w X.K X.mg X.base CX k g fd ps sp) (hr : Room k X.A) (hb : Binds X.K fd ps []) (hx : ∀ σ, PassesAt CX X σ (E σ)) (ha : PA X (e :: es) t)
    (z1 : starEach (e :: es) X.env = (false, eval e X.env) :: starEach es X.env := by rfl) (z2 : (backTo pos (starEach es X.env)).any (·.1) = false := by rfl)
    (z3 : eval (.Call (.Attribute o m apos) (e :: es) [] pos) X.env = (do { let ov ← eval o X.env; standAt apos.atName; let (f, first) ← holding [ov] (getMethod ov m pl); callWith pos f first (backTo pos (starEach (e :: es) X.env)) (backToKw pos (keywordEach [] X.env)) }) := by rfl) :
    PE X (.Call (.Attribute o m apos) (e :: es) [] pos) (tSX C sp E ta t) := ⟨fun pins s σ H Q I h => PySem.W.methodCall_KW (pl := pl) (thn (he.run pins s σ H _ I h) fun u s1 hh => by
  obtain ⟨x, G, J, rx, ex, q⟩ := hh
  subst ex
  cases (show u = Value.ref C from rx)
  exact getsmet_ok J r hm fun s' J' => (PySem.W.callWith_K (first := []) (h₀ := X.base) J'.ok.mod.kin hm.kp (thn (ha.run pos pins s' σ G _ J' q) fun us s2 ⟨vs, G2, J2, rv, q2⟩ => ⟨J2.kIn, run_fnS (us := us) (vs := vs) F hr hb (hx σ) J2 rv q2⟩) z1 z2)) z3⟩
end
structure Sm (K : PySem.W.Frag) (C : Addr) (mc : Value) (x qual : Str) (st : Stmt) (ps : List Str) (p f : Addr) (fd : FuncData) : Prop where
  F : Fun K x qual st f fd
  b : L2.Binds K fd ps []
  m : SMet K C mc x p f
theorem sm_mk {K : PySem.W.Frag} {h : Heap} (X : K.In h) {C p : Addr} {mc : Value} {x qual : Str} {st : Stmt} {ps : List Str} {f : Addr} {rest : List Value} {oc : Value} {od an : Option Addr} {sl : Array (Option Value)} {kV dc pm cd ct : Value}
    (a : PySem.W.findCls K (.ref C) mc x = some (.get (.builtin "staticmethod.__get__") (.ref p) .none (.ref C))) (r : PySem.W.recIn K p "staticmethod" = some (.ref f :: rest)) (l : K.lookup f = some ⟨oc, od, .func (PySem.W.fnOf x qual (defArgs st) (defBody st) (defScope st) .none kV dc pm an cd ct), sl⟩) (c : PySem.W.codeIn K cd qual = true) (k : PySem.W.keepIn K (.ref f) = true)
    (hb : ∀ (kV doc pm : Value) (an : Option Addr) (cdv ct : Value) (us : List Value), us.length = ps.length → bindArgs (PySem.W.fnOf x qual (defArgs st) (defBody st) (defScope st) .none kV doc pm an cdv ct) ⟨us, []⟩ = pure (ps.zip us)) :
    ∃ p f fd, Sm K C mc x qual st ps p f fd := ⟨_, _, _, fun_mk l c k, (fun_mk l c k).binds hb, ⟨a, ⟨rest, r⟩, k⟩⟩
theorem Okd.mono {n m : Nat} {d : PyData} (h : Okd n d) : n ≤ m → Okd m d := by
  induction h generalizing m with
  | non => exact fun _ => .non
  | bl b => exact fun _ => .bl b
  | int i => exact fun _ => .int i
  | str h => exact fun _ => .str h
  | dic => exact fun _ => .dic
  | lst h hs ih =>
    intro hl
    obtain ⟨k, rfl⟩ : ∃ k, m = k + 1 := ⟨m - 1, by omega⟩
    exact .lst h fun d hd => ih d hd (by omega)
  | tup h hs ih =>
    intro hl
    obtain ⟨k, rfl⟩ : ∃ k, m = k + 1 := ⟨m - 1, by omega⟩
    exact .tup h fun d hd => ih d hd (by omega)
theorem op_mulS {X : Cx} : OpR X (binaryOp .Mult) (fun x y H Q => ∃ (z : Str) (n : Int), x = .str z ∧ y = .int n ∧ PySem.MulOk z n ∧ Q (.str (Txt.mul z n)) H) := by
  intro pins s σ H x y v u Q I rx ry h
  obtain ⟨z, n, rfl, rfl, hok, q⟩ := h
  obtain ⟨t, rfl⟩ := rx
  obtain ⟨t2, rfl⟩ := ry
  exact PySem.SB.mul hok fun t' k => ⟨.str (Txt.mul z n), H, I.tok _, ⟨t', rfl⟩, q⟩
theorem isV_sd {n : Nat} {d : PyData} (h : Okd n d) : isV d = true → Sd n d := by
  induction h with
  | non => exact fun h => absurd h (by simp [isV, isP, isI, isT])
  | bl b => exact fun h => absurd h (by simp [isV, isP, isI, isT])
  | int i => exact fun _ => sd_int
  | @str n x hx =>
    intro h
    have h : isT (.str x) = true := by simpa [isV, isP, isI] using h
    have h2 := (Bool.and_eq_true_iff.mp (show (decide (x.length ≤ 200) && x.cps.toList.all chOk) = true from h)).2
    refine sd_str ?_
    show x.cps.all (· < 0x110000) = true
    rw [← Array.all_toList]
    refine List.all_eq_true.mpr fun c hc => ?_
    have h3 := List.all_eq_true.mp h2 c hc
    have h4 := of_decide_eq_true (Bool.and_eq_true_iff.mp (Bool.and_eq_true_iff.mp h3).1).2
    exact decide_eq_true (by omega)
  | dic => exact fun h => absurd h (by simp [isV, isP, isI, isT])
  | lst h hs ih => exact fun h => absurd h (by simp [isV, isP, isI, isT])
  | @tup n ds h hs ih =>
    intro hv
    have hv : isVs ds = true := hv
    rw [isVs_iff] at hv
    exact sd_tuple fun d hd => ih d hd (List.all_eq_true.mp hv d hd)
theorem isP_V {d : PyData} (h : isP d = true) : isV d = true := by
  cases d <;> simp_all [isV, isP, isI, isT]
theorem isN_V {d : PyData} (h : isN d = true) : isV d = true := by
  unfold isN at h
  exact isP_V (by unfold isP; rw [(Bool.and_eq_true_iff.mp h).1]; rfl)
theorem isDeed_V {d : PyData} (h : isDeed d = true) : isV d = true := by
  cases d with
  | tuple ds =>
    have h2 := (Bool.and_eq_true_iff.mp (show (_ && ds.all isP) = true from h)).2
    show isVs ds = true
    rw [isVs_iff]
    exact List.all_eq_true.mpr fun d hd => isP_V (List.all_eq_true.mp h2 d hd)
  | _ => cases h
theorem isRec_V {d : PyData} (h : isRec d = true) : isV d = true := by
  cases d with
  | tuple ds =>
    have h : (decide (ds.length = 3) && (isN (ds.getD 0 .none) && (isN (ds.getD 1 .none) && (geB 1 (ds.getD 1 .none) && isDeed (ds.getD 2 .none))))) = true := h
    obtain ⟨h1, h2⟩ := Bool.and_eq_true_iff.mp h
    obtain ⟨h2, h3⟩ := Bool.and_eq_true_iff.mp h2
    obtain ⟨h3, h4⟩ := Bool.and_eq_true_iff.mp h3
    obtain ⟨_, h5⟩ := Bool.and_eq_true_iff.mp h4
    have h1 := of_decide_eq_true h1
    match ds, h1 with
    | [a, b, c], _ =>
      show isVs [a, b, c] = true
      rw [isVs_iff]
      refine List.all_eq_true.mpr fun d hd => ?_
      rcases List.mem_cons.mp hd with rfl | hd
      · exact isN_V h2
      · rcases List.mem_cons.mp hd with rfl | hd
        · exact isN_V h3
        · rw [List.mem_singleton.mp hd]
          exact isDeed_V h5
  | _ => cases h
def isRecs : PyData → Bool
  | .tuple ds => ds.all isRec
  | _ => false
def isLogD : PyData → Bool
  | .tuple ds => decide (ds.length = 3) && (isN (ds.getD 0 .none) && (isV (ds.getD 1 .none) && isRecs (ds.getD 2 .none)))
  | _ => false
theorem isLog_of {d : PyData} (h : isLogD d = true) : ∃ (b : Int) (im : PyData) (rs : List PyData), d = .tuple [.int b, im, .tuple rs] ∧ isV d = true := by
  cases d with
  | tuple ds =>
    have h : (decide (ds.length = 3) && (isN (ds.getD 0 .none) && (isV (ds.getD 1 .none) && isRecs (ds.getD 2 .none)))) = true := h
    obtain ⟨h1, h2⟩ := Bool.and_eq_true_iff.mp h
    obtain ⟨h2, h3⟩ := Bool.and_eq_true_iff.mp h2
    obtain ⟨h3, h4⟩ := Bool.and_eq_true_iff.mp h3
    have h1 := of_decide_eq_true h1
    match ds, h1 with
    | [a, b, c], _ =>
      have h2 : isN a = true := h2
      have h3 : isV b = true := h3
      have h4 : isRecs c = true := h4
      obtain ⟨i, rfl⟩ : ∃ i, a = .int i := by
        cases a <;> simp_all [isN, isI]
      obtain ⟨rs, rfl⟩ : ∃ rs, c = .tuple rs := by
        cases c <;> simp_all [isRecs]
      refine ⟨i, b, rs, rfl, ?_⟩
      show isVs [.int i, b, .tuple rs] = true
      rw [isVs_iff]
      refine List.all_eq_true.mpr fun d hd => ?_
      rcases List.mem_cons.mp hd with rfl | hd
      · exact isN_V h2
      · rcases List.mem_cons.mp hd with rfl | hd
        · exact h3
        · rw [List.mem_singleton.mp hd]
          show isVs rs = true
          rw [isVs_iff]
          exact List.all_eq_true.mpr fun d hd => isRec_V (List.all_eq_true.mp h4 d hd)
  | _ => cases h
theorem cr_mk {K : PySem.W.Frag} {h : Heap} {C : Addr} {mc : Value} (X : K.In h) (rd : PySem.W.readsIn K C mc = true) (ga : PySem.W.specialIn K (.ref C) "__getattribute__" = some (some (.builtin "type.__getattribute__"))) : ClX.CRead K C mc := ⟨rd, ga⟩
theorem big_lit {mg : Str → Option Value} {t : Tok} (h : mg "NUMBER_MOST" = some (.int 1000000000000000000 t)) : mg "NUMBER_MOST" = some (.int (10 ^ 18) t) := by
  rw [h, show ((10 : Int) ^ 18) = 1000000000000000000 by decide]
end Ap

set_option Elab.async false
set_option linter.all false
set_option maxRecDepth 100000
namespace Ap
open PySem PySem.Spec PyProof PyProof.Rows L2
/-! ### a slice of a tuple, backwards -/
theorem revApplied {prog : Program} {w : World} {A : Around} {E : Value → Shared → Prop} {s : Shared} {sl : Addr} {vs : Value} {n : Nat} {Q : Int × Int × Nat → Shared → Prop} (hs : s.heap.IsSliceOf sl .none .none vs) (pv : IsPart vs (some (-1)))
    (h : Q ((n : Int) - 1, -1, n) s) : wpAny (model prog w) A (Builtin.Slice.sliceApplied (.ref sl) (pure (n : Int))) Q E s := by
  obtain ⟨os, hos, hcs, hds⟩ := id hs
  unfold Builtin.Slice.sliceApplied Builtin.Slice.sliceFields
  refine wpAny_bind (wpAny_bind (wpAny_field hos hds (x := .none) rfl (wpAny_bind (wpAny_field hos hds (x := .none) rfl (wpAny_bind (wpAny_field hos hds (x := vs) rfl (wpAny_pure ?_)))))))
  refine wpAny_bind (HT.slicePart_ pv ?_)
  show wpAny _ _ (if ((-1 : Int) == 0) = true then _ else _) _ _ s
  rw [if_neg (by decide)]
  refine wpAny_bind (HT.slicePart_ .none (wpAny_bind (HT.slicePart_ .none (wpAny_bind (wpAny_pure ?_)))))
  have e1 : Builtin.Slice.sliceAdjust none none (-1) (n : Int) = ((n : Int) - 1, -1) := rfl
  have e2 : Builtin.Slice.slicePlaces ((n : Int) - 1) (-1) (-1) = n := by
    unfold Builtin.Slice.slicePlaces
    rw [if_neg (by decide)]
    split
    · rw [show (n : Int) - 1 - -1 - 1 = (n : Int) - 1 by omega, show -(-1 : Int) = 1 by decide, Int.ediv_one]
      omega
    · omega
  show wpAny _ _ (match Builtin.Slice.sliceAdjust none none (-1) (n : Int) with | (lo, hi) => pure (lo, (-1 : Int), Builtin.Slice.slicePlaces lo hi (-1))) _ _ s
  rw [e1]
  show wpAny _ _ (pure ((n : Int) - 1, (-1 : Int), Builtin.Slice.slicePlaces ((n : Int) - 1) (-1) (-1))) _ _ s
  rw [e2]
  exact wpAny_pure h
theorem fm_congr {α β : Type} {f g : α → Option β} : ∀ {l : List α}, (∀ m ∈ l, f m = g m) → l.filterMap f = l.filterMap g
  | [], _ => rfl
  | x :: r, h => by
    rw [List.filterMap_cons, List.filterMap_cons, h x List.mem_cons_self, fm_congr fun m hm => h m (List.mem_cons_of_mem _ hm)]
theorem rev_pick (xs : Array Value) : ((List.range xs.size).filterMap fun (m : Nat) => xs[(((xs.size : Nat) : Int) - 1 + (m : Int) * (-1)).toNat]?).toArray = xs.toList.reverse.toArray := by
  congr 1
  rw [← PySem.W.krv_all xs, ← List.filterMap_reverse, ← PySem.W.krv_range, List.filterMap_map]
  refine fm_congr fun m hm => ?_
  show xs[(((xs.size : Nat) : Int) - 1 + (m : Int) * (-1)).toNat]? = xs[xs.size - 1 - m]?
  congr 1
  omega
theorem getItem_tuple_rev {prog : Program} {w : World} {A : Around} {E : Value → Shared → Prop} {s : Shared} {t sl : Addr} {items : Array Value} {vs : Value} {Q : Value → Shared → Prop} (ht : IsTup s.heap t items) (hs : s.heap.IsSliceOf sl .none .none vs) (pv : IsPart vs (some (-1)))
    (h : Q (.ref s.heap.objs.size) { s with heap := s.heap.push { cls := .type "tuple", data := .seq items.toList.reverse.toArray } }) (hsz : items.size ≤ sizeLine) : wpAny (model prog w) A (getItem (.ref t) (.ref sl)) Q E s := by
  have htake : sizeOk (.seq items.toList.reverse.toArray) := by
    show items.toList.reverse.toArray.size ≤ sizeLine
    rw [List.size_toArray, List.length_reverse, Array.length_toList]
    exact hsz
  obtain ⟨os, hos, hcs, hds⟩ := id hs
  have hTs : s.TypeIs (.ref sl) "slice" := ⟨os, hos, hcs⟩
  unfold getItem
  try with_reducible refine wpAny_holding ?_
  first | refine wpAny_bind (wpAny_pure ?_) | skip
  refine wpAny_bind (wpAny_sequenceKey ht.typeIs (by decide) ?_)
  refine wpAny_bind (wpAny_callSpecial?_slot (name := Str.ofString "__getitem__") ht.typeIs PyProof.Rows.slot_tuple_getitem
    (wpAny_call_entry PyProof.Rows.slot_tuple_getitem ht.typeIs entry_tuple_getitem ?_ (args_tuple_getitem _ _)))
  show wpAny _ _ (Builtin.Tuple.tupleItemsOf (.ref t) >>= _) _ _ s
  refine wpAny_bind (tupleItemsOf_ ht ?_)
  refine wpAny_bind (wpAny_typeOf hTs ?_)
  rw [if_pos (by decide)]
  refine wpAny_bind (revApplied hs pv ?_)
  have hno : ¬ (((((items.size : Nat) : Int) - 1) == 0 && (-1 : Int) == 1 && items.size == items.size) = true) := by
    intro q
    rw [Bool.and_eq_true, Bool.and_eq_true] at q
    exact absurd (eq_of_beq q.1.2) (by decide)
  show wpAny _ _ (if ((((items.size : Nat) : Int) - 1) == 0 && (-1 : Int) == 1 && items.size == items.size) = true then _ else _) _ _ s
  rw [if_neg hno, rev_pick]
  first
    | exact wpAny_bind (m := Builtin.Tuple.tupleExact _) (wpAny_newObj_type (wpAny_pure ⟨_, rfl, wpAny_pure h⟩) htake)
    | exact wpAny_bind (m := Builtin.Tuple.tupleExact _) (wpAny_newObj_type (wpAny_bind (wpAny_pure (wpAny_pure ⟨_, rfl, wpAny_pure h⟩))) htake)
    | exact wpAny_bind (wpAny_bind (m := Builtin.Tuple.tupleExact _) (wpAny_newObj_type (wpAny_pure (wpAny_pure ⟨_, rfl, wpAny_pure h⟩)) htake))
    | exact wpAny_bind (wpAny_bind (m := Builtin.Tuple.tupleExact _) (wpAny_newObj_type (wpAny_pure ⟨_, rfl, wpAny_pure h⟩) htake))
section
variable {X : Cx}
def tRevT (K : PySem.W.Frag) (te : TE) : TE := fun σ H Q => te σ H fun x H1 => ∃ a xs, x = .ref a ∧ SqT K H1 a xs ∧ ∀ p, H1 p = none → Q (.ref p) (upd H1 p (.tup xs.reverse))
theorem pe_revT {e : Expr} {te : TE} {k : Nat} {p1 p2 p3 pos : Pos} (he : PE X e te) : PE X (.Subscript e (.Slice none none (some (.UnaryOp .USub (.Constant (.int 1) k p1) p2)) p3) pos) (tRevT X.K te) := by
  refine ⟨fun pins s σ H Q I h => ?_⟩
  refine Subscript_ (thn (he.run pins s σ H _ I h) fun v s1 ⟨x, H1, I1, r1, q1⟩ => ?_)
  obtain ⟨a, xs, ex, hx, q⟩ := q1
  subst ex
  cases r1
  have hst : PO X (some (.UnaryOp .USub (.Constant (.int 1) k p1) p2)) (tPart (tUn (rU fun i => .int (-i)) (tC (.int 1)))) := po_some (pe_un un_neg pe_int)
  refine wpAny_Slice (thn (po_none.run pins s1 σ H1 (fun o H2 => o = none ∧ H2 = H1) I1 ⟨rfl, rfl⟩) fun vl s2 ⟨l, H2, I2, pl, el, e2⟩ => ?_)
  subst el e2
  refine thn (po_none.run pins s2 σ H2 (fun o H3 => o = none ∧ H3 = H2) I2 ⟨rfl, rfl⟩) fun vu s3 ⟨u, H3, I3, pu, eu, e3⟩ => ?_
  subst eu e3
  refine thn (hst.run pins s3 σ H3 (fun o H4 => o = some (-1) ∧ H4 = H3) I3 ⟨1, rfl, -1, rfl, rfl, rfl⟩) fun vs s4 ⟨o, H4, I4, ps, eo, e4⟩ => ?_
  subst eo e4
  have I5 : Inv X pins σ H4 { s4 with heap := s4.heap.push { cls := .type "slice", data := .fields #[vl, vu, vs] } } := I4.kept (t' := s4.toks) fun b ob q => Heap.get?_push_of_some _ q
  obtain ⟨its, r, ht, hz⟩ := I5.tuple hx
  have hlen := r.length
  cases pl
  cases pu
  show wpAny (model X.prog X.w) X.A (subscriptTail e (.Slice none none (some (.UnaryOp .USub (.Constant (.int 1) k p1) p2)) p3) (.ref a) (.ref s4.heap.objs.size)) (EP X pins σ Q) X.xe { s4 with heap := s4.heap.push { cls := .type "slice", data := .fields #[.none, .none, vs] } }
  refine tail_any (ops := [.ref a, .ref s4.heap.objs.size]) ht.typeIs (PyProof.Rows.slot_tuple_getitem.lookup) ?_ (by with_unfolding_all rfl)
  refine getItem_tuple_rev ht (Heap.IsSliceOf.new _ .none .none vs) ps ?_ (by rw [List.size_toArray]; omega)
  refine ⟨.ref _, _, I5.laid (t' := s4.toks) (o := .tup xs.reverse) (fun b ob q => Heap.get?_push_of_some _ q) (Nat.le_refl _) ?_, rfl, q _ (I5.hok.fresh (Nat.le_refl _))⟩
  exact ⟨by rw [List.length_reverse]; exact hz, _, r.reverse, IsTup.new _ _⟩
/-! ### xs.extend(a tuple) -/
set_option maxRecDepth 8000 in
theorem extend_tupW (l : Addr) (items : Array Value) (n : Nat) (b : Addr) (items2 : Array Value) (n2 : Nat) (dd2 : Option Addr) (sl2 : Array (Option Value)) (hs0 : ¬(!items.isEmpty && Builtin.List.listTooLong (items.size + items2.size)) = true) (hs1 : items.size ≤ sizeLine) (hs2 : items.size + items2.size ≤ sizeLine + 1 := by seq_fits) :
    Meets (Builtin.«list.extend» ⟨[.ref l, .ref b], []⟩) (fun _ R s => s.heap.get? l = some { cls := .type "list", dict := none, data := .seq items n, slots := #[] } ∧ s.heap.get? b = some { cls := .type "tuple", dict := dd2, data := .seq items2 n2, slots := sl2 } ∧ R (.ok (.ret Value.none)) { s with heap := s.heap.update l (Obj.mapSeq fun x => x ++ items2), toks := s.toks }) :=
  .of_wp fun prog w A R s h => by
    obtain ⟨hp, g, d, tk, os⟩ := s; obtain ⟨hl, hb, h⟩ := h; have f1 := AutoSeq1.idx_int; have f2 := AutoSeq1.sub_tuple_tuple; have f3 := AutoSeq1.sub_list_list; have f4 := AutoSeq1.sub_tuple_list; have f5 := AutoSeq1.sub_list_tuple;
    have hz' : (items ++ items2).size ≤ sizeLine + 1 := by rw [Array.size_append]; exact hs2
    wp_walk using (wpAny_updateSeq hl rfl (hz := hs1) (_hz' := hz')), AutoSeq1.wpAny_loadPart' hl, AutoSeq1.wpAny_loadPart' hb; exact ⟨_, rfl, h⟩
def rExtT (K : PySem.W.Frag) : V → List V → Hp → VK → Prop := fun x vs H Q => ∃ l b xs zs, x = .ref l ∧ vs = [.ref b] ∧ H l = some (.lst xs) ∧ SqT K H b zs ∧ xs.length + zs.length ≤ sizeLine ∧ Q .non (upd H l (.lst (xs ++ zs)))
theorem mt_extT : MtM X "list.extend" (rExtT X.K) := by
  intro pins s σ H x vs v us Q I rx rv h
  obtain ⟨l, b, xs, zs, rfl, rfl, hH, hB, hz, q⟩ := h
  cases rx
  obtain ⟨u, rfl, ru⟩ := rv.one
  cases ru
  obtain ⟨z, its, n, r, hl, e⟩ := I.lstM hH
  obtain ⟨its2, r2, ht2, hz2⟩ := I.tuple hB
  have hl2 := r2.length
  obtain ⟨⟨cls2, dd2, data2, sl2⟩, ho2, hc2, n2, hd2⟩ := id ht2
  simp only at hc2 hd2
  subst hc2 hd2
  have hsz : its.toArray.size + its2.toArray.size ≤ sizeLine := by rw [List.size_toArray, List.size_toArray]; omega
  have hlong : ¬ (!its.toArray.isEmpty && Builtin.List.listTooLong (its.toArray.size + its2.toArray.size)) = true := by
    rw [notLongL hsz, Bool.and_false]
    exact Bool.false_ne_true
  refine call_meets F.slot_list_extend ⟨_, e, rfl⟩ F.entry_list_extend (F.args_list_extend_2 _ _)
    (extend_tupW l its.toArray n b its2.toArray n2 dd2 sl2 hlong (by rw [List.size_toArray]; omega) (by omega)) ⟨e, ho2, ?_⟩
  refine ⟨.non, _, I.lset (its' := its ++ its2) hH e (by simp) (r.append r2) ?_, rfl, q⟩
  rw [List.length_append]
  omega
end
end Ap

set_option Elab.async false
set_option linter.all false
set_option maxRecDepth 100000
namespace Ap
open PySem PySem.Spec PyProof.Rows L2 Evl
section
variable {K : PySem.W.Frag} {σ : L2.St} {H H' : Hp} {ta tb tc te : TE} {t u : TT} {x y z v w : V}
theorem et_orF (h1 : EvT t σ H false) (h2 : EvT u σ H false) : EvT (tOr t u) σ H false := et_or (a := false) (b := false) h1 (fun _ => h2)
theorem et_orL (h1 : EvT t σ H true) : EvT (tOr t u) σ H true := fun H1 e Q q => h1 H1 e _ fun H2 e2 => (q H2 e2 : Q true H2)
theorem et_orR (h1 : EvT t σ H false) (h2 : EvT u σ H true) : EvT (tOr t u) σ H true := et_or (a := false) (b := true) h1 (fun _ => h2)
theorem et_andT (h1 : EvT t σ H true) (h2 : EvT u σ H true) : EvT (tAnd t u) σ H true := et_and (a := true) (b := true) h1 (fun _ => h2)
theorem et_andL (h1 : EvT t σ H false) : EvT (tAnd t u) σ H false := fun H1 e Q q => h1 H1 e _ fun H2 e2 => (q H2 e2 : Q false H2)
theorem et_andR (h1 : EvT t σ H true) (h2 : EvT u σ H false) : EvT (tAnd t u) σ H false := et_and (a := true) (b := false) h1 (fun _ => h2)
theorem et_nt (h : EvT t σ H true) : EvT (tNot t) σ H false := et_not h
theorem et_nf (h : EvT t σ H false) : EvT (tNot t) σ H true := et_not h
theorem ev_andT (h1 : Ev ta σ H (.bl true)) (h2 : Ev tb σ H (.bl true)) : Ev (tAndV ta tb) σ H (.bl true) := ev_andV (a := true) (b := true) h1 (fun _ => h2)
theorem ev_andL (h1 : Ev ta σ H (.bl false)) : Ev (tAndV ta tb) σ H (.bl false) := fun H1 e Q q => h1 H1 e _ fun H2 e2 => ⟨false, rfl, (q H2 e2 : Q (.bl false) H2)⟩
theorem ev_andR {b : Bool} (h1 : Ev ta σ H (.bl true)) (h2 : Ev tb σ H (.bl b)) : Ev (tAndV ta tb) σ H (.bl b) := by
  have h := ev_andV (a := true) (b := b) h1 (fun _ => h2)
  rwa [Bool.true_and] at h
theorem ev_orF (h1 : Ev ta σ H (.bl false)) (h2 : Ev tb σ H (.bl false)) : Ev (tOrV ta tb) σ H (.bl false) := ev_orV (a := false) (b := false) h1 (fun _ => h2)
theorem ev_nt (h : Ev ta σ H (.bl true)) : Ev (tNotV ta) σ H (.bl false) := ev_notV h
theorem ev_nf (h : Ev ta σ H (.bl false)) : Ev (tNotV ta) σ H (.bl true) := ev_notV h
theorem rc_isiI : RC (rIsi K) [.int x', .ty "int"] H (.bl true) := rc_isi (X := "int") (fun _ => .base (.int _)) (by decide +kernel)
theorem rc_isiIB : RC (rIsi K) [.int x', .ty "bool"] H (.bl false) := rc_isi (X := "int") (fun _ => .base (.int _)) (by decide +kernel)
theorem rc_isiB : RC (rIsi K) [.bl x', .ty "bool"] H (.bl true) := rc_isi (X := "bool") (fun _ => .base (.bl _)) (by decide +kernel)
theorem rc_isiBI : RC (rIsi K) [.bl x', .ty "int"] H (.bl true) := rc_isi (X := "bool") (fun _ => .base (.bl _)) (by decide +kernel)
theorem rv_eqI {i j : Int} : RV rEq (.int i) (.int j) H (.bl (decide (i = j))) := by
  have h := rv_eq (x := .int i) (y := .int j) (H := H) rfl
  have e : decide (V.int i = V.int j) = decide (i = j) := by
    by_cases q : i = j
    · rw [decide_eq_true q, decide_eq_true (by rw [q])]
    · rw [decide_eq_false q, decide_eq_false (fun h => q (V.int.inj h))]
  rwa [e] at h
theorem rv_neI {i j : Int} : RV rNe (.int i) (.int j) H (.bl (!decide (i = j))) := by
  have h := rv_ne (x := .int i) (y := .int j) (H := H) rfl
  have e : decide (V.int i = V.int j) = decide (i = j) := by
    by_cases q : i = j
    · rw [decide_eq_true q, decide_eq_true (by rw [q])]
    · rw [decide_eq_false q, decide_eq_false (fun h => q (V.int.inj h))]
  rwa [e] at h
end
end Ap

set_option Elab.async false
set_option linter.all false
set_option maxRecDepth 100000
namespace Ap
open PySem PySem.Spec PyProof.Rows L2 Evl
/-! ### parts of a heap that stand apart -/
structure MP where
  p : Hp → Hp → Prop
  m : ∀ B B' H H', Ex B B' → Ex H H' → p B H → p B' H'
def cutIn (S : Addr → Bool) (H : Hp) : Hp := fun a => if S a = true then H a else none
theorem cutIn_ex {S : Addr → Bool} {H H' : Hp} (e : Ex H H') : Ex (cutIn S H) (cutIn S H') := fun a o h => by
  unfold cutIn at h ⊢
  split at h
  · rename_i q
    rw [if_pos q]
    exact e a o h
  · cases h
theorem cutIn_sub {S : Addr → Bool} {H : Hp} : Ex (cutIn S H) H := fun a o h => by
  unfold cutIn at h
  split at h
  · exact h
  · cases h
theorem cutIn_at {S : Addr → Bool} {H : Hp} {a : Addr} {o : HO} (h : cutIn S H a = some o) : S a = true ∧ H a = some o := by
  unfold cutIn at h
  split at h
  · rename_i q
    exact ⟨q, h⟩
  · cases h
theorem cutIn_yes {S : Addr → Bool} {H : Hp} {a : Addr} (h : S a = true) : cutIn S H a = H a := by
  unfold cutIn
  rw [if_pos h]
theorem cutIn_no {S : Addr → Bool} {H : Hp} {a : Addr} (h : S a = false) : cutIn S H a = none := by
  unfold cutIn
  rw [if_neg (by rw [h]; decide)]
def Emp : MP := ⟨fun _ _ => True, fun _ _ _ _ _ _ _ => trivial⟩
def Pt (a : Addr) (o : HO) : MP := ⟨fun _ H => H a = some o, fun _ _ _ _ _ e h => e _ _ h⟩
def Star (P Q : MP) : MP := ⟨fun B H => ∃ S : Addr → Bool, P.p B (cutIn S H) ∧ Q.p B (cutIn (fun a => !S a) H), fun _ _ _ _ b e ⟨S, h1, h2⟩ => ⟨S, P.m _ _ _ _ b (cutIn_ex e) h1, Q.m _ _ _ _ b (cutIn_ex e) h2⟩⟩
def Stars : List MP → MP
  | [] => Emp
  | P :: l => Star P (Stars l)
def Each {α : Type} (xs : List α) (f : α → MP) : MP := Stars (xs.map f)
def ExM {α : Type} (f : α → MP) : MP := ⟨fun B H => ∃ x, (f x).p B H, fun _ _ _ _ b e ⟨x, h⟩ => ⟨x, (f x).m _ _ _ _ b e h⟩⟩
def AndM (φ : Prop) (P : MP) : MP := ⟨fun B H => φ ∧ P.p B H, fun _ _ _ _ b e ⟨a, h⟩ => ⟨a, P.m _ _ _ _ b e h⟩⟩
/-- what is known of the base besides -/
def DpM (K : PySem.W.Frag) (vs : List V) (ds : List PyData) (P : MP) : MP := ⟨fun B H => DpAll K B vs ds ∧ P.p B H, fun _ _ _ _ b e ⟨a, h⟩ => ⟨dpa_mono b _ _ a, P.m _ _ _ _ b e h⟩⟩
theorem cut_cut {S T : Addr → Bool} {H : Hp} : cutIn S (cutIn T H) = cutIn (fun a => T a && S a) H := by
  funext a
  unfold cutIn
  cases hs : S a <;> cases ht : T a <;> simp [hs, ht]
theorem cut_all {H : Hp} : cutIn (fun _ => true) H = H := funext fun a => cutIn_yes rfl
theorem cut_all' {H : Hp} : cutIn (fun a => !((fun _ => false) a)) H = H := funext fun a => cutIn_yes rfl
theorem star_comm {P Q : MP} {B H : Hp} (h : (Star P Q).p B H) : (Star Q P).p B H := by
  obtain ⟨S, h1, h2⟩ := h
  refine ⟨fun a => !S a, h2, ?_⟩
  have e : (fun a => !!S a) = S := by
    funext a
    exact Bool.not_not _
  show P.p B (cutIn (fun a => !!S a) H)
  rw [e]
  exact h1
theorem star_l {P Q : MP} {B H : Hp} (h : (Star P Q).p B H) : P.p B H := by
  obtain ⟨S, h1, h2⟩ := h
  exact P.m _ _ _ _ (Ex.refl B) cutIn_sub h1
theorem star_r {P Q : MP} {B H : Hp} (h : (Star P Q).p B H) : Q.p B H := by
  obtain ⟨S, h1, h2⟩ := h
  exact Q.m _ _ _ _ (Ex.refl B) cutIn_sub h2
theorem star_mono {P P' Q Q' : MP} {B H : Hp} (hp : ∀ H, P.p B H → P'.p B H) (hq : ∀ H, Q.p B H → Q'.p B H) (h : (Star P Q).p B H) : (Star P' Q').p B H := by
  obtain ⟨S, h1, h2⟩ := h
  exact ⟨S, hp _ h1, hq _ h2⟩
theorem star_swap {P Q R : MP} {B H : Hp} (h : (Star P (Star Q R)).p B H) : (Star Q (Star P R)).p B H := by
  obtain ⟨S, h1, T, h2, h3⟩ := h
  rw [cut_cut] at h2 h3
  refine ⟨fun a => !S a && T a, h2, fun a => S a, ?_, ?_⟩
  · rw [cut_cut]
    refine P.m _ _ _ _ (Ex.refl B) (fun a o h => ?_) h1
    obtain ⟨q, h⟩ := cutIn_at h
    rw [cutIn_yes (by show (!(!S a && T a) && S a) = true; rw [q]; rfl)]
    exact h
  · rw [cut_cut]
    refine R.m _ _ _ _ (Ex.refl B) (fun a o h => ?_) h3
    obtain ⟨q, h⟩ := cutIn_at h
    have q : (!S a && !T a) = true := q
    rw [cutIn_yes (by
      show (!(!S a && T a) && !S a) = true
      cases hs : S a <;> cases ht : T a <;> rw [hs, ht] at q <;> first | rfl | cases q)]
    exact h
theorem star_assoc {P Q R : MP} {B H : Hp} (h : (Star (Star P Q) R).p B H) : (Star P (Star Q R)).p B H := star_mono (fun _ h => h) (fun _ h => star_comm h) (star_swap (star_mono (P' := R) (fun _ h => h) (fun _ h => h) (star_comm h)) |> star_mono (fun _ h => h) (fun _ h => h))
theorem star_assoc' {P Q R : MP} {B H : Hp} (h : (Star P (Star Q R)).p B H) : (Star (Star P Q) R).p B H := by
  have h1 : (Star R (Star P Q)).p B H := by
    have h2 : (Star P (Star R Q)).p B H := star_mono (fun _ h => h) (fun _ h => star_comm h) h
    exact star_swap h2
  exact star_comm h1
theorem stars_app : ∀ {l k : List MP} {B H : Hp}, (Star (Stars l) (Stars k)).p B H → (Stars (l ++ k)).p B H
  | [], _, _, _, h => star_r h
  | P :: l, k, _, _, h => star_mono (fun _ h => h) (fun _ h => stars_app h) (star_assoc h)
theorem stars_app' : ∀ {l k : List MP} {B H : Hp}, (Stars (l ++ k)).p B H → (Star (Stars l) (Stars k)).p B H
  | [], _, _, _, h => ⟨fun _ => false, trivial, by
    rw [cut_all']
    exact h⟩
  | P :: l, k, _, _, h => star_assoc' (star_mono (fun _ h => h) (fun _ h => stars_app' h) h)
theorem stars_pull : ∀ (l : List MP) (i : Nat) {B H : Hp} {P : MP}, l[i]? = some P → (Stars l).p B H → (Stars (P :: l.eraseIdx i)).p B H
  | [], i, _, _, _, e, _ => by simp at e
  | Q :: l, 0, _, _, _, e, h => by
    cases (show some Q = some _ from e)
    exact h
  | Q :: l, i + 1, _, _, P, e, h => star_swap (star_mono (P := Q) (Q := Stars l) (Q' := Stars (P :: l.eraseIdx i)) (fun _ h => h) (fun _ h => stars_pull l i (by simpa using e) h) h)
theorem stars_put : ∀ (l : List MP) (i : Nat) {B H : Hp} {P P' : MP}, l[i]? = some P → (Stars (P' :: l.eraseIdx i)).p B H → (Stars (l.set i P')).p B H
  | [], i, _, _, _, _, e, _ => by simp at e
  | Q :: l, 0, _, _, _, _, e, h => h
  | Q :: l, i + 1, _, _, P, P', e, h => star_mono (P := Q) (Q := Stars (P' :: l.eraseIdx i)) (Q' := Stars (l.set i P')) (fun _ h => h) (fun _ h => stars_put l i (P := P) (by simpa using e) h) (star_swap h)
theorem stars_at {l : List MP} {i : Nat} {B H : Hp} {P : MP} (e : l[i]? = some P) (h : (Stars l).p B H) : P.p B H := star_l (stars_pull l i e h)
/-- the base (what never changes), and what stands apart from it -/
def At (B : Hp) (l : List MP) (H : Hp) : Prop := ∃ S : Addr → Bool, Ex B (cutIn S H) ∧ (Stars l).p B (cutIn (fun a => !S a) H)
section
variable {K : PySem.W.Frag} {B H H1 : Hp} {l l' : List MP} {P Q : MP} {i : Nat} {a p : Addr} {o u : HO}
theorem at_map (f : ∀ H, (Stars l).p B H → (Stars l').p B H) (h : At B l H) : At B l' H := by
  obtain ⟨S, h1, h2⟩ := h
  exact ⟨S, h1, f _ h2⟩
theorem at_base (h : At B l H) : Ex B H := by
  obtain ⟨S, h1, h2⟩ := h
  exact h1.trans cutIn_sub
theorem at_ex (h : At B l H) (e : Ex H H1) : At B l H1 := by
  obtain ⟨S, h1, h2⟩ := h
  exact ⟨S, h1.trans (cutIn_ex e), (Stars l).m _ _ _ _ (Ex.refl B) (cutIn_ex e) h2⟩
theorem at_p (i : Nat) (e : l[i]? = some P) (h : At B l H) : P.p B H := by
  obtain ⟨S, h1, h2⟩ := h
  exact P.m _ _ _ _ (Ex.refl B) cutIn_sub (stars_at e h2)
theorem at_get (i : Nat) (e : l[i]? = some (Pt a o)) (h : At B l H) : H a = some o := at_p i e h
theorem at_start : At H [] H := ⟨fun _ => true, by
  rw [cut_all]
  exact Ex.refl H, trivial⟩
/-- what stands apart may become something else -/
theorem at_to (i : Nat) (e : l[i]? = some P) (hq : ∀ H, P.p B H → Q.p B H) (h : At B l H) : At B (l.set i Q) H := at_map (fun _ h => stars_put l i e (star_mono (P := P) (P' := Q) hq (fun _ h => h) (stars_pull l i e h))) h
theorem at_drop (h : At B (P :: l) H) : At B l H := at_map (l := P :: l) (fun _ h => star_r h) h
theorem at_pull (i : Nat) (e : l[i]? = some P) (h : At B l H) : At B (P :: l.eraseIdx i) H := at_map (fun _ h => stars_pull l i e h) h
theorem at_put (i : Nat) (e : l[i]? = some P) (h : At B (Q :: l.eraseIdx i) H) : At B (l.set i Q) H := at_map (fun _ h => stars_put l i e h) h
theorem at_swap {R : MP} (h : At B (P :: R :: l) H) : At B (R :: P :: l) H := at_map (l := P :: R :: l) (l' := R :: P :: l) (fun _ h => star_swap h) h
theorem at_join {R : MP} (h : At B (P :: R :: l) H) : At B (Star P R :: l) H := at_map (l := P :: R :: l) (l' := Star P R :: l) (fun _ h => star_assoc' h) h
theorem at_split {R : MP} (h : At B (Star P R :: l) H) : At B (P :: R :: l) H := at_map (l := Star P R :: l) (l' := P :: R :: l) (fun _ h => star_assoc h) h
theorem at_stars {k : List MP} (h : At B (Stars k :: l) H) : At B (k ++ l) H := at_map (l := Stars k :: l) (fun _ h => stars_app h) h
theorem at_stars' (k : List MP) (h : At B (k ++ l) H) : At B (Stars k :: l) H := at_map (l' := Stars k :: l) (fun _ h => stars_app' h) h
theorem at_exm {α : Type} {f : α → MP} (h : At B (ExM f :: l) H) : ∃ x, At B (f x :: l) H := by
  obtain ⟨S, h1, T, ⟨x, h2⟩, h3⟩ := h
  exact ⟨x, S, h1, T, h2, h3⟩
theorem at_exm' {α : Type} {f : α → MP} (x : α) (h : At B (f x :: l) H) : At B (ExM f :: l) H := by
  obtain ⟨S, h1, T, h2, h3⟩ := h
  exact ⟨S, h1, T, ⟨x, h2⟩, h3⟩
theorem at_and {φ : Prop} (h : At B (AndM φ P :: l) H) : φ ∧ At B (P :: l) H := by
  obtain ⟨S, h1, T, ⟨x, h2⟩, h3⟩ := h
  exact ⟨x, S, h1, T, h2, h3⟩
theorem at_and' {φ : Prop} (x : φ) (h : At B (P :: l) H) : At B (AndM φ P :: l) H := by
  obtain ⟨S, h1, T, h2, h3⟩ := h
  exact ⟨S, h1, T, ⟨x, h2⟩, h3⟩
theorem at_dpm {vs : List V} {ds : List PyData} (h : At B (DpM K vs ds P :: l) H) : DpAll K B vs ds ∧ At B (P :: l) H := by
  obtain ⟨S, h1, T, ⟨x, h2⟩, h3⟩ := h
  exact ⟨x, S, h1, T, h2, h3⟩
theorem at_dpm' {vs : List V} {ds : List PyData} (x : DpAll K B vs ds) (h : At B (P :: l) H) : At B (DpM K vs ds P :: l) H := by
  obtain ⟨S, h1, T, h2, h3⟩ := h
  exact ⟨S, h1, T, ⟨x, h2⟩, h3⟩
theorem upd_cut {S : Addr → Bool} (hS : S a = false) : cutIn S (upd H a o) = cutIn S H := by
  funext b
  by_cases q : b = a
  · rw [q, cutIn_no hS, cutIn_no hS]
  · unfold cutIn
    rw [upd_ne q]
/-- what stands at one of the places is written -/
theorem star_upd (h : (Star (Pt a o) P).p B H) : (Star (Pt a u) P).p B (upd H a u) := by
  obtain ⟨S, h1, h2⟩ := h
  have hs := (cutIn_at (show cutIn S H a = some o from h1)).1
  refine ⟨S, ?_, ?_⟩
  · show cutIn S (upd H a u) a = some u
    rw [cutIn_yes hs, upd_same]
  · rw [upd_cut (S := fun b => !S b) (by rw [hs]; rfl)]
    exact h2
theorem cut_upd {S : Addr → Bool} (hS : S a = true) : cutIn S (upd H a o) = upd (cutIn S H) a o := by
  funext b
  by_cases q : b = a
  · rw [q, cutIn_yes hS, upd_same, upd_same]
  · rw [upd_ne q]
    unfold cutIn
    rw [upd_ne q]
theorem at_upd (i : Nat) (e : l[i]? = some (Pt a o)) (h : At B l H) : At B (l.set i (Pt a u)) (upd H a u) := by
  obtain ⟨S, h1, h2⟩ := h
  have hs : (!S a) = true := (cutIn_at (show cutIn (fun a => !S a) H a = some o from stars_at e h2)).1
  have hs' : S a = false := by
    cases q : S a
    · rfl
    · rw [q] at hs; cases hs
  refine ⟨S, by rw [upd_cut hs']; exact h1, ?_⟩
  rw [cut_upd hs]
  exact stars_put l i e (star_upd (stars_pull l i e h2))
/-- something new -/
theorem star_new (h : P.p B H) (np : H p = none) (e : Ex H H1) (hp : H1 p = some o) : (Star (Pt p o) P).p B H1 := by
  refine ⟨fun a => decide (a = p), ?_, P.m _ _ _ _ (Ex.refl B) (fun a u h => ?_) h⟩
  · show cutIn (fun a => decide (a = p)) H1 p = some o
    rw [cutIn_yes (decide_eq_true rfl)]
    exact hp
  · have ne : a ≠ p := ne_of_none h np
    rw [cutIn_yes (by show (!decide (a = p)) = true; rw [decide_eq_false ne]; rfl)]
    exact e a u h
theorem at_new (h : At B l H) (np : H p = none) (e : Ex H H1) (hp : H1 p = some o) : At B (Pt p o :: l) H1 := by
  obtain ⟨S, h1, h2⟩ := h
  refine ⟨fun a => S a && !decide (a = p), fun a u ha => ?_, ?_⟩
  · obtain ⟨q, hh⟩ := cutIn_at (h1 a u ha)
    rw [cutIn_yes (by show (S a && !decide (a = p)) = true; rw [q, decide_eq_false (ne_of_none hh np)]; rfl)]
    exact e a u hh
  · refine star_new (P := Stars l) (H := cutIn (fun a => !S a) H) h2 ?_ (fun a u ha => ?_) ?_
    · unfold cutIn
      split
      · exact np
      · rfl
    · obtain ⟨q, hh⟩ := cutIn_at ha
      rw [cutIn_yes (by
        show (!(S a && !decide (a = p))) = true
        cases hs : S a
        · rfl
        · rw [hs] at q; cases q)]
      exact e a u hh
    · rw [cutIn_yes (by show (!(S p && !decide (p = p))) = true; rw [decide_eq_true rfl]; simp)]
      exact hp
/-- a new thing that belongs to the base from now on: all that is new does -/
theorem at_grow (h : At B l H) (e : Ex H H1) : At (ov B H H1) l H1 := by
  obtain ⟨S, h1, h2⟩ := h
  refine ⟨fun a => S a || (H a).isNone, ?_, (Stars l).m _ _ _ _ ov_base (fun a o ha => ?_) h2⟩
  · intro a o ha
    unfold ov at ha
    cases hb : B a with
    | some o' =>
      rw [hb] at ha
      have hc := h1 a o' hb
      obtain ⟨q, hh⟩ := cutIn_at hc
      rw [cutIn_yes (by show (S a || (H a).isNone) = true; rw [q]; rfl), ← ha]
      exact e a o' hh
    | none =>
      rw [hb] at ha
      cases h0 : H a with
      | some o' => rw [h0] at ha; cases ha
      | none =>
        rw [h0] at ha
        rw [cutIn_yes (by show (S a || (H a).isNone) = true; rw [h0]; simp)]
        exact ha
  · obtain ⟨q, hh⟩ := cutIn_at ha
    rw [cutIn_yes (by
      show (!(S a || (H a).isNone)) = true
      rw [hh]
      cases hs : S a
      · rfl
      · rw [hs] at q; cases q)]
    exact e a o hh
/-- what stood apart belongs to the base from now on -/
theorem at_freeze (h : At B (Pt p o :: l) H) : Ex B (upd B p o) ∧ At (upd B p o) l H := by
  obtain ⟨S, h1, T, h2, h3⟩ := h
  rw [cut_cut] at h2 h3
  have hq := cutIn_at (show cutIn (fun a => !S a && T a) H p = some o from h2)
  have hs : S p = false := by
    have := hq.1
    cases hs : S p
    · rfl
    · rw [hs] at this; cases this
  have hn : B p = none := by
    cases hb : B p with
    | none => rfl
    | some o' =>
      have hc := (cutIn_at (h1 p o' hb)).1
      rw [hs] at hc
      cases hc
  refine ⟨Ex.new hn, fun a => S a || decide (a = p), ?_, (Stars l).m _ _ _ _ (Ex.new hn) (fun a u ha => ?_) h3⟩
  · intro a u ha
    by_cases q : a = p
    · rw [q, upd_same] at ha
      rw [q, cutIn_yes (by show (S p || decide (p = p)) = true; rw [decide_eq_true rfl]; simp)]
      rw [hq.2]
      exact ha
    · rw [upd_ne q] at ha
      obtain ⟨k, hh⟩ := cutIn_at (h1 a u ha)
      rw [cutIn_yes (by show (S a || decide (a = p)) = true; rw [k]; rfl)]
      exact hh
  · obtain ⟨k, hh⟩ := cutIn_at ha
    have k : (!S a && !T a) = true := k
    have ne : a ≠ p := fun e => by
      have k2 := hq.1
      rw [e] at k
      cases hs2 : S p <;> cases ht : T p <;> simp [hs2, ht] at k k2
    rw [cutIn_yes (by
      show (!(S a || decide (a = p))) = true
      rw [decide_eq_false ne]
      cases hs : S a
      · rfl
      · rw [hs] at k; cases k)]
    exact hh
end
/-! ### rows of things that stand apart -/
theorem map_erase {α β : Type} (f : α → β) : ∀ (xs : List α) (i : Nat), (xs.map f).eraseIdx i = (xs.eraseIdx i).map f
  | [], _ => rfl
  | x :: xs, 0 => rfl
  | x :: xs, i + 1 => by
    show f x :: (xs.map f).eraseIdx i = _
    rw [map_erase f xs i]
    rfl
section
variable {α : Type} {B H : Hp} {l : List MP} {xs : List α} {f : α → MP} {i : Nat} {x x' : α}
theorem each_at (h : At B (Each xs f :: l) H) (e : xs[i]? = some x) : At B (f x :: Each (xs.eraseIdx i) f :: l) H := by
  have h1 : At B (Stars (f x :: (xs.map f).eraseIdx i) :: l) H := at_map (l := Each xs f :: l) (l' := Stars (f x :: (xs.map f).eraseIdx i) :: l) (fun _ h => star_mono (P := Stars (xs.map f)) (fun _ h => stars_pull (xs.map f) i (by rw [List.getElem?_map, e]; rfl) h) (fun _ h => h) h) h
  rw [map_erase f xs i] at h1
  exact at_split h1
theorem each_set (hi : i < xs.length) (h : At B (f x' :: Each (xs.eraseIdx i) f :: l) H) : At B (Each (xs.set i x') f :: l) H := by
  have h1 := at_join h
  have e2 : Each (xs.set i x') f = Stars ((xs.map f).set i (f x')) := by
    unfold Each
    rw [List.map_set]
  rw [e2]
  refine at_map (l := Star (f x') (Each (xs.eraseIdx i) f) :: l) (l' := Stars ((xs.map f).set i (f x')) :: l) (fun _ h => star_mono (P := Star (f x') (Each (xs.eraseIdx i) f)) (fun _ h => stars_put (xs.map f) i (P := f xs[i]) (by rw [List.getElem?_map, List.getElem?_eq_getElem hi]; rfl) ?_) (fun _ h => h) h) h1
  rw [map_erase]
  exact h
theorem each_nil (h : At B l H) : At B (Each ([] : List α) f :: l) H := by
  refine at_map (l := l) (l' := Each ([] : List α) f :: l) (fun _ h => ?_) h
  exact ⟨fun _ => false, trivial, by
    rw [cut_all']
    exact h⟩
end
/-! ### another order -/
theorem stars_perm {l l' : List MP} (h : l.Perm l') : ∀ {B H : Hp}, (Stars l).p B H → (Stars l').p B H := by
  induction h with
  | nil => exact fun h => h
  | cons x _ ih => exact fun h => star_mono (P := x) (fun _ h => h) (fun _ h => ih h) h
  | swap x y l => exact fun h => star_swap h
  | trans _ _ ih1 ih2 => exact fun h => ih2 (ih1 h)
theorem at_perm {B H : Hp} {l l' : List MP} (p : l.Perm l') (h : At B l H) : At B l' H := at_map (fun _ h => stars_perm p h) h
theorem range_get {α : Type} (d : α) : ∀ l : List α, (List.range l.length).map (fun i => l.getD i d) = l := fun l => by
  refine List.ext_getElem (by simp) fun i h1 h2 => ?_
  simp [List.getD_eq_getElem?_getD, List.getElem?_eq_getElem h2]
theorem at_ix {B H : Hp} {l : List MP} (n : Nat) (is : List Nat) (h : At B l H) (hp : is.isPerm (List.range n) = true := by decide) (hn : n ≤ l.length := by simp) : At B (is.map (fun i => l.getD i Emp) ++ l.drop n) H := by
  refine at_perm ?_ h
  have p := List.isPerm_iff.mp hp
  have e : (List.range n).map (fun i => l.getD i Emp) = l.take n := by
    have e1 := range_get Emp (l.take n)
    rw [List.length_take, Nat.min_eq_left hn] at e1
    refine Eq.trans (List.map_congr_left fun i hi => ?_) e1
    have hi := List.mem_range.mp hi
    rw [List.getD_eq_getElem?_getD, List.getD_eq_getElem?_getD, List.getElem?_take_of_lt hi]
  have q := (p.map (fun i => l.getD i Emp)).append_right (l.drop n)
  rw [e, List.take_append_drop] at q
  exact q.symm
theorem each_app {α : Type} {B H : Hp} {l : List MP} {xs : List α} {f : α → MP} {x : α} (h : At B (f x :: Each xs f :: l) H) : At B (Each (xs ++ [x]) f :: l) H := by
  have h1 := at_join h
  have e : (f x :: xs.map f).Perm ((xs ++ [x]).map f) := by
    rw [List.map_append]
    exact (List.perm_append_singleton (f x) (xs.map f)).symm
  exact at_map (l := Star (f x) (Each xs f) :: l) (l' := Each (xs ++ [x]) f :: l) (fun _ h => star_mono (P := Stars (f x :: xs.map f)) (fun _ h => stars_perm e h) (fun _ h => h) h) h1
/-- an empty row, at the n-th place -/
theorem each_nil_at {α : Type} {B H : Hp} {l : List MP} {f : α → MP} (n : Nat) (h : At B l H) : At B (l.take n ++ Each ([] : List α) f :: l.drop n) H := by
  refine at_perm ?_ (each_nil (f := f) h)
  have := (List.perm_middle (a := Each ([] : List α) f) (l₁ := l.take n) (l₂ := l.drop n)).symm
  rwa [List.take_append_drop] at this
end Ap

set_option Elab.async false
set_option linter.all false
set_option maxRecDepth 100000
namespace Ap
open PySem PySem.Spec PyProof.Rows L2 Evl
/-! ### what evaluates to what where some things stand apart from a base: the base may grow, the rest stays -/
structure Rr where
  r : V → Hp → Prop
  m : ∀ {v : V} {B B' : Hp}, Ex B B' → r v B → r v B'
def rV (x : V) : Rr := ⟨fun v _ => v = x, fun _ h => h⟩
def rD (K : PySem.W.Frag) (d : PyData) : Rr := ⟨fun v B => Dp K B v d, fun e h => dp_mono e _ _ h⟩
def rN (φ : Int → Prop) : Rr := ⟨fun v _ => ∃ i, v = .int i ∧ φ i, fun _ h => h⟩
def rBo : Rr := ⟨fun v _ => ∃ b, v = .bl b, fun _ h => h⟩
def Wv (te : TE) (σ : L2.St) (B : Hp) (l : List MP) (R : Rr) : Prop := ∀ B1 H, Ex B B1 → At B1 l H → ∀ Q : VK, (∀ v B2 H2, Ex B1 B2 → At B2 l H2 → R.r v B2 → Q v H2) → te σ H Q
def Wa (K : PySem.W.Frag) (ta : TA) (σ : L2.St) (B : Hp) (l : List MP) (ds : List PyData) : Prop := ∀ B1 H, Ex B B1 → At B1 l H → ∀ Q : List V → Hp → Prop, (∀ vs B2 H2, Ex B1 B2 → At B2 l H2 → DpAll K B2 vs ds → Q vs H2) → ta σ H Q
section
variable {K : PySem.W.Frag} {σ : L2.St} {B B' H H' : Hp} {l l' : List MP} {ta tb te : TE} {t : TT} {x y v : V} {d : PyData} {ds : List PyData} {R R' : Rr} {P : MP} {i j : Nat} {a p : Addr} {o u : HO}
theorem Wv.up (e : Ex B B') (h : Wv te σ B l R) : Wv te σ B' l R := fun B1 H1 e1 hA Q q => h B1 H1 (e.trans e1) hA Q q
theorem Wv.to (hr : ∀ v B, R.r v B → R'.r v B) (h : Wv te σ B l R) : Wv te σ B l R' := fun B1 H1 e1 hA Q q => h B1 H1 e1 hA Q fun v B2 H2 e2 hA2 hv => q v B2 H2 e2 hA2 (hr v B2 hv)
/-- what is known without the base growing -/
theorem wv_of (h : ∀ B1 H, Ex B B1 → At B1 l H → Ev te σ H x) : Wv te σ B l (rV x) := fun B1 H1 e1 hA Q q => h B1 H1 e1 hA H1 (Ex.refl H1) Q fun H2 e2 => q x B1 H2 (Ex.refl B1) (at_ex hA e2) rfl
theorem wv_dp (h : Wv te σ B l (rV x)) (hd : Dp K B x d) : Wv te σ B l (rD K d) := fun B1 H1 e1 hA Q q => h B1 H1 e1 hA Q fun v B2 H2 e2 hA2 hv => q v B2 H2 e2 hA2 (by
  have hv : v = x := hv
  rw [hv]
  exact dp_mono (e1.trans e2) _ _ hd)
theorem wv_var (h : σ[i]? = some (some v)) (hd : Dp K B v d) : Wv (tVar i) σ B l (rD K d) := wv_dp (wv_of fun _ _ _ _ => ev_var h) hd
theorem wv_int {n : Int} (h : Wv te σ B l (rV (.int n))) : Wv te σ B l (rD K (.int n)) := wv_dp h (.int n)
theorem wv_str {z : Str} : Wv (tC (.str z)) σ B l (rD K (.str z)) := wv_dp (wv_of fun _ _ _ _ => ev_c) (.str z)
/-- data over the whole heap of now, told over the base -/
theorem wv_ed (h : ∀ B1, Ex B B1 → EvD K te σ B1 d) : Wv te σ B l (rD K d) := fun B1 H1 e1 hA Q q => h B1 e1 H1 (at_base hA) Q fun v H2 e2 hv => q v (ov B1 H1 H2) H2 ov_base (at_grow hA e2) hv
theorem wa_nil : Wa K tNil σ B l [] := fun B1 H1 _ hA Q q => q [] B1 H1 (Ex.refl B1) hA .nil
theorem wa_cons {tr : TA} (h : Wv te σ B l (rD K d)) (hr : Wa K tr σ B l ds) : Wa K (tCons te tr) σ B l (d :: ds) := fun B1 H1 e1 hA Q q =>
  h B1 H1 e1 hA _ fun v B2 H2 e2 hA2 hv => hr B2 H2 (e1.trans e2) hA2 _ fun vs B3 H3 e3 hA3 hs => q (v :: vs) B3 H3 (e2.trans e3) hA3 (.cons (dp_mono e3 _ _ hv) hs)
theorem at_tup {vs : List V} (hA : At B l H) (hp : H p = none) : Ex B (ov B H (upd H p (.tup vs))) ∧ At (ov B H (upd H p (.tup vs))) l (upd H p (.tup vs)) ∧ ov B H (upd H p (.tup vs)) p = some (.tup vs) :=
  ⟨ov_base, at_grow hA (Ex.new hp), ov_new (at_base hA) (Ex.refl H) hp⟩
theorem wv_tup {ta : TA} (h : Wa K ta σ B l ds) (hl : ds.length ≤ 100000) : Wv (tTup ta) σ B l (rD K (.tuple ds)) := fun B1 H1 e1 hA Q q =>
  h B1 H1 e1 hA _ fun vs B2 H2 e2 hA2 hs => ⟨by rw [dpa_len hs]; exact sz_of hl, fun p hp => by
    obtain ⟨k1, k2, k3⟩ := at_tup (vs := vs) hA2 hp
    exact q _ _ _ (e2.trans k1) k2 (.tup (st_of k3) (dpa_mono k1 _ _ hs))⟩
/-- a new list -/
def Wl (K : PySem.W.Frag) (te : TE) (σ : L2.St) (B : Hp) (l : List MP) (ds : List PyData) : Prop := ∀ B1 H, Ex B B1 → At B1 l H → ∀ Q : VK, (∀ p xs B2 H2, Ex B1 B2 → At B2 (Pt p (.lst xs) :: l) H2 → DpAll K B2 xs ds → Q (.ref p) H2) → te σ H Q
theorem wl_lst {ta : TA} (h : Wa K ta σ B l ds) (hl : ds.length ≤ 100000) : Wl K (tLst ta) σ B l ds := fun B1 H1 e1 hA Q q =>
  h B1 H1 e1 hA _ fun vs B2 H2 e2 hA2 hs => ⟨by rw [dpa_len hs]; exact sz_of hl, fun p hp => q p vs B2 _ e2 (at_new hA2 hp (Ex.new hp) upd_same) hs⟩
/-! ### statements -/
variable {D : Ends} {tz tu tw : TS}
theorem qe_asg (hA : At B l H) (h : Ev te σ H x) (k : ∀ H1, At B l H1 → tz D (σ.set i (some x)) H1) : tSeq (tAsg te (gName i)) tz D σ H := q_asg h fun H1 e => k H1 (at_ex hA e)
theorem se_asg (hA : At B l H) (h : Ev te σ H x) (k : ∀ H1, At B l H1 → D.nx (σ.set i (some x)) H1) : tAsg te (gName i) D σ H := s_asg h fun H1 e => k H1 (at_ex hA e)
theorem qw_asg (hA : At B l H) (h : Wv te σ B l R) (k : ∀ v B1 H1, Ex B B1 → At B1 l H1 → R.r v B1 → tz D (σ.set i (some v)) H1) : tSeq (tAsg te (gName i)) tz D σ H := h B H (Ex.refl B) hA _ fun v B1 H1 e1 hA1 hv => k v B1 H1 e1 hA1 hv
theorem sw_asg (hA : At B l H) (h : Wv te σ B l R) (k : ∀ v B1 H1, Ex B B1 → At B1 l H1 → R.r v B1 → D.nx (σ.set i (some v)) H1) : tAsg te (gName i) D σ H := h B H (Ex.refl B) hA _ fun v B1 H1 e1 hA1 hv => k v B1 H1 e1 hA1 hv
theorem qw_lst (hA : At B l H) (h : Wl K te σ B l ds) (k : ∀ p xs B1 H1, Ex B B1 → At B1 (Pt p (.lst xs) :: l) H1 → DpAll K B1 xs ds → tz D (σ.set i (some (.ref p))) H1) : tSeq (tAsg te (gName i)) tz D σ H := h B H (Ex.refl B) hA _ fun p xs B1 H1 e1 hA1 hv => k p xs B1 H1 e1 hA1 hv
theorem qe_lst {xs : List V} (hA : At B l H) (h : EvL te σ H xs) (k : ∀ p H1, At B (Pt p (.lst xs) :: l) H1 → tz D (σ.set i (some (.ref p))) H1) : tSeq (tAsg te (gName i)) tz D σ H := q_asgL h fun p H1 np e hp => k p H1 (at_new hA np e hp)
theorem sw_ret (hA : At B l H) (h : Wv te σ B l R) (k : ∀ v B1 H1, Ex B B1 → At B1 l H1 → R.r v B1 → D.rt v H1) : tRet te D σ H := h B H (Ex.refl B) hA _ fun v B1 H1 e1 hA1 hv => k v B1 H1 e1 hA1 hv
theorem se_ret (hA : At B l H) (h : Ev te σ H x) (k : ∀ H1, At B l H1 → D.rt x H1) : tRet te D σ H := s_ret h fun H1 e => k H1 (at_ex hA e)
theorem qe_when {b : Bool} (hA : At B l H) (h : EvT t σ H b) (h1 : b = true → ∀ H1, At B l H1 → tu { D with nx := tz D } σ H1) (h2 : b = false → ∀ H1, At B l H1 → tz D σ H1) : tSeq (tIfS t tu tNext) tz D σ H := q_when h (fun hb H1 e => h1 hb H1 (at_ex hA e)) (fun hb H1 e => h2 hb H1 (at_ex hA e))
theorem se_when {b : Bool} (hA : At B l H) (h : EvT t σ H b) (h1 : b = true → ∀ H1, At B l H1 → tu D σ H1) (h2 : b = false → ∀ H1, At B l H1 → D.nx σ H1) : tIfS t tu tNext D σ H := s_when h (fun hb H1 e => h1 hb H1 (at_ex hA e)) (fun hb H1 e => h2 hb H1 (at_ex hA e))
theorem qe_if {b : Bool} (hA : At B l H) (h : EvT t σ H b) (h1 : b = true → ∀ H1, At B l H1 → tu { D with nx := tz D } σ H1) (h2 : b = false → ∀ H1, At B l H1 → tw { D with nx := tz D } σ H1) : tSeq (tIfS t tu tw) tz D σ H := q_if h (fun hb H1 e => h1 hb H1 (at_ex hA e)) (fun hb H1 e => h2 hb H1 (at_ex hA e))
theorem se_if {b : Bool} (hA : At B l H) (h : EvT t σ H b) (h1 : b = true → ∀ H1, At B l H1 → tu D σ H1) (h2 : b = false → ∀ H1, At B l H1 → tw D σ H1) : tIfS t tu tw D σ H := s_if h (fun hb H1 e => h1 hb H1 (at_ex hA e)) (fun hb H1 e => h2 hb H1 (at_ex hA e))
/-- l.append(e) -/
theorem qe_app {q : Addr} {xs : List V} (k : Nat) (hk : l[k]? = some (Pt q (.lst xs))) (hA : At B l H) (ha : Ev ta σ H (.ref q)) (h : Ev te σ H v) (hz : xs.length < 100000) (c : ∀ H1, At B (l.set k (Pt q (.lst (xs ++ [v])))) H1 → tz D σ H1) : tSeq (tDrop (tBM K "list" rAppend ta (tCons te tNil))) tz D σ H :=
  q_app (at_get k hk hA) ha h hz fun H1 e => c _ (at_upd k hk (at_ex hA e))
theorem se_app {q : Addr} {xs : List V} (k : Nat) (hk : l[k]? = some (Pt q (.lst xs))) (hA : At B l H) (ha : Ev ta σ H (.ref q)) (h : Ev te σ H v) (hz : xs.length < 100000) (c : ∀ H1, At B (l.set k (Pt q (.lst (xs ++ [v])))) H1 → D.nx σ H1) : tDrop (tBM K "list" rAppend ta (tCons te tNil)) D σ H :=
  s_app (at_get k hk hA) ha h hz fun H1 e => c _ (at_upd k hk (at_ex hA e))
theorem sw_app {q : Addr} {xs : List V} (k : Nat) (hk : l[k]? = some (Pt q (.lst xs))) (hA : At B l H) (ha : ∀ H1, Ev ta σ H1 (.ref q)) (h : Wv te σ B l R) (hz : xs.length < 100000) (c : ∀ v B1 H1, Ex B B1 → R.r v B1 → At B1 (l.set k (Pt q (.lst (xs ++ [v])))) H1 → D.nx σ H1) : tDrop (tBM K "list" rAppend ta (tCons te tNil)) D σ H :=
  ha H H (Ex.refl H) _ fun H1 e1 => ⟨.inl ⟨rfl, xs, sq_of (at_get k hk (at_ex hA e1))⟩, h B H1 (Ex.refl B) (at_ex hA e1) _ fun v B2 H2 e2 hA2 hv => ⟨q, xs, v, rfl, rfl, at_get k hk hA2, sz_lt hz, c v B2 _ e2 hv (at_upd k hk hA2)⟩⟩
theorem qw_app {q : Addr} {xs : List V} (k : Nat) (hk : l[k]? = some (Pt q (.lst xs))) (hA : At B l H) (ha : ∀ H1, Ev ta σ H1 (.ref q)) (h : Wv te σ B l R) (hz : xs.length < 100000) (c : ∀ v B1 H1, Ex B B1 → R.r v B1 → At B1 (l.set k (Pt q (.lst (xs ++ [v])))) H1 → tz D σ H1) : tSeq (tDrop (tBM K "list" rAppend ta (tCons te tNil))) tz D σ H :=
  sw_app (D := { D with nx := tz D }) k hk hA ha h hz c
/-! ### objects and dicts -/
theorem ev_fld {C dx : Addr} {fs : List (Str × V)} {f : Str} (h : Ev ta σ H (.ref a)) (ha : H a = some (.ins C dx fs)) (c : Cls K C) (n : NoAttr K C f) (hl : fs.lookup f = some v) : Ev (tFld K ta f) σ H v := fun H1 e Q q => h H1 e _ fun H2 e2 => ⟨a, C, dx, fs, v, rfl, (e.trans e2) _ _ ha, c, n, hl, q H2 e2⟩
theorem ev_din {ty td : TE} {kvs : List (Key × V)} {k : Key} (hk : Ev ty σ H (kV k)) (hd : Ev td σ H (.ref a)) (h : H a = some (.dK kvs)) : Ev (tDIn ty td) σ H (.bl (valV kvs k).isSome) := fun H1 e Q q => hk H1 e _ fun H2 e2 => hd H2 (e.trans e2) _ fun H3 e3 => ⟨a, valV kvs k, rfl, .inl ⟨kvs, k, .inl (((e.trans e2).trans e3) _ _ h), rfl, rfl⟩, q H3 (e2.trans e3)⟩
theorem ev_dni {ty td : TE} {kvs : List (Key × V)} {k : Key} (hk : Ev ty σ H (kV k)) (hd : Ev td σ H (.ref a)) (h : H a = some (.dK kvs)) : Ev (tDNotIn ty td) σ H (.bl (!(valV kvs k).isSome)) := fun H1 e Q q => hk H1 e _ fun H2 e2 => hd H2 (e.trans e2) _ fun H3 e3 => ⟨a, valV kvs k, rfl, .inl ⟨kvs, k, .inl (((e.trans e2).trans e3) _ _ h), rfl, rfl⟩, q H3 (e2.trans e3)⟩
theorem qe_fld {C dx : Addr} {fs : List (Str × V)} {f : Str} (k : Nat) (hk : l[k]? = some (Pt a (.ins C dx fs))) (hA : At B l H) (hv : Ev tb σ H y) (ho : ∀ H1, Ev ta σ H1 (.ref a)) (c : Cls K C) (n : NoAttr K C f) (hl : fs.length < 1000) (g : ∀ H1, At B (l.set k (Pt a (.ins C dx (putF f y fs)))) H1 → tz D σ H1) : tSeq (sFld K ta tb f) tz D σ H :=
  hv H (Ex.refl H) _ fun H1 e1 => ho H1 H1 (Ex.refl H1) _ fun H2 e2 => ⟨a, C, dx, fs, rfl, at_get k hk (at_ex hA (e1.trans e2)), c, n, hl, g _ (at_upd k hk (at_ex hA (e1.trans e2)))⟩
theorem se_fld {C dx : Addr} {fs : List (Str × V)} {f : Str} (k : Nat) (hk : l[k]? = some (Pt a (.ins C dx fs))) (hA : At B l H) (hv : Ev tb σ H y) (ho : ∀ H1, Ev ta σ H1 (.ref a)) (c : Cls K C) (n : NoAttr K C f) (hl : fs.length < 1000) (g : ∀ H1, At B (l.set k (Pt a (.ins C dx (putF f y fs)))) H1 → D.nx σ H1) : sFld K ta tb f D σ H :=
  hv H (Ex.refl H) _ fun H1 e1 => ho H1 H1 (Ex.refl H1) _ fun H2 e2 => ⟨a, C, dx, fs, rfl, at_get k hk (at_ex hA (e1.trans e2)), c, n, hl, g _ (at_upd k hk (at_ex hA (e1.trans e2)))⟩
/-- o.f = {} -/
theorem qe_fldD {C dx : Addr} {fs : List (Str × V)} {f : Str} (k : Nat) (hk : l[k]? = some (Pt a (.ins C dx fs))) (hA : At B l H) (ho : ∀ H1, Ev ta σ H1 (.ref a)) (c : Cls K C) (n : NoAttr K C f) (hl : fs.length < 1000) (g : ∀ p H1, At B (Pt p (.dK []) :: l.set k (Pt a (.ins C dx (putF f (.ref p) fs)))) H1 → tz D σ H1) : tSeq (sFld K ta tDNewK f) tz D σ H := fun p hp =>
  have hA1 := at_new hA hp (Ex.new hp) upd_same
  ho _ _ (Ex.refl _) _ fun H2 e2 => ⟨a, C, dx, fs, rfl, at_get (k + 1) (by simpa using hk) (at_ex hA1 e2), c, n, hl, g p _ (by
    have h := at_upd (u := .ins C dx (putF f (.ref p) fs)) (k + 1) (by simpa using hk) (at_ex hA1 e2)
    simpa using h)⟩
theorem se_fldD {C dx : Addr} {fs : List (Str × V)} {f : Str} (k : Nat) (hk : l[k]? = some (Pt a (.ins C dx fs))) (hA : At B l H) (ho : ∀ H1, Ev ta σ H1 (.ref a)) (c : Cls K C) (n : NoAttr K C f) (hl : fs.length < 1000) (g : ∀ p H1, At B (Pt p (.dK []) :: l.set k (Pt a (.ins C dx (putF f (.ref p) fs)))) H1 → D.nx σ H1) : sFld K ta tDNewK f D σ H :=
  qe_fldD (tz := fun D => D.nx) k hk hA ho c n hl g
/-- C(..) -/
theorem make_at {C : Addr} {sp : Sp} {E : XK} {ta : TA} {vs : List V} {Q : VK} (hA : At B l H) (h : EvA ta σ H vs) (k : ∀ x dx H1, At B (Pt x (.ins C dx []) :: l) H1 → sp (.ref x :: (vs ++ [])) H1 (fun v H2 => v = .non ∧ Q (.ref x) H2) E) : tMake C sp [] E ta σ H Q := h H (Ex.refl H) _ fun H1 e1 x dx nx ndx ne => by
  have h1 := at_new (at_ex hA e1) ndx (Ex.new ndx) (upd_same (o := .own x))
  have nx' : upd H1 dx (.own x) x = none := by rw [upd_ne (Ne.symm ne)]; exact nx
  have h2 := at_new h1 nx' (Ex.new nx') (upd_same (o := .ins C dx []))
  exact k x dx _ (at_drop (at_swap h2))
end
mutual
theorem dp_dx {K : PySem.W.Frag} {H : Hp} : ∀ (d : PyData) (v : V), Dp K H v d → Dx K H v d
  | .none, _, h => by cases h; exact .non
  | .bool b, _, h => by cases h; exact .bl b
  | .int i, _, h => by cases h; exact .int i
  | .str x, _, h => by cases h; exact .str x
  | .list ds, _, h => by
    cases h with
    | lst hs ha => exact .lst hs (dpa_dxa ds _ ha)
  | .tuple ds, _, h => by
    cases h with
    | tup hs ha => exact .tup hs (dpa_dxa ds _ ha)
  | .dict _, _, h => by cases h
theorem dpa_dxa {K : PySem.W.Frag} {H : Hp} : ∀ (ds : List PyData) (vs : List V), DpAll K H vs ds → DxAll K H vs ds
  | [], _, h => by cases h; exact .nil
  | d :: ds, _, h => by
    cases h with
    | cons h1 h2 => exact .cons (dp_dx d _ h1) (dpa_dxa ds _ h2)
end
def isLst : PyData → Bool
  | .list _ => true
  | _ => false
theorem kit_lst : ∀ d : PyData, kitB (tyN d) "list" = some (isLst d)
  | .none => (by decide +kernel : kitB "NoneType" "list" = some false)
  | .bool _ => (by decide +kernel : kitB "bool" "list" = some false)
  | .int _ => (by decide +kernel : kitB "int" "list" = some false)
  | .str _ => (by decide +kernel : kitB "str" "list" = some false)
  | .list _ => (by decide +kernel : kitB "list" "list" = some true)
  | .tuple _ => (by decide +kernel : kitB "tuple" "list" = some false)
  | .dict _ => (by decide +kernel : kitB "dict" "list" = some false)
theorem kitAny2 {K : PySem.W.Frag} {X T1 T2 : String} {b1 b2 : Bool} (h1 : kitB X T1 = some b1) (h2 : kitB X T2 = some b2) : PySem.W.kitAny K (.type X) [.type T1, .type T2] = some (b1 || b2) := by
  refine kitAny_cons (kit_ty h1) (fun e => ?_) (fun e => by rw [e]; rfl)
  rw [e, Bool.false_or]
  exact kitAny_cons (kit_ty h2) (fun e => by rw [e]; exact kitAny_nil) (fun e => e)
section
variable {K : PySem.W.Frag} {σ : L2.St} {H : Hp} {te ta tb : TE} {d : PyData} {ds : List PyData} {T T1 T2 : String} {b b1 b2 : Bool}
/-- isinstance(x, (T1, T2)) -/
theorem ev_isiT2 (h : EvX K te σ H d) (h1 : kitB (tyN d) T1 = some b1) (h2 : kitB (tyN d) T2 = some b2) : Ev (tCB (rIsiT K) (tCons te (tCons (tTup (tCons (tC (.ty T1)) (tCons (tC (.ty T2)) tNil))) tNil))) σ H (.bl (b1 || b2)) := fun H1 e Q q => h H1 e _ fun v H2 e2 hv => ⟨sz_of (by decide : 2 ≤ 100000), fun p hp =>
  ⟨v, p, [.ty T1, .ty T2], .type (tyN d), [.type T1, .type T2], b1 || b2, rfl, upd_same, .cons (.ty T1) (.cons (.ty T2) .nil), tyx_dx (dx_mono ((ov_ex e e2).trans (Ex.new hp)) d v hv), kitAny2 h1 h2, q _ (e2.trans (Ex.new hp))⟩⟩
theorem ev_lenX2 (h : d = .list ds ∨ d = .tuple ds) (ha : EvX K ta σ H d) : Ev (tCB (fun xs H Q => ∃ p ys, xs = [.ref p] ∧ (SqL K H p ys ∨ SqT K H p ys) ∧ Q (.int ys.length) H) (tCons ta tNil)) σ H (.int (ds.length : Int)) := by
  rcases h with rfl | rfl
  · exact ev_lenX ha
  · exact ev_lenXT ha
theorem ex_ix2 {i : Int} {e : PyData} (h : d = .list ds ∨ d = .tuple ds) (ha : EvX K ta σ H d) (hb : Ev tb σ H (.int i)) (hi : atI ds i = some e) : EvX K (tOp (rIx K) ta tb) σ H e := fun H1 e1 Q q =>
  ha H1 e1 _ fun v H2 e2 hv => hb H2 (e1.trans e2) _ fun H3 e3 => by
    rcases h with rfl | rfl
    · cases hv with
      | lst hs hd =>
        obtain ⟨j, hj, hx⟩ := atI_len (dxa_len hd) hi
        obtain ⟨x, ex, dx⟩ := dxa_at hd hj
        exact .inl ⟨_, _, i, x, rfl, rfl, Evl.ex_l ((ov_ex e1 e2).trans e3) hs, hx x ex, q x H3 (e2.trans e3) (dx_mono (ov_grow e3) _ x dx)⟩
    · cases hv with
      | tup hs hd =>
        obtain ⟨j, hj, hx⟩ := atI_len (dxa_len hd) hi
        obtain ⟨x, ex, dx⟩ := dxa_at hd hj
        exact .inr (.inl ⟨_, _, i, x, rfl, rfl, ex_t ((ov_ex e1 e2).trans e3) hs, hx x ex, q x H3 (e2.trans e3) (dx_mono (ov_grow e3) _ x dx)⟩)
/-- a call on data: its arguments known as data alone -/
theorem ev_callD {sp : Sp} {E : XK} {ta : TA} {x : V} (h : EvXs K ta σ H ds) (hs : ∀ vs H1, Ex H H1 → DxAll K H1 vs ds → ∀ Q : VK, (∀ H2, Ex H1 H2 → Q x H2) → sp (vs ++ []) H1 Q E) : Ev (tCall sp [] E ta) σ H x := fun H1 e Q q => h H1 e _ fun vs H2 e2 hv => hs vs H2 (e.trans e2) (dxa_mono (ov_ex e e2) _ _ hv) Q fun H3 e3 => q H3 (e2.trans e3)
end
/-- bounded, and no dict within -/
inductive Okn : Nat → PyData → Prop
  | non {n : Nat} : Okn n .none
  | bl {n : Nat} (b : Bool) : Okn n (.bool b)
  | int {n : Nat} (i : Int) : Okn n (.int i)
  | str {n : Nat} (x : Str) : Okn n (.str x)
  | lst {n : Nat} {ds : List PyData} (h : ds.length ≤ 50000) (hs : ∀ d, d ∈ ds → Okn n d) : Okn (n + 1) (.list ds)
  | tup {n : Nat} {ds : List PyData} (h : ds.length ≤ 50000) (hs : ∀ d, d ∈ ds → Okn n d) : Okn (n + 1) (.tuple ds)
theorem Okn.mono {n m : Nat} {d : PyData} (h : Okn n d) : n ≤ m → Okn m d := by
  induction h generalizing m with
  | non => exact fun _ => .non
  | bl b => exact fun _ => .bl b
  | int i => exact fun _ => .int i
  | str x => exact fun _ => .str x
  | lst h hs ih =>
    intro hl
    obtain ⟨k, rfl⟩ : ∃ k, m = k + 1 := ⟨m - 1, by omega⟩
    exact .lst h fun d hd => ih d hd (by omega)
  | tup h hs ih =>
    intro hl
    obtain ⟨k, rfl⟩ : ∃ k, m = k + 1 := ⟨m - 1, by omega⟩
    exact .tup h fun d hd => ih d hd (by omega)
theorem okn_nil {n : Nat} : ∀ d, d ∈ ([] : List PyData) → Okn n d := fun _ h => nomatch h
theorem okn_cons {n : Nat} {e : PyData} {ds : List PyData} (h : Okn n e) (hs : ∀ d, d ∈ ds → Okn n d) : ∀ d, d ∈ e :: ds → Okn n d := fun d hd => by
  rcases List.mem_cons.mp hd with rfl | hd
  · exact h
  · exact hs d hd
def spSame (K : PySem.W.Frag) (n : Nat) : Sp := fun vs H Q _ => ∃ (x y : V) (d : PyData), vs = [x, y] ∧ Dx K H x d ∧ Dx K H y d ∧ Okn n d ∧ RetV (.bl true) H Q
theorem spSame_v {K : PySem.W.Frag} {n : Nat} {H : Hp} {x y : V} {d : PyData} (hx : Dx K H x d) (hy : Dx K H y d) (ok : Okn n d) : SpV (spSame K n) [x, y] H (.bl true) := fun H1 e Q q _ => ⟨x, y, d, rfl, dx_mono e _ _ hx, dx_mono e _ _ hy, ok, fun H2 e2 => q H2 e2⟩
theorem et_isN {σ : L2.St} {H : Hp} {ta : TE} {x : V} (h : Ev ta σ H x) : EvT (tTest (tOp (fun x y H Q => y = .non ∧ Q (.bl (decide (x = .non))) H) ta (tC .non))) σ H (decide (x = .non)) := et_test (ev_op h ev_c (fun G _ _ q => ⟨rfl, q G (Ex.refl G)⟩))
theorem ev_isN {σ : L2.St} {H : Hp} {ta : TE} {x : V} (h : Ev ta σ H x) : Ev (tOp (fun x y H Q => y = .non ∧ Q (.bl (decide (x = .non))) H) ta (tC .non)) σ H (.bl (decide (x = .non))) := ev_op h ev_c (fun G _ _ q => ⟨rfl, q G (Ex.refl G)⟩)
theorem rv_eqT {H : Hp} {x : V} (h : scal x x = true) : RV rEq x x H (.bl true) := by
  have := rv_eq (H := H) h
  rwa [decide_eq_true rfl] at this
/-! ### dicts whose keys are integers -/
def dI {α : Type} (kf : α → Int) (vf : α → V) (os : List α) : List (Key × V) := os.map fun o => (Sum.inl (kf o), vf o)
section
variable {α : Type} {kf : α → Int} {vf : α → V} {os : List α} {i : Nat} {o o' : α} {t : Int}
theorem dI_len : (dI kf vf os).length = os.length := List.length_map _
theorem dI_app {a b : List α} : dI kf vf (a ++ b) = dI kf vf a ++ dI kf vf b := List.map_append
theorem dI_keys : (dI kf vf os).map (·.1) = (os.map kf).map Sum.inl := by
  unfold dI
  rw [List.map_map, List.map_map]
  rfl
theorem dI_none : ∀ {os : List α}, (∀ o ∈ os, kf o ≠ t) → valV (dI kf vf os) (Sum.inl t) = none
  | [], _ => rfl
  | o :: r, h => by
    show valV ((Sum.inl (kf o), vf o) :: dI kf vf r) (Sum.inl t : Key) = none
    rw [valV_neg (fun e => h o List.mem_cons_self (Sum.inl.inj e))]
    exact dI_none fun p hp => h p (List.mem_cons_of_mem _ hp)
theorem dI_put (h : ∀ o ∈ os, kf o ≠ kf o') : putK (dI kf vf os) (Sum.inl (kf o')) (vf o') = dI kf vf (os ++ [o']) := (putK_new _ (dI_none h)).trans (dI_app (kf := kf) (vf := vf) (a := os) (b := [o'])).symm
theorem nd_ne {p : α} {r : List α} (nd : ((p :: r).map kf).Nodup) (h : r[i]? = some o) : ¬ (Sum.inl (kf p) : Key) = Sum.inl (kf o) := fun e => (List.nodup_cons.mp nd).1 (by
  rw [Sum.inl.inj e]
  exact List.mem_map.mpr ⟨o, List.mem_of_getElem? h, rfl⟩)
theorem dI_some : ∀ {os : List α} {i : Nat}, (os.map kf).Nodup → os[i]? = some o → valV (dI kf vf os) (Sum.inl (kf o)) = some (vf o)
  | [], i, _, h => by simp at h
  | p :: r, 0, _, h => by
    have e : p = o := by simpa using h
    subst e
    exact valV_pos (p := ((Sum.inl (kf p) : Key), vf p)) rfl
  | p :: r, i + 1, nd, h => by
    have h' : r[i]? = some o := by simpa using h
    show valV ((Sum.inl (kf p), vf p) :: dI kf vf r) (Sum.inl (kf o) : Key) = _
    rw [valV_neg (nd_ne nd h')]
    exact dI_some (List.nodup_cons.mp nd).2 h'
theorem dI_drop : ∀ {os : List α} {i : Nat}, (os.map kf).Nodup → os[i]? = some o → dropK (dI kf vf os) (Sum.inl (kf o)) = dI kf vf (os.eraseIdx i)
  | [], i, _, h => by simp at h
  | p :: r, 0, nd, h => by
    have e : p = o := by simpa using h
    subst e
    show dropK ((Sum.inl (kf p), vf p) :: dI kf vf r) (Sum.inl (kf p) : Key) = dI kf vf r
    rw [dropK_pos (κ := Key) (p := ((Sum.inl (kf p) : Key), vf p)) rfl]
    refine dropK_no fun hm => (List.nodup_cons.mp nd).1 ?_
    rw [dI_keys] at hm
    obtain ⟨y, hy, e⟩ := List.mem_map.mp hm
    rwa [Sum.inl.inj e] at hy
  | p :: r, i + 1, nd, h => by
    have h' : r[i]? = some o := by simpa using h
    show dropK ((Sum.inl (kf p), vf p) :: dI kf vf r) (Sum.inl (kf o) : Key) = (Sum.inl (kf p), vf p) :: dI kf vf (r.eraseIdx i)
    rw [dropK_neg (κ := Key) (p := ((Sum.inl (kf p) : Key), vf p)) (nd_ne nd h'), dI_drop (List.nodup_cons.mp nd).2 h']
theorem dI_set (nd : (os.map kf).Nodup) (h : os[i]? = some o) (hk : kf o' = kf o) : putK (dI kf vf os) (Sum.inl (kf o)) (vf o') = dI kf vf (os.set i o') := by
  unfold putK
  rw [valV_any, dI_some nd h, if_pos (by rfl)]
  induction os generalizing i with
  | nil => simp at h
  | cons p r ih =>
    have hn := List.nodup_cons.mp nd
    cases i with
    | zero =>
      have e : p = o := by simpa using h
      subst e
      show (if (Sum.inl (kf p) : Key) = Sum.inl (kf p) then (Sum.inl (kf p), vf o') else (Sum.inl (kf p), vf p)) :: (dI kf vf r).map _ = (Sum.inl (kf o'), vf o') :: dI kf vf r
      rw [if_pos rfl, hk]
      congr 1
      have hid : ∀ x ∈ dI kf vf r, (fun kv : Key × V => if kv.1 = Sum.inl (kf p) then (kv.1, vf o') else kv) x = x := fun x hx => by
        obtain ⟨y, hy, rfl⟩ := List.mem_map.mp hx
        refine if_neg fun e => hn.1 ?_
        rw [← Sum.inl.inj e]
        exact List.mem_map.mpr ⟨y, hy, rfl⟩
      rw [List.map_congr_left hid, List.map_id']
    | succ i =>
      have h' : r[i]? = some o := by simpa using h
      show (if (Sum.inl (kf p) : Key) = Sum.inl (kf o) then (Sum.inl (kf p), vf o') else (Sum.inl (kf p), vf p)) :: (dI kf vf r).map _ = (Sum.inl (kf p), vf p) :: dI kf vf (r.set i o')
      rw [if_neg (nd_ne nd h')]
      congr 1
      exact ih hn.2 h'
end
section
variable {K : PySem.W.Frag} {σ : L2.St} {B H : Hp} {l : List MP} {ta td ty tv : TE} {x y v : V} {R : Rr} {a : Addr} {D : Ends} {tz : TS}
/-- o.f += e -/
theorem qe_faug {C dx : Addr} {fs : List (Str × V)} {f : Str} {i j : Int} (k : Nat) (hk : l[k]? = some (Pt a (.ins C dx fs))) (hA : At B l H) (ho : Ev ta σ H (.ref a)) (hv : ∀ H1, Ev tv σ H1 (.int j)) (c : Cls K C) (n : NoAttr K C f) (hf : fs.lookup f = some (.int i)) (hl : fs.length < 1000)
    (g : ∀ H1, At B (l.set k (Pt a (.ins C dx (putF f (.int (i + j)) fs)))) H1 → tz D σ H1) : tSeq (sFldAug K ta tv rAdd f) tz D σ H :=
  ho H (Ex.refl H) _ fun H1 e1 => ⟨a, C, dx, fs, .int i, rfl, at_get k hk (at_ex hA e1), c, n, hf, hv H1 H1 (Ex.refl H1) _ fun H2 e2 => ⟨i, j, rfl, rfl, dx, fs, at_get k hk (at_ex hA (e1.trans e2)), hl, g _ (at_upd k hk (at_ex hA (e1.trans e2)))⟩⟩
/-- d[k] = e -/
theorem qw_put {kvs : List (Key × V)} {key : Key} (k : Nat) (hk : l[k]? = some (Pt a (.dK kvs))) (hA : At B l H) (hv : Wv tv σ B l R) (hd : ∀ B1 H1, Ex B B1 → At B1 l H1 → Ev td σ H1 (.ref a)) (hy : ∀ B1 H1, Ex B B1 → At B1 l H1 → Ev ty σ H1 (kV key)) (hz : kvs.length < 100000)
    (g : ∀ v B1 H1, Ex B B1 → R.r v B1 → At B1 (l.set k (Pt a (.dK (putK kvs key v)))) H1 → tz D σ H1) : tSeq (sDPut td ty tv) tz D σ H :=
  hv B H (Ex.refl B) hA _ fun v B1 H1 b1 hA1 hr => hd B1 H1 b1 hA1 H1 (Ex.refl H1) _ fun H2 e2 => hy B1 H2 b1 (at_ex hA1 e2) H2 (Ex.refl H2) _ fun H3 e3 => ⟨a, _, rfl, DPut.k (at_get k hk (at_ex hA1 (e2.trans e3))) (sz_lt hz), g v B1 _ b1 hr (at_upd k hk (at_ex hA1 (e2.trans e3)))⟩
/-- d[k] = a new list -/
theorem qe_putL {kvs : List (Key × V)} {key : Key} {xs : List V} (k : Nat) (hk : l[k]? = some (Pt a (.dK kvs))) (hA : At B l H) (hv : EvL tv σ H xs) (hd : ∀ p H1, At B (Pt p (.lst xs) :: l) H1 → Ev td σ H1 (.ref a)) (hy : ∀ p H1, At B (Pt p (.lst xs) :: l) H1 → Ev ty σ H1 (kV key)) (hz : kvs.length < 100000)
    (g : ∀ p H1, At B (Pt p (.lst xs) :: l.set k (Pt a (.dK (putK kvs key (.ref p))))) H1 → tz D σ H1) : tSeq (sDPut td ty tv) tz D σ H :=
  hv H (Ex.refl H) _ fun p H1 np e1 hp => by
    have hA1 := at_new hA np e1 hp
    refine hd p H1 hA1 H1 (Ex.refl H1) _ fun H2 e2 => hy p H2 (at_ex hA1 e2) H2 (Ex.refl H2) _ fun H3 e3 => ?_
    have hA3 := at_ex hA1 (e2.trans e3)
    refine ⟨a, _, rfl, DPut.k (at_get (k + 1) (by simpa using hk) hA3) (sz_lt hz), g p _ ?_⟩
    have h := at_upd (u := .dK (putK kvs key (.ref p))) (k + 1) (by simpa using hk) hA3
    simpa using h
/-- del d[k] -/
theorem qe_ddel {kvs : List (Key × V)} {key : Key} (k : Nat) (hk : l[k]? = some (Pt a (.dK kvs))) (hA : At B l H) (hd : Ev td σ H (.ref a)) (hy : ∀ H1, Ev ty σ H1 (kV key)) (hs : valV kvs key = some v)
    (g : ∀ H1, At B (l.set k (Pt a (.dK (dropK kvs key)))) H1 → tz D σ H1) : tSeq (sDDel td ty) tz D σ H :=
  hd H (Ex.refl H) _ fun H1 e1 => hy H1 H1 (Ex.refl H1) _ fun H2 e2 => ⟨a, kvs, key, rfl, at_get k hk (at_ex hA (e1.trans e2)), rfl, by rw [hs]; rfl, g _ (at_upd k hk (at_ex hA (e1.trans e2)))⟩
/-- return d.pop(k) -/
theorem se_retpop {kvs : List (Key × V)} {key : Key} (k : Nat) (hk : l[k]? = some (Pt a (.dK kvs))) (hA : At B l H) (hd : Ev td σ H (.ref a)) (hy : ∀ H1, Ev ty σ H1 (kV key)) (hs : valV kvs key = some v)
    (g : ∀ H1, At B (l.set k (Pt a (.dK (dropK kvs key)))) H1 → D.rt v H1) : tRet (tDPop1 td ty) D σ H :=
  hd H (Ex.refl H) _ fun H1 e1 => ⟨a, rfl, .inl ⟨kvs, .inl (at_get k hk (at_ex hA e1))⟩, hy H1 H1 (Ex.refl H1) _ fun H2 e2 => ⟨kvs, key, v, at_get k hk (at_ex hA (e1.trans e2)), rfl, hs, g _ (at_upd k hk (at_ex hA (e1.trans e2)))⟩⟩
end
theorem List.set_getElem?_self' {α : Type} : ∀ {l : List α} {i : Nat} {x : α}, l[i]? = some x → l.set i x = l
  | [], _, _, _ => rfl
  | y :: r, 0, x, h => by
    have e : y = x := by simpa using h
    rw [e, List.set_cons_zero]
  | y :: r, i + 1, x, h => by rw [List.set_cons_succ, List.set_getElem?_self' (by simpa using h)]
theorem perm_sorted : ∀ {xs ys : List Int}, xs.Perm ys → xs.Pairwise (· ≤ ·) → ys.Pairwise (· ≤ ·) → xs = ys
  | [], ys, p, _, _ => (List.nil_perm.mp p).symm ▸ rfl
  | x :: r, ys, p, hx, hy => by
    cases ys with
    | nil => exact absurd p.length_eq (by simp)
    | cons y t =>
      have h1 := List.pairwise_cons.mp hx
      have h2 := List.pairwise_cons.mp hy
      have e : x = y := by
        have m1 : x ∈ y :: t := p.subset List.mem_cons_self
        have m2 : y ∈ x :: r := p.symm.subset List.mem_cons_self
        rcases List.mem_cons.mp m1 with q | q
        · exact q
        · rcases List.mem_cons.mp m2 with q2 | q2
          · exact q2.symm
          · have := h1.1 y q2
            have := h2.1 x q
            omega
      subst e
      rw [perm_sorted (List.Perm.cons_inv p) h1.2 h2.2]
section
variable {K : PySem.W.Frag} {σ : L2.St} {B H : Hp} {l : List MP} {ta td te tl : TE} {t : TT} {x y v : V} {R : Rr} {a : Addr} {D : Ends} {tz tu : TS} {ds : List PyData}
/-- sorted(d), the keys of d ascending already -/
theorem el_sortedD {kvs : List (Key × V)} {ks : List Int} (hd : Ev td σ H (.ref a)) (h : H a = some (.dK kvs)) (hk : kvs.map (·.1) = ks.map Sum.inl) (h64 : ks.length < 64) (hs : ks.Pairwise (· ≤ ·)) :
    EvL (tCB (fun xs H Q => ∃ (a : Addr) (kvs : List (Key × V)) (ks : List Int), xs = [.ref a] ∧ Rd H a (.dK kvs) ∧ kvs.map (·.1) = ks.map Sum.inl ∧ ks.length < 64 ∧ ∀ (ys : List Int) (p : Addr), ys.Perm ks → ys.Pairwise (· ≤ ·) → H p = none → Q (.ref p) (upd H p (.lst (ys.map V.int)))) (tCons td tNil)) σ H (ks.map V.int) := fun H1 e Q q =>
  hd H1 e _ fun H2 e2 => ⟨a, kvs, ks, rfl, .inl ((e.trans e2) _ _ h), hk, h64, fun ys p hp hso np => by
    rw [perm_sorted hp hso hs]
    exact q p _ (fresh_back e2 np) (e2.trans (Ex.new np)) upd_same⟩
/-- for x in a new list -/
theorem qe_forNL {xs : List V} {j : Nat} (hA : At B l H) (h : EvL tl σ H xs) (Pv : Addr → Nat → L2.St → Hp → Prop) (h0 : ∀ p H1, At B (Pt p (.lst xs) :: l) H1 → Pv p 0 σ H1) (hl : ∀ p i σ' H', i ≤ xs.length → Pv p i σ' H' → H' p = some (.lst xs))
    (hs : ∀ p i x σ' H', xs[i]? = some x → Pv p i σ' H' → tu { D with nx := Pv p (i + 1), ct := Pv p (i + 1), bk := tz D } (σ'.set j (some x)) H') (hd : ∀ p σ' H', Pv p xs.length σ' H' → tz D σ' H') : tSeq (tFor (iList K tl) (gName j) tu) tz D σ H :=
  q_forNLn h Pv (fun p H1 np e hp => h0 p H1 (at_new hA np e hp)) (fun p i σ' H' hi hp => sq_of (hl p i σ' H' hi hp)) hs hd
/-- [e for j in range(n) if t], its items data -/
theorem wl_lcR1 {tr : TA} {j : Nat} {vs : List Nat} {n : Int} (f : Nat → Bool) (g : Nat → PyData) (hn : 0 ≤ n ∧ n ≤ 40000) (h : ∀ B1 H, Ex B B1 → At B1 l H → EvA tr σ H [.int n]) (hw : ∀ x, wipe ((wipe σ vs).set j (some x)) vs = wipe σ vs)
    (ht : ∀ i : Nat, (i : Int) < n → ∀ B1 H p xs, Ex B B1 → At B1 (Pt p (.lst xs) :: l) H → EvT t ((wipe σ vs).set j (some (.int (i : Int)))) H (f i)) (he : ∀ i : Nat, (i : Int) < n → f i = true → ∀ p xs, Wv te ((wipe σ vs).set j (some (.int (i : Int)))) B (Pt p (.lst xs) :: l) (rD K (g i))) :
    Wl K (tLc (iRng1 tr) (gName j) t te vs) σ B l (givenD n.toNat f g) := fun B1 H0 e0 hA Q q => h B1 H0 e0 hA H0 (Ex.refl H0) _ fun H1 e1 => ⟨n, rfl, by omega, by omega, fun Dl hD =>
  lc_range (lo := 0) (n := n.toNat) (fun i H' => ∃ B' acc, Ex B1 B' ∧ At B' (Pt Dl (.lst acc) :: l) H' ∧ DpAll K B' acc (givenD i f g)) ⟨B1, [], Ex.refl B1, at_new (at_ex hA e1) hD (Ex.new hD) upd_same, .nil⟩ (fun i H' hi p => by
    have e0' : (0 : Int) + (i : Int) = (i : Int) := Int.zero_add _
    show wipe ((wipe σ vs).set j (some (.int ((0 : Int) + (i : Int))))) vs = wipe σ vs ∧ t ((wipe σ vs).set j (some (.int ((0 : Int) + (i : Int))))) H' fun b H3 => if b = true then te ((wipe σ vs).set j (some (.int ((0 : Int) + (i : Int))))) H3 fun y H4 => ∃ acc, H4 Dl = some (.lst acc) ∧ acc.length < sizeLine ∧ (∃ B' acc', Ex B1 B' ∧ At B' (Pt Dl (.lst acc') :: l) (upd H4 Dl (.lst (acc ++ [y]))) ∧ DpAll K B' acc' (givenD (i + 1) f g)) else ∃ B' acc, Ex B1 B' ∧ At B' (Pt Dl (.lst acc) :: l) H3 ∧ DpAll K B' acc (givenD (i + 1) f g)
    rw [e0']
    obtain ⟨B', acc, b1, hA', hd⟩ := p
    refine ⟨hw _, ht i (by omega) B' H' Dl acc (e0.trans b1) hA' H' (Ex.refl H') _ fun H3 e3 => ?_⟩
    have hA3 := at_ex hA' e3
    cases hf : f i with
    | true =>
      rw [if_pos rfl]
      refine he i (by omega) hf Dl acc B' H3 (e0.trans b1) hA3 _ fun y B4 H4 e4 hA4 hy => ⟨acc, at_get 0 rfl hA4, sz_lt (by rw [dpa_len hd]; have := givenD_len i f g; omega), B4, acc ++ [y], b1.trans e4, at_upd (u := .lst (acc ++ [y])) 0 rfl hA4, ?_⟩
      rw [givenD_yes hf]
      exact dpa_app (dpa_mono e4 _ _ hd) (dpa_one hy)
    | false =>
      rw [if_neg (by decide)]
      refine ⟨B', acc, b1, hA3, ?_⟩
      rw [givenD_no hf]
      exact hd) (fun H' p => by
    obtain ⟨B', acc, b1, hA', hd⟩ := p
    exact q Dl acc B' H' b1 hA' hd)⟩
/-- l.extend(a new list of data) -/
theorem sw_ext {q : Addr} {xs : List V} (k : Nat) (hk : l[k]? = some (Pt q (.lst xs))) (hA : At B l H) (ha : ∀ H1, Ev ta σ H1 (.ref q)) (h : Wl K te σ B l ds) (hz : xs.length + ds.length ≤ 100000) (c : ∀ p zs B1 H1, Ex B B1 → DpAll K B1 zs ds → At B1 (Pt p (.lst zs) :: l.set k (Pt q (.lst (xs ++ zs)))) H1 → D.nx σ H1) :
    tDrop (tBM K "list" rExtend ta (tCons te tNil)) D σ H :=
  ha H H (Ex.refl H) _ fun H1 e1 => ⟨.inl ⟨rfl, xs, sq_of (at_get k hk (at_ex hA e1))⟩, h B H1 (Ex.refl B) (at_ex hA e1) _ fun p zs B2 H2 e2 hA2 hv => ⟨q, p, xs, zs, rfl, rfl, at_get (k + 1) (by simpa using hk) hA2, at_get 0 rfl hA2, sz_of (by rw [dpa_len hv]; exact hz), c p zs B2 _ e2 hv (by
    have h := at_upd (u := .lst (xs ++ zs)) (k + 1) (by simpa using hk) hA2
    simpa using h)⟩⟩
end
section
variable {K : PySem.W.Frag} {σ : L2.St} {B H : Hp} {l : List MP} {ta tb te : TE} {D : Ends} {tz tu : TS} {d : PyData} {ds : List PyData} {n : Nat}
/-- if not same(a, b): .. -/
theorem q_same {tr : TA} {E : XK} {C : Hp → Prop} (hC : ∀ H H', Ex H H' → C H → C H') (h : ∀ Q : List V → Hp → Prop, (∀ x y d H1, Dx K H1 x d → Dx K H1 y d → Okn n d → C H1 → Q [x, y] H1) → tr σ H Q) (k : ∀ H1, C H1 → tz D σ H1) :
    tSeq (tIfS (tNot (tB (tCall (spSame K n) [] E tr))) tu tNext) tz D σ H := h _ fun x y d H1 hx hy ok hc => ⟨x, y, d, rfl, hx, hy, ok, fun H2 e2 => ⟨true, rfl, by
  show tz D σ H2
  exact k H2 (hC H1 H2 e2 hc)⟩⟩
theorem s_same {tr : TA} {E : XK} {C : Hp → Prop} (hC : ∀ H H', Ex H H' → C H → C H') (h : ∀ Q : List V → Hp → Prop, (∀ x y d H1, Dx K H1 x d → Dx K H1 y d → Okn n d → C H1 → Q [x, y] H1) → tr σ H Q) (k : ∀ H1, C H1 → D.nx σ H1) :
    tIfS (tNot (tB (tCall (spSame K n) [] E tr))) tu tNext D σ H := q_same (tz := fun D => D.nx) hC h k
theorem r_same {tr : TA} {E : XK} {C : Hp → Prop} (hC : ∀ H H', Ex H H' → C H → C H') (h : ∀ Q : List V → Hp → Prop, (∀ x y d H1, Dx K H1 x d → Dx K H1 y d → Okn n d → C H1 → Q [x, y] H1) → tr σ H Q) (k : ∀ H1, C H1 → D.rt (.bl true) H1) :
    tRet (tCall (spSame K n) [] E tr) D σ H := h _ fun x y d H1 hx hy ok hc => ⟨x, y, d, rfl, hx, hy, ok, fun H2 e2 => k H2 (hC H1 H2 e2 hc)⟩
/-- data of the base, seen in the heap of now -/
theorem at_dx (hA : At B l H) {v : V} (h : Dp K B v d) : Dx K H v d := dp_dx _ _ (dp_mono (at_base hA) _ _ h)
theorem at_dxL {p : Addr} {xs : List V} (i : Nat) (hi : l[i]? = some (Pt p (.lst xs))) (hA : At B l H) (h : DpAll K B xs ds) : Dx K H (.ref p) (.list ds) := .lst (sq_of (at_get i hi hA)) (dpa_dxa _ _ (dpa_mono (at_base hA) _ _ h))
theorem wv_ixT {i : Int} (hv : ∀ B1, Ex B B1 → EvD K ta σ B1 (.tuple ds)) (hb : ∀ H, Ev tb σ H (.int i)) (h : atI ds i = some d) : Wv (tOp (rIxT K) ta tb) σ B l (rD K d) := wv_ed fun B1 b1 => ed_ixT (hv B1 b1) (hb B1) h
end
theorem qe_make {σ : L2.St} {B H : Hp} {l : List MP} {D : Ends} {tz : TS} {C : Addr} {sp : Sp} {E : XK} {ta : TA} {vs : List V} {i : Nat} (hA : At B l H) (h : EvA ta σ H vs) (k : ∀ x dx H1, At B (Pt x (.ins C dx []) :: l) H1 → sp (.ref x :: (vs ++ [])) H1 (fun v H2 => v = .non ∧ tz D (σ.set i (some (.ref x))) H2) E) : tSeq (tAsg (tMake C sp [] E ta) (gName i)) tz D σ H :=
  make_at (Q := fun v H2 => tz D (σ.set i (some v)) H2) hA h k
/-- what an expression does, its value set to a name | dropped | tested -/
theorem q_do {σ : L2.St} {H : Hp} {D : Ends} {tz : TS} {te : TE} {i : Nat} (h : te σ H (fun v H' => tz D (σ.set i (some v)) H')) : tSeq (tAsg te (gName i)) tz D σ H := h
theorem s_do {σ : L2.St} {H : Hp} {D : Ends} {te : TE} {i : Nat} (h : te σ H (fun v H' => D.nx (σ.set i (some v)) H')) : tAsg te (gName i) D σ H := h
theorem q_doT {σ : L2.St} {H : Hp} {D : Ends} {tz tu tw : TS} {t : TT} (h : t σ H (fun b H' => if b = true then tu { D with nx := tz D } σ H' else tw { D with nx := tz D } σ H')) : tSeq (tIfS t tu tw) tz D σ H := h
section
variable {K : PySem.W.Frag} {σ : L2.St} {H : Hp} {te ta tb : TE} {tr : TA} {v : V} {D : Ends} {tz : TS} {E : XK} {sp : Sp} {r : R2}
theorem go_cons {Q : List V → Hp → Prop} (h : Ev te σ H v) (k : ∀ H1, Ex H H1 → tr σ H1 fun xs H2 => Q (v :: xs) H2) : tCons te tr σ H Q := h H (Ex.refl H) _ k
theorem go_cons' {Q : List V → Hp → Prop} (h : te σ H fun v H1 => tr σ H1 fun xs H2 => Q (v :: xs) H2) : tCons te tr σ H Q := h
theorem go_nil {Q : List V → Hp → Prop} (h : Q [] H) : tNil σ H Q := h
theorem go_lst {Q : VK} (h : tr σ H fun xs H1 => xs.length ≤ sizeLine ∧ ∀ p, H1 p = none → Q (.ref p) (upd H1 p (.lst xs))) : tLst tr σ H Q := h
theorem go_tup {Q : VK} (h : tr σ H fun xs H1 => xs.length ≤ sizeLine ∧ ∀ p, H1 p = none → Q (.ref p) (upd H1 p (.tup xs))) : tTup tr σ H Q := h
theorem go_call {Q : VK} (h : tr σ H fun vs H1 => sp (vs ++ []) H1 Q E) : tCall sp [] E tr σ H Q := h
theorem go_op {Q : VK} (h : ta σ H fun x H1 => tb σ H1 fun y H2 => r x y H2 Q) : tOp r ta tb σ H Q := h
theorem go_ev {Q : VK} (h : Ev te σ H v) (k : ∀ H1, Ex H H1 → Q v H1) : te σ H Q := h H (Ex.refl H) Q k
theorem q_drop0 (h : te σ H fun _ H1 => tz D σ H1) : tSeq (tDrop te) tz D σ H := h
theorem s_drop0 (h : te σ H fun _ H1 => D.nx σ H1) : tDrop te D σ H := h
theorem el_catR {b : Addr} {xs ys : List V} (ha : EvL ta σ H xs) (hb : Ev tb σ H (.ref b)) (h : H b = some (.lst ys)) (hl : xs.length + ys.length ≤ 100000) : EvL (tOp rCat ta tb) σ H (xs ++ ys) := fun H1 e Q q =>
  ha H1 e _ fun p H2 np e2 hp => hb H2 (e.trans e2) _ fun H3 e3 => ⟨p, b, xs, ys, rfl, rfl, e3 _ _ hp, ((e.trans e2).trans e3) _ _ h, sz_of hl, fun o ho => q o _ (fresh_back (e2.trans e3) ho) ((e2.trans e3).trans (Ex.new ho)) upd_same⟩
end
end Ap

set_option Elab.async false
set_option linter.all false
set_option maxRecDepth 100000
namespace Ap
open PySem PySem.Spec PyProof.Rows L2 Evl PySem.W
theorem ints_reads {h : Heap} : ∀ {vs : List Value} {ns : List Int}, IntsAre vs ns → ReadsAll h vs (ns.map PyData.int) []
  | _, _, .nil => .nil
  | _, _, .cons n t hr => .cons (as := []) (bs := []) (.int n t) (ints_reads hr)
def mxD (d : Int) : List Int → Int
  | [] => d
  | n :: r => r.foldl max n
/-- max(xs, default=d) of ints -/
def rMaxDef (K : PySem.W.Frag) : List V → List V → Hp → VK → Prop := fun vs zs H Q => ∃ (a : Addr) (ns : List Int) (d : Int), vs = [V.ref a] ∧ zs = [.int d] ∧ SqL K H a (ns.map V.int) ∧ Q (.int (mxD d ns)) H
theorem alike_ints (ns : List Int) : AlikeAll (ns.map PyData.int) := by
  refine ⟨fun x hx y hy => ?_, fun x hx => ?_⟩
  · obtain ⟨a, _, rfl⟩ := List.mem_map.mp hx
    obtain ⟨b, _, rfl⟩ := List.mem_map.mp hy
    simp [alike]
  · obtain ⟨a, _, rfl⟩ := List.mem_map.mp hx
    exact fun h => nomatch h
theorem depth_ints : ∀ ns : List Int, PyData.depthAll (ns.map PyData.int) = 0
  | [] => by simp [PyData.depthAll]
  | n :: r => by simp [PyData.depthAll, PyData.depth, depth_ints r]
theorem cr_maxDef {X : Cx} (hc : X.calm = true) (hu : X.A.units + 1 < cLine) : CallRK X (.builtin "max") [Str.ofString "default"] (rMaxDef X.K) := by
  intro pins s σ H vs zs us ws Q I r rz h
  obtain ⟨a, ns, d, rfl, rfl, hs, q⟩ := h
  obtain ⟨its, rv, hl, _⟩ := I.list hs
  rw [Vals.ref1 r]
  obtain ⟨w1, rfl, e1⟩ := vals1 rz
  obtain ⟨t, rfl⟩ : ∃ t, w1 = Value.int d t := e1
  refine max_list_default (I.ok.hd hc) hl.isList (ints_reads rv.ints) (alike_ints ns) (by rw [depth_ints]; exact hu) (fun h0 h' tk hk => ?_) (fun y ys i v h' tk bs hxs hv hr hk => ?_)
  · have : ns = [] := by simpa using h0
    subst this
    exact ⟨.int d, H, I.kept hk, ⟨_, rfl⟩, q⟩
  · cases ns with
    | nil => cases hxs
    | cons n r =>
      have e := List.cons.inj hxs
      rw [← e.1, ← e.2, maxD_ints] at hr
      cases hr
      exact ⟨.int _, H, I.kept hk, ⟨_, rfl⟩, q⟩
theorem mxD_mem : ∀ (d n : Int) (r : List Int), mxD d (n :: r) ∈ n :: r ∧ ∀ y ∈ n :: r, y ≤ mxD d (n :: r) := fun d n r => by
  show r.foldl max n ∈ n :: r ∧ ∀ y ∈ n :: r, y ≤ r.foldl max n
  induction r generalizing n with
  | nil => exact ⟨List.mem_cons_self, fun y hy => by rw [List.mem_singleton.mp hy]; exact Int.le_refl _⟩
  | cons m r ih =>
    obtain ⟨h1, h2⟩ := ih (max n m)
    refine ⟨?_, fun y hy => ?_⟩
    · rcases List.mem_cons.mp h1 with h | h
      · show r.foldl max (max n m) ∈ _
        rw [h]
        rcases Int.le_total n m with k | k
        · rw [Int.max_eq_right k]
          exact List.mem_cons_of_mem _ List.mem_cons_self
        · rw [Int.max_eq_left k]
          exact List.mem_cons_self
      · exact List.mem_cons_of_mem _ (List.mem_cons_of_mem _ h)
    · have h3 := h2 (max n m) List.mem_cons_self
      rcases List.mem_cons.mp hy with rfl | hy
      · exact Int.le_trans (Int.le_max_left _ _) h3
      · rcases List.mem_cons.mp hy with rfl | hy
        · exact Int.le_trans (Int.le_max_right _ _) h3
        · exact h2 y (List.mem_cons_of_mem _ hy)
/-! ### lists and dicts of data, that may change -/
/-- a list whose items stand for these data -/
def LstM (K : PySem.W.Frag) (a : Addr) (ds : List PyData) : MP := ExM fun xs : List V => DpM K xs ds (Pt a (.lst xs))
abbrev DI := List (Int × PyData)
def kvD (l : DI) (vs : List V) : List (Key × V) := (l.zip vs).map fun p => (Sum.inl p.1.1, p.2)
/-- a dict from integers to data -/
def DctM (K : PySem.W.Frag) (a : Addr) (l : DI) : MP := ExM fun vs : List V => DpM K vs (l.map (·.2)) (Pt a (.dK (kvD l vs)))
def look (l : DI) (k : Int) : Option PyData := (l.find? fun p => decide (p.1 = k)).map (·.2)
def putL (l : DI) (k : Int) (d : PyData) : DI := if (l.any fun p => decide (p.1 = k)) = true then l.map (fun p => if p.1 = k then (p.1, d) else p) else l ++ [(k, d)]
def dropL (l : DI) (k : Int) : DI := l.filter fun p => decide (p.1 ≠ k)
section
variable {K : PySem.W.Frag} {B H : Hp}
theorem look_cons (p : Int × PyData) (r : DI) (k : Int) : look (p :: r) k = if p.1 = k then some p.2 else look r k := by
  unfold look
  rw [List.find?_cons]
  by_cases h : p.1 = k
  · rw [decide_eq_true h, if_pos h]
    rfl
  · rw [decide_eq_false h, if_neg h]
theorem kvD_cons (p : Int × PyData) (r : DI) (v : V) (vs : List V) : kvD (p :: r) (v :: vs) = (Sum.inl p.1, v) :: kvD r vs := rfl
/-- looking up: in the dict and in what it stands for -/
theorem kv_look : ∀ {l : DI} {vs : List V} (k : Int), DpAll K B vs (l.map (·.2)) → (look l k = none ∧ valV (kvD l vs) (Sum.inl k) = none) ∨ ∃ v d, look l k = some d ∧ valV (kvD l vs) (Sum.inl k) = some v ∧ Dp K B v d
  | [], [], k, _ => .inl ⟨rfl, rfl⟩
  | p :: r, v :: vs, k, h => by
    cases h with
    | cons h1 h2 =>
      rw [look_cons, kvD_cons]
      by_cases e : p.1 = k
      · rw [if_pos e]
        exact .inr ⟨v, p.2, rfl, by rw [valV_pos (p := ((Sum.inl p.1 : Key), v)) (by show (Sum.inl p.1 : Key) = Sum.inl k; rw [e])], h1⟩
      · rw [if_neg e, valV_neg (p := ((Sum.inl p.1 : Key), v)) (fun h => e (Sum.inl.inj h))]
        exact kv_look k h2
theorem kv_any : ∀ {l : DI} {vs : List V} (k : Int), DpAll K B vs (l.map (·.2)) → ((kvD l vs).any fun kv => decide (kv.1 = Sum.inl k)) = l.any fun p => decide (p.1 = k)
  | [], [], _, _ => rfl
  | p :: r, v :: vs, k, h => by
    cases h with
    | cons h1 h2 =>
      rw [kvD_cons, List.any_cons, List.any_cons, kv_any k h2]
      congr 1
      by_cases e : p.1 = k
      · rw [decide_eq_true e, decide_eq_true (by show (Sum.inl p.1 : Key) = _; rw [e])]
      · rw [decide_eq_false e, decide_eq_false (fun h => e (Sum.inl.inj h))]
theorem kv_len {l : DI} {vs : List V} (h : DpAll K B vs (l.map (·.2))) : (kvD l vs).length = l.length := by
  have := dpa_len h
  rw [List.length_map] at this
  unfold kvD
  rw [List.length_map, List.length_zip, this, Nat.min_self]
theorem kv_keys : ∀ {l : DI} {vs : List V}, DpAll K B vs (l.map (·.2)) → (kvD l vs).map (·.1) = (l.map (·.1)).map Sum.inl
  | [], [], _ => rfl
  | p :: r, v :: vs, h => by
    cases h with
    | cons h1 h2 =>
      rw [kvD_cons, List.map_cons, List.map_cons, List.map_cons, kv_keys h2]
theorem kv_at : ∀ {l : DI} {vs : List V} {i : Nat} {k : Key} {x : V}, DpAll K B vs (l.map (·.2)) → (kvD l vs)[i]? = some (k, x) → ∃ p, l[i]? = some p ∧ k = Sum.inl p.1 ∧ Dp K B x p.2
  | [], [], i, _, _, _, e => by simp [kvD] at e
  | p :: r, v :: vs, 0, k, x, h, e => by
    cases h with
    | cons h1 h2 =>
      rw [kvD_cons] at e
      have e := Option.some.inj (show some _ = some (k, x) from e)
      have e1 := congrArg Prod.fst e
      have e2 := congrArg Prod.snd e
      exact ⟨p, rfl, e1.symm, (show v = x from e2) ▸ h1⟩
  | p :: r, v :: vs, i + 1, k, x, h, e => by
    cases h with
    | cons h1 h2 =>
      rw [kvD_cons] at e
      obtain ⟨q, a, b, c⟩ := kv_at h2 (show (kvD r vs)[i]? = some (k, x) by simpa using e)
      exact ⟨q, by simpa using a, b, c⟩
/-- one more, or one in its place -/
theorem kv_put {l : DI} {vs : List V} {k : Int} {v : V} {d : PyData} (h : DpAll K B vs (l.map (·.2))) (hv : Dp K B v d) : ∃ vs', putK (kvD l vs) (Sum.inl k) v = kvD (putL l k d) vs' ∧ DpAll K B vs' ((putL l k d).map (·.2)) := by
  unfold putK putL
  rw [kv_any k h]
  by_cases e : (l.any fun p => decide (p.1 = k)) = true
  · rw [if_pos e, if_pos e]
    clear e
    induction l generalizing vs with
    | nil => cases h; exact ⟨[], rfl, .nil⟩
    | cons p r ih =>
      cases h with
      | @cons w ws _ _ h1 h2 =>
        obtain ⟨vs', a, b⟩ := ih h2
        rw [kvD_cons, List.map_cons, List.map_cons, a]
        by_cases q : p.1 = k
        · rw [if_pos q, if_pos (by show (Sum.inl p.1 : Key) = _; rw [q])]
          exact ⟨v :: vs', rfl, .cons hv b⟩
        · rw [if_neg q, if_neg (fun h => q (Sum.inl.inj h))]
          exact ⟨w :: vs', rfl, .cons h1 b⟩
  · rw [if_neg e, if_neg e]
    refine ⟨vs ++ [v], ?_, ?_⟩
    · have hl := dpa_len h
      rw [List.length_map] at hl
      unfold kvD
      rw [List.zip_append hl.symm, List.map_append]
      rfl
    · rw [List.map_append]
      exact dpa_app h (dpa_one hv)
theorem kv_drop {l : DI} {vs : List V} {k : Int} (h : DpAll K B vs (l.map (·.2))) : ∃ vs', dropK (kvD l vs) (Sum.inl k) = kvD (dropL l k) vs' ∧ DpAll K B vs' ((dropL l k).map (·.2)) := by
  unfold dropK dropL
  induction l generalizing vs with
  | nil => cases h; exact ⟨[], rfl, .nil⟩
  | cons p r ih =>
    cases h with
    | @cons w ws _ _ h1 h2 =>
      obtain ⟨vs', a, b⟩ := ih h2
      rw [kvD_cons, List.filter_cons, List.filter_cons, a]
      by_cases q : p.1 = k
      · rw [if_neg (by simp [q]), if_neg (by simp [q])]
        exact ⟨vs', rfl, b⟩
      · rw [if_pos (by simp [q]), if_pos (by simp [q])]
        exact ⟨w :: vs', rfl, .cons h1 b⟩
end
end Ap

set_option Elab.async false
set_option linter.all false
set_option maxRecDepth 100000
namespace Ap
open PySem PySem.Spec PyProof.Rows L2 Evl PySem.W
section
variable {K : PySem.W.Frag} {σ : L2.St} {B B' H H' H1 : Hp} {l : List MP} {ta tb tc te td ty tv : TE} {t : TT} {x y v : V} {d : PyData} {ds es : List PyData} {R : Rr} {a p : Addr} {xs vs : List V} {m : DI} {D : Ends} {tz tu : TS} {i j n : Nat} {k : Int}
theorem lst_at (n : Nat) (e : l[n]? = some (LstM K a ds)) (h : At B l H) : ∃ xs, DpAll K B xs ds ∧ H a = some (.lst xs) := at_p n e h
theorem dct_at (n : Nat) (e : l[n]? = some (DctM K a m)) (h : At B l H) : ∃ vs, DpAll K B vs (m.map (·.2)) ∧ H a = some (.dK (kvD m vs)) := at_p n e h
theorem lst_new (h : At B l H) (np : H p = none) (e : Ex H H1) (hp : H1 p = some (.lst xs)) (hd : DpAll K B xs ds) : At B (LstM K p ds :: l) H1 := at_exm' xs (at_dpm' hd (at_new h np e hp))
theorem dct_new (h : At B l H) (np : H p = none) (e : Ex H H1) (hp : H1 p = some (.dK (kvD m vs))) (hd : DpAll K B vs (m.map (·.2))) : At B (DctM K p m :: l) H1 := at_exm' vs (at_dpm' hd (at_new h np e hp))
theorem lst_upd {xs' : List V} (n : Nat) (e : l[n]? = some (LstM K a ds)) (h : At B l H) (hd : DpAll K B xs' es) : At B (l.set n (LstM K a es)) (upd H a (.lst xs')) := by
  obtain ⟨xs, h1⟩ := at_exm (at_pull n e h)
  obtain ⟨_, h2⟩ := at_dpm h1
  exact at_put n e (at_exm' xs' (at_dpm' hd (at_upd 0 rfl h2)))
theorem dct_upd {vs' : List V} {m' : DI} (n : Nat) (e : l[n]? = some (DctM K a m)) (h : At B l H) (hd : DpAll K B vs' (m'.map (·.2))) : At B (l.set n (DctM K a m')) (upd H a (.dK (kvD m' vs'))) := by
  obtain ⟨xs, h1⟩ := at_exm (at_pull n e h)
  obtain ⟨_, h2⟩ := at_dpm h1
  exact at_put n e (at_exm' vs' (at_dpm' hd (at_upd 0 rfl h2)))
/-! ### what evaluates to what -/
theorem ev_lenM (n : Nat) (e : l[n]? = some (LstM K a ds)) (hA : At B l H) (ha : Ev ta σ H (.ref a)) : Ev (tCB (fun xs H Q => ∃ p ys, xs = [.ref p] ∧ (SqL K H p ys ∨ SqT K H p ys) ∧ Q (.int ys.length) H) (tCons ta tNil)) σ H (.int (ds.length : Int)) := by
  obtain ⟨xs, h1, h2⟩ := lst_at n e hA
  rw [← dpa_len h1]
  exact ev_len ha (sq_of h2)
theorem wv_ixM {i : Int} (n : Nat) (e : l[n]? = some (LstM K a ds)) (ha : ∀ B1 H, Ex B B1 → At B1 l H → Ev ta σ H (.ref a)) (hb : ∀ B1 H, Ex B B1 → At B1 l H → Ev tb σ H (.int i)) (h : atI ds i = some d) : Wv (tOp (rIxL K) ta tb) σ B l (rD K d) := fun B1 H e1 hA Q q =>
  ha B1 H e1 hA H (Ex.refl H) _ fun H2 e2 => hb B1 H2 e1 (at_ex hA e2) H2 (Ex.refl H2) _ fun H3 e3 => by
    have hA3 := at_ex hA (e2.trans e3)
    obtain ⟨xs, h1, h2⟩ := lst_at n e hA3
    obtain ⟨j, hj, hx⟩ := atI_len (dpa_len h1) h
    obtain ⟨x, ex, dx⟩ := dpa_at h1 hj
    exact ⟨a, xs, i, x, rfl, rfl, sq_of h2, hx x ex, q x B1 H3 (Ex.refl B1) hA3 dx⟩
theorem ev_dinM (n : Nat) (e : l[n]? = some (DctM K a m)) (hA : At B l H) (hk : Ev ty σ H (.int k)) (hd : Ev td σ H (.ref a)) : Ev (tDIn ty td) σ H (.bl (look m k).isSome) := by
  obtain ⟨vs, h1, h2⟩ := dct_at n e hA
  have h3 := ev_din (k := Sum.inl k) hk hd h2
  rcases kv_look k h1 with ⟨a1, a2⟩ | ⟨v, d, a1, a2, _⟩
  · rw [a2] at h3
    rw [a1]
    exact h3
  · rw [a2] at h3
    rw [a1]
    exact h3
theorem ev_dniM (n : Nat) (e : l[n]? = some (DctM K a m)) (hA : At B l H) (hk : Ev ty σ H (.int k)) (hd : Ev td σ H (.ref a)) : Ev (tDNotIn ty td) σ H (.bl (!(look m k).isSome)) := by
  obtain ⟨vs, h1, h2⟩ := dct_at n e hA
  have h3 := ev_dni (k := Sum.inl k) hk hd h2
  rcases kv_look k h1 with ⟨a1, a2⟩ | ⟨v, d, a1, a2, _⟩
  · rw [a2] at h3
    rw [a1]
    exact h3
  · rw [a2] at h3
    rw [a1]
    exact h3
/-- m[k], there -/
theorem wv_dgetM (n : Nat) (e : l[n]? = some (DctM K a m)) (hd : ∀ B1 H, Ex B B1 → At B1 l H → Ev td σ H (.ref a)) (hy : ∀ B1 H, Ex B B1 → At B1 l H → Ev ty σ H (.int k)) (h : look m k = some d) : Wv (tDGet td ty) σ B l (rD K d) := fun B1 H e1 hA Q q =>
  hd B1 H e1 hA H (Ex.refl H) _ fun H2 e2 => hy B1 H2 e1 (at_ex hA e2) H2 (Ex.refl H2) _ fun H3 e3 => by
    have hA3 := at_ex hA (e2.trans e3)
    obtain ⟨vs, h1, h2⟩ := dct_at n e hA3
    rcases kv_look k h1 with ⟨a1, a2⟩ | ⟨v, d', a1, a2, a3⟩
    · rw [a1] at h; cases h
    · rw [a1] at h
      cases h
      exact ⟨a, v, rfl, .inl ⟨_, Sum.inl k, .inl h2, rfl, a2.symm⟩, q v B1 H3 (Ex.refl B1) hA3 a3⟩
/-- m.get(k), m.get(k, x) -/
theorem wv_get1M (n : Nat) (e : l[n]? = some (DctM K a m)) (hd : ∀ B1 H, Ex B B1 → At B1 l H → Ev td σ H (.ref a)) (hy : ∀ B1 H, Ex B B1 → At B1 l H → Ev ty σ H (.int k)) : Wv (tDGet1 td ty) σ B l (rD K ((look m k).getD .none)) := fun B1 H e1 hA Q q =>
  hd B1 H e1 hA H (Ex.refl H) _ fun H2 e2 => by
    obtain ⟨vs0, _, h20⟩ := dct_at n e (at_ex hA e2)
    refine ⟨a, rfl, .inl ⟨_, .inl h20⟩, hy B1 H2 e1 (at_ex hA e2) H2 (Ex.refl H2) _ fun H3 e3 => ?_⟩
    have hA3 := at_ex hA (e2.trans e3)
    obtain ⟨vs, h1, h2⟩ := dct_at n e hA3
    rcases kv_look k h1 with ⟨a1, a2⟩ | ⟨v, d', a1, a2, a3⟩
    · exact ⟨none, .inl ⟨_, Sum.inl k, .inl h2, rfl, a2.symm⟩, q .non B1 H3 (Ex.refl B1) hA3 (by rw [a1]; exact .non)⟩
    · exact ⟨some v, .inl ⟨_, Sum.inl k, .inl h2, rfl, a2.symm⟩, q v B1 H3 (Ex.refl B1) hA3 (by rw [a1]; exact a3)⟩
theorem wv_get2M {tx : TE} {e0 : PyData} (n : Nat) (e : l[n]? = some (DctM K a m)) (hd : ∀ B1 H, Ex B B1 → At B1 l H → Ev td σ H (.ref a)) (hy : ∀ B1 H, Ex B B1 → At B1 l H → Ev ty σ H (.int k)) (hx : Wv tx σ B l (rD K e0)) : Wv (tDGet2 td ty tx) σ B l (rD K ((look m k).getD e0)) := fun B1 H e1 hA Q q =>
  hd B1 H e1 hA H (Ex.refl H) _ fun H2 e2 => by
    obtain ⟨vs0, _, h20⟩ := dct_at n e (at_ex hA e2)
    refine ⟨a, rfl, .inl ⟨_, .inl h20⟩, hy B1 H2 e1 (at_ex hA e2) H2 (Ex.refl H2) _ fun H3 e3 => hx B1 H3 e1 (at_ex hA (e2.trans e3)) _ fun z B4 H4 e4 hA4 hz => ?_⟩
    obtain ⟨vs, h1, h2⟩ := dct_at n e hA4
    rcases kv_look k h1 with ⟨a1, a2⟩ | ⟨v, d', a1, a2, a3⟩
    · exact ⟨none, .inl ⟨_, Sum.inl k, .inl h2, rfl, a2.symm⟩, q z B4 H4 e4 hA4 (by rw [a1]; exact hz)⟩
    · exact ⟨some v, .inl ⟨_, Sum.inl k, .inl h2, rfl, a2.symm⟩, q v B4 H4 e4 hA4 (by rw [a1]; exact a3)⟩
/-! ### statements -/
theorem qm_nil {ta : TA} (hA : At B l H) (k : ∀ p H1, At B (LstM K p [] :: l) H1 → tz D (σ.set i (some (.ref p))) H1) : tSeq (tAsg (tLst tNil) (gName i)) tz D σ H := qe_lst (xs := []) hA (el_lst ea_nil (by decide)) fun p H1 h => k p H1 (at_exm' [] (at_dpm' .nil h))
theorem qm_dnew (hA : At B l H) (k : ∀ p H1, At B (DctM K p [] :: l) H1 → tz D (σ.set i (some (.ref p))) H1) : tSeq (tAsg tDNewK (gName i)) tz D σ H := fun p hp => k p _ (at_exm' [] (at_dpm' .nil (at_new hA hp (Ex.new hp) upd_same)))
theorem qm_lst {ta : TA} (hA : At B l H) (h : Wa K ta σ B l ds) (hl : ds.length ≤ 100000) (k : ∀ p B1 H1, Ex B B1 → At B1 (LstM K p ds :: l) H1 → tz D (σ.set i (some (.ref p))) H1) : tSeq (tAsg (tLst ta) (gName i)) tz D σ H := qw_lst hA (wl_lst h hl) fun p xs B1 H1 b hA1 hd => k p B1 H1 b (at_exm' xs (at_dpm' hd hA1))
theorem sm_app (n : Nat) (e : l[n]? = some (LstM K a ds)) (hA : At B l H) (ha : ∀ H1, Ev ta σ H1 (.ref a)) (h : Wv te σ B l (rD K d)) (hz : ds.length < 100000) (c : ∀ B1 H1, Ex B B1 → At B1 (l.set n (LstM K a (ds ++ [d]))) H1 → D.nx σ H1) : tDrop (tBM K "list" rAppend ta (tCons te tNil)) D σ H :=
  ha H H (Ex.refl H) _ fun H1 e1 => by
    have hA1 := at_ex hA e1
    obtain ⟨xs, h1, h2⟩ := lst_at n e hA1
    refine ⟨.inl ⟨rfl, xs, sq_of h2⟩, h B H1 (Ex.refl B) hA1 _ fun v B2 H2 b2 hA2 hv => ?_⟩
    obtain ⟨xs, h1, h2⟩ := lst_at n e hA2
    exact ⟨a, xs, v, rfl, rfl, h2, sz_lt (by rw [dpa_len h1]; exact hz), c B2 _ b2 (lst_upd n e hA2 (dpa_app h1 (dpa_one hv)))⟩
theorem qm_app (n : Nat) (e : l[n]? = some (LstM K a ds)) (hA : At B l H) (ha : ∀ H1, Ev ta σ H1 (.ref a)) (h : Wv te σ B l (rD K d)) (hz : ds.length < 100000) (c : ∀ B1 H1, Ex B B1 → At B1 (l.set n (LstM K a (ds ++ [d]))) H1 → tz D σ H1) : tSeq (tDrop (tBM K "list" rAppend ta (tCons te tNil))) tz D σ H :=
  sm_app (D := { D with nx := tz D }) n e hA ha h hz c
theorem sm_put (n : Nat) (e : l[n]? = some (DctM K a m)) (hA : At B l H) (hv : Wv tv σ B l (rD K d)) (hd : ∀ B1 H1, Ex B B1 → At B1 l H1 → Ev td σ H1 (.ref a)) (hy : ∀ B1 H1, Ex B B1 → At B1 l H1 → Ev ty σ H1 (.int k)) (hz : m.length < 100000)
    (g : ∀ B1 H1, Ex B B1 → At B1 (l.set n (DctM K a (putL m k d))) H1 → D.nx σ H1) : sDPut td ty tv D σ H :=
  hv B H (Ex.refl B) hA _ fun v B1 H1 b1 hA1 hr => hd B1 H1 b1 hA1 H1 (Ex.refl H1) _ fun H2 e2 => hy B1 H2 b1 (at_ex hA1 e2) H2 (Ex.refl H2) _ fun H3 e3 => by
    have hA3 := at_ex hA1 (e2.trans e3)
    obtain ⟨vs, h1, h2⟩ := dct_at n e hA3
    obtain ⟨vs', a1, a2⟩ := kv_put (k := k) h1 hr
    refine ⟨a, _, rfl, DPut.k (k := Sum.inl k) h2 (sz_lt (by rw [kv_len h1]; exact hz)), ?_⟩
    rw [a1]
    exact g B1 _ b1 (dct_upd n e hA3 a2)
theorem qm_put (n : Nat) (e : l[n]? = some (DctM K a m)) (hA : At B l H) (hv : Wv tv σ B l (rD K d)) (hd : ∀ B1 H1, Ex B B1 → At B1 l H1 → Ev td σ H1 (.ref a)) (hy : ∀ B1 H1, Ex B B1 → At B1 l H1 → Ev ty σ H1 (.int k)) (hz : m.length < 100000)
    (g : ∀ B1 H1, Ex B B1 → At B1 (l.set n (DctM K a (putL m k d))) H1 → tz D σ H1) : tSeq (sDPut td ty tv) tz D σ H := sm_put (D := { D with nx := tz D }) n e hA hv hd hy hz g
/-- m.pop(k, x), its value dropped -/
theorem sm_pop2 {tx : TE} (n : Nat) (e : l[n]? = some (DctM K a m)) (hA : At B l H) (hd : ∀ H1, At B l H1 → Ev td σ H1 (.ref a)) (hy : ∀ H1, Ev ty σ H1 (.int k)) (hx : ∀ H1, Ev tx σ H1 x) (g : ∀ H1, At B (l.set n (DctM K a (dropL m k))) H1 → D.nx σ H1) : tDrop (tDPop2 td ty tx) D σ H :=
  hd H hA H (Ex.refl H) _ fun H1 e1 => by
    obtain ⟨vs0, _, h20⟩ := dct_at n e (at_ex hA e1)
    refine ⟨a, rfl, .inl ⟨_, .inl h20⟩, hy H1 H1 (Ex.refl H1) _ fun H2 e2 => hx H2 H2 (Ex.refl H2) _ fun H3 e3 => ?_⟩
    have hA3 := at_ex hA ((e1.trans e2).trans e3)
    obtain ⟨vs, h1, h2⟩ := dct_at n e hA3
    obtain ⟨vs', a1, a2⟩ := kv_drop (k := k) h1
    refine ⟨_, Sum.inl k, h2, rfl, fun v _ => ?_, fun hn => ?_⟩
    · rw [a1]
      exact g _ (dct_upd n e hA3 a2)
    · rcases kv_look k h1 with ⟨b1, b2⟩ | ⟨v, d', b1, b2, b3⟩
      · have hdr : dropL m k = m := by
          unfold dropL
          refine List.filter_eq_self.mpr fun p hp => ?_
          refine decide_eq_true fun hk => ?_
          unfold look at b1
          rw [Option.map_eq_none_iff, List.find?_eq_none] at b1
          exact b1 p hp (decide_eq_true hk)
        have hh := g H3 (by rw [hdr, List.set_getElem?_self' e]; exact hA3)
        exact hh
      · rw [b2] at hn; cases hn
/-- a list opened, to walk over it, and closed -/
theorem at_openL (n : Nat) (e : l[n]? = some (LstM K a ds)) (h : At B l H) : ∃ xs, DpAll K B xs ds ∧ At B (l.set n (Pt a (.lst xs))) H := by
  obtain ⟨xs, h1⟩ := at_exm (at_pull n e h)
  obtain ⟨h2, h3⟩ := at_dpm h1
  exact ⟨xs, h2, at_put n e h3⟩
theorem at_closeL (n : Nat) (e : l[n]? = some (Pt a (.lst xs))) (hd : DpAll K B xs ds) (h : At B l H) : At B (l.set n (LstM K a ds)) H := at_put n e (at_exm' xs (at_dpm' hd (at_pull n e h)))
theorem at_openD (n : Nat) (e : l[n]? = some (DctM K a m)) (h : At B l H) : ∃ vs, DpAll K B vs (m.map (·.2)) ∧ At B (l.set n (Pt a (.dK (kvD m vs)))) H := by
  obtain ⟨xs, h1⟩ := at_exm (at_pull n e h)
  obtain ⟨h2, h3⟩ := at_dpm h1
  exact ⟨xs, h2, at_put n e h3⟩
theorem at_closeD (n : Nat) (e : l[n]? = some (Pt a (.dK (kvD m vs)))) (hd : DpAll K B vs (m.map (·.2))) (h : At B l H) : At B (l.set n (DctM K a m)) H := at_put n e (at_exm' vs (at_dpm' hd (at_pull n e h)))
end
/-- o.f = a new list -/
theorem qe_fldL {K : PySem.W.Frag} {σ : L2.St} {B H : Hp} {l : List MP} {ta te : TE} {D : Ends} {tz : TS} {a C dx : Addr} {fs : List (Str × V)} {f : Str} {xs : List V} (k : Nat) (hk : l[k]? = some (Pt a (.ins C dx fs))) (hA : At B l H) (hv : EvL te σ H xs) (ho : ∀ H1, Ev ta σ H1 (.ref a)) (c : Cls K C) (n : NoAttr K C f) (hl : fs.length < 1000) (g : ∀ p H1, At B (Pt p (.lst xs) :: l.set k (Pt a (.ins C dx (putF f (.ref p) fs)))) H1 → tz D σ H1) : tSeq (sFld K ta te f) tz D σ H :=
  hv H (Ex.refl H) _ fun p H1 np e1 hp => by
    have hA1 := at_new hA np e1 hp
    exact ho _ _ (Ex.refl _) _ fun H2 e2 => ⟨a, C, dx, fs, rfl, at_get (k + 1) (by simpa using hk) (at_ex hA1 e2), c, n, hl, g p _ (by
      have h := at_upd (u := .ins C dx (putF f (.ref p) fs)) (k + 1) (by simpa using hk) (at_ex hA1 e2)
      simpa using h)⟩
/-! ### walks over dicts and sorted keys -/
section
variable {K : PySem.W.Frag} {σ : L2.St} {B H : Hp} {l : List MP} {ta tb td te ty tl : TE} {t : TT} {D : Ends} {tz : TS} {d e : PyData} {a : Addr}
theorem ed_dget {kvs : List (Key × V)} {k : Key} {v : V} (ha : Ev td σ H (.ref a)) (hk : Ev ty σ H (kV k)) (hr : Rd H a (.dK kvs)) (hv : valV kvs k = some v) (hd : Dp K H v d) : EvD K (tDGet td ty) σ H d := ed_of (ev_dget ha hk hr hv) hd
/-- y = [e for k in d if t], d however it is told -/
theorem q_lcKeysF {dd : Addr} {kvs : List (Key × V)} {i j : Nat} {vs : List Nat} (hd : H dd = some (.dK kvs)) (hz : kvs.length ≤ 40000) (f : Nat → Bool) (v : Nat → V) (hw : ∀ x, wipe ((wipe σ vs).set j (some x)) vs = wipe σ vs) (hev : ∀ o H1, Ex (upd H dd (.frz o (.dK kvs))) H1 → Ev td σ H1 (.ref dd))
    (ht : ∀ (n : Nat) k x o H1, kvs[n]? = some (k, x) → Ex (upd H dd (.frz o (.dK kvs))) H1 → EvT t ((wipe σ vs).set j (some (kV k))) H1 (f n))
    (he : ∀ (n : Nat) k x o H1, kvs[n]? = some (k, x) → Ex (upd H dd (.frz o (.dK kvs))) H1 → f n = true → Ev te ((wipe σ vs).set j (some (kV k))) H1 (v n))
    (q : ∀ p H1, H p = none → Ex H H1 → H1 p = some (.lst (given kvs.length f v)) → tz D (σ.set i (some (.ref p))) H1) : tSeq (tLock (tAsg (tLc (iKeys td) (gName j) t te vs) (gName i))) tz D σ H := by
  refine ⟨dd, .dK kvs, hd, trivial, fun od => hev od _ (Ex.refl _) _ (Ex.refl _) _ fun H2 e2 => ⟨dd, od, rfl, .inl ⟨kvs, e2 _ _ upd_same, fun Dl hD => ?_⟩⟩⟩
  have nD : upd H dd (.frz od (.dK kvs)) Dl = none := fresh_back e2 hD
  have ne : Dl ≠ dd := fun e => by
    rw [e, upd_same] at nD
    cases nD
  refine lc_it walk_keys (fun m H' => Cw H2 f v Dl m H') ⟨hD, Ex.new hD, upd_same⟩ (fun m H' _ p => p.2.1 dd _ (e2 _ _ upd_same)) (fun m x H1 H' hm p y => ?_) (fun H' p => ?_)
  · obtain ⟨rfl, k, x', hk, rfl⟩ := y
    exact ⟨hw _, cw_turn p (by omega) (ht m k x' od H2 hk e2) (fun hf => he m k x' od H2 hk e2 hf)⟩
  · refine ⟨p.2.1 dd _ (e2 _ _ upd_same), ?_⟩
    refine q Dl _ ?_ (Ex.unlock hd (e2.trans p.2.1)) (by rw [upd_ne ne]; exact p.2.2)
    rw [upd_ne ne] at nD
    exact nD
def srt (ks : List Int) : List Int := ks.mergeSort fun a b => decide (a ≤ b)
theorem srt_perm (ks : List Int) : (srt ks).Perm ks := List.mergeSort_perm _ _
theorem srt_asc (ks : List Int) : (srt ks).Pairwise (· ≤ ·) := by
  have h := List.pairwise_mergeSort (le := fun a b : Int => decide (a ≤ b)) (fun a b c h1 h2 => by simp at *; omega) (fun a b => by simp; omega) ks
  exact List.Pairwise.imp (fun {a b} h => of_decide_eq_true h) h
theorem el_sorted {kvs : List (Key × V)} {ks : List Int} (hd : Ev td σ H (.ref a)) (h : H a = some (.dK kvs)) (hk : kvs.map (·.1) = ks.map Sum.inl) (h64 : ks.length < 64) :
    EvL (tCB (fun xs H Q => ∃ (a : Addr) (kvs : List (Key × V)) (ks : List Int), xs = [.ref a] ∧ Rd H a (.dK kvs) ∧ kvs.map (·.1) = ks.map Sum.inl ∧ ks.length < 64 ∧ ∀ (ys : List Int) (p : Addr), ys.Perm ks → ys.Pairwise (· ≤ ·) → H p = none → Q (.ref p) (upd H p (.lst (ys.map V.int)))) (tCons td tNil)) σ H ((srt ks).map V.int) := fun H1 e Q q =>
  hd H1 e _ fun H2 e2 => ⟨a, kvs, ks, rfl, .inl ((e.trans e2) _ _ h), hk, h64, fun ys p hp hso np => by
    rw [perm_sorted (hp.trans (srt_perm ks).symm) hso (srt_asc ks)]
    exact q p _ (fresh_back e2 np) (e2.trans (Ex.new np)) upd_same⟩
/-- [e for x in a new list], its items data -/
theorem wl_lcNL {xs : List V} {j : Nat} {vs : List Nat} (g : Nat → PyData) (hz : xs.length ≤ 40000) (h : ∀ B1 H, Ex B B1 → At B1 l H → EvL tl σ H xs) (hw : ∀ x, wipe ((wipe σ vs).set j (some x)) vs = wipe σ vs)
    (ht : ∀ x H, EvT t ((wipe σ vs).set j (some x)) H true) (he : ∀ (n : Nat) (x : V), xs[n]? = some x → ∀ p q acc, Wv te ((wipe σ vs).set j (some x)) B (Pt p (.lst acc) :: Pt q (.lst xs) :: l) (rD K (g n))) :
    Wl K (tLc (iList K tl) (gName j) t te vs) σ B l (givenD xs.length (fun _ => true) g) := fun B1 H0 e0 hA Q q => h B1 H0 e0 hA H0 (Ex.refl H0) _ fun a H1 na e1 hx => by
  have hA1 := at_new hA na e1 hx
  refine ⟨a, rfl, ⟨xs, sq_of hx⟩, fun Dl hD => ?_⟩
  refine lc_list (xs := xs) (fun i H' => ∃ B' acc, Ex B1 B' ∧ At B' (Pt Dl (.lst acc) :: Pt a (.lst xs) :: l) H' ∧ DpAll K B' acc (givenD i (fun _ => true) g)) ⟨B1, [], Ex.refl B1, at_new hA1 hD (Ex.new hD) upd_same, .nil⟩ (fun i H' _ p => ?_) (fun i x H' hi p => ?_) (fun H' p => ?_)
  · obtain ⟨B', acc, b1, hA', hd⟩ := p
    exact sq_of (at_get 1 rfl hA')
  · obtain ⟨B', acc, b1, hA', hd⟩ := p
    have hlt := (List.getElem?_eq_some_iff.mp hi).1
    refine ⟨hw x, ht x H' H' (Ex.refl H') _ fun H3 e3 => ?_⟩
    have hA3 := at_ex hA' e3
    rw [if_pos rfl]
    refine he i x hi Dl a acc B' H3 (e0.trans b1) hA3 _ fun y B4 H4 e4 hA4 hy => ⟨acc, at_get 0 rfl hA4, sz_lt (by rw [dpa_len hd]; have := givenD_len i (fun _ => true) g; omega), B4, acc ++ [y], b1.trans e4, at_upd (u := .lst (acc ++ [y])) 0 rfl hA4, ?_⟩
    rw [givenD_yes rfl]
    exact dpa_app (dpa_mono e4 _ _ hd) (dpa_one hy)
  · obtain ⟨B', acc, b1, hA', hd⟩ := p
    exact q Dl acc B' H' b1 (at_drop (at_swap hA')) hd
end
end Ap
namespace Ap
open PySem PySem.Spec PyProof.Rows L2
/-- o.m(), m may raise -/
theorem pe_mx0 {X : Cx} {CX : CXT} {k : Nat} {f C : Addr} {fd : FuncData} {ps : List Str} {sp : Sp} {E : L2.St → XK} {m : Str} {pos apos : Pos} {o : Expr} {ta : TE} {pl : Sem Bool}
    (he : PE X o ta) (c : Cls X.K C) (hm : Meth X.K C m f) (F : FnOk X.prog X.w X.K X.mg X.base CX k f fd ps sp) (hr : Room k X.A) (hb : Binds X.K fd ps []) (hx : ∀ σ, PassesAt CX X σ (E σ))
    (z3 : eval (.Call (.Attribute o m apos) [] [] pos) X.env = (do { let ov ← eval o X.env; standAt apos.atName; let (f, first) ← holding [ov] (getMethod ov m pl); callWith pos f first (backTo pos (starEach [] X.env)) (backToKw pos (keywordEach [] X.env)) }) := by rfl) :
    PE X (.Call (.Attribute o m apos) [] [] pos) (tMX C m sp E ta tNil) := ⟨fun pins s σ H Q I h => PySem.W.methodCall_KW (pl := pl) (thn (he.run pins s σ H _ I h) fun u s1 hh => by
  obtain ⟨x, G, J, rx, a, dx, fs, ex, ea, l, q⟩ := hh
  subst ex
  cases (show u = Value.ref a from rx)
  exact getmeth_ok J ea c hm l (PySem.W.callWith_K0 (first := [.ref a]) J.kIn hm.kp (run_fnS (us := [.ref a]) (vs := [.ref a]) F hr hb (hx σ) J (.cons rfl .nil) q))) z3⟩
/-! ### what else of the top is known -/
theorem kit_ownB {K : PySem.W.Frag} {t : Value} {B : Addr} {b : Bool} (hd : PySem.W.hasDictIn K B = true) (ht : PySem.W.typeIn K (.ref B) = some (.type "type")) (hs : PySem.W.subIn K t (.ref B) = some b) (hne : b = false → (t == Value.ref B) = false) : PySem.W.kitOne K t (.ref B) = some b := by
  obtain ⟨cd, hc, _⟩ := PySem.W.any_some hd
  unfold PySem.W.kitOne
  cases b with
  | true =>
    split
    · rfl
    · show (if ((PySem.W.clsIn K B).isSome && PySem.W.typeIn K (.ref B) == some (.type "type")) = true then PySem.W.subIn K t (.ref B) else none) = some true
      rw [hc, ht, if_pos (by rfl)]
      exact hs
  | false =>
    rw [if_neg (by rw [hne rfl]; decide)]
    show (if ((PySem.W.clsIn K B).isSome && PySem.W.typeIn K (.ref B) == some (.type "type")) = true then PySem.W.subIn K t (.ref B) else none) = some false
    rw [hc, ht, if_pos (by rfl)]
    exact hs
/-- a tuple of no items among the constants -/
structure TupG (K : PySem.W.Frag) (mg : Str → Option Value) (x : Str) (a : Addr) : Prop where
  g : mg x = some (.ref a)
  l : ∃ o n, K.lookup a = some o ∧ o.cls = .type "tuple" ∧ o.data = .seq #[] n
theorem tg_mk {K : PySem.W.Frag} {h : Heap} {mg : Str → Option Value} (X : K.In h) (G : h.Ns mainGlobals mg) {x : Str} {p : Addr} {o : Obj} {n : Nat} (a : PySem.W.nsIn K mainGlobals x = some (some (.ref p))) (l : K.lookup p = some o) (c : o.cls = .type "tuple") (d : o.data = .seq #[] n) : ∃ p, TupG K mg x p := ⟨p, PySem.W.mg_of X G a, o, n, l, c, d⟩
theorem TupG.dp {K : PySem.W.Frag} {mg : Str → Option Value} {x : Str} {a : Addr} {H : Hp} (T : TupG K mg x a) : Dp K H (.ref a) (.tuple []) := by
  obtain ⟨o, n, h1, h2, h3⟩ := T.l
  exact .tup (.inr ⟨o, #[], n, h1, h2, h3, Nat.zero_le _, .nil⟩) .nil
/-- the law's end, the ground's own word handed on -/
theorem walk_ofX {l : PySem.W.OpenLaw} {n k : Nat} {q : Program} {loose : List Str} {XP : (Str → Option Value) → Heap → Prop} {YP : World → Heap → Prop} {d : DefRec} {K : Params → PySem.W.Frag} {CX : World → CXT} {sp : World → Sp} {x : Str}
    (hn : l.most = some n) (hn2 : n ≤ sizeLine) (hdf : d.params.defaults = []) (hr : Room k callerA) (hY : ∀ (w : World) (h : Heap), YP w h → (K w.params).In h)
    (F : ∀ (w : World) (mg : Str → Option Value) (fa : Addr) (h : Heap), (K w.params).In h → h.Ns mainGlobals mg → XP mg h → mg d.name = some (.ref fa) →
      ∃ fd : FuncData, (∀ (s : Shared) (u : Value), BindsTo s fd ⟨[u], []⟩ [(x, u)]) ∧ ∀ base : Heap, (K w.params).In base → base.Ns mainGlobals mg → FnOk l.prog w (K w.params) mg base (CX w) k fa fd [x] (sp w))
    (hsp : ∀ (w : World) (H : Hp) (a : Addr) (ns : List Int), ns.length ≤ n → Only H → SqL (K w.params) H a (ns.map V.int) → sp w [.ref a] H (fun v _ => v = .bl true) fun _ _ _ => False)
    (hCX : ∀ (w : World) (H : Hp) (s : Shared) (e : Value) (s' : Shared), CX w [] H s (fun _ _ _ => False) e s' → False) :
    PySem.W.WalkO q loose XP YP l.row.toRowW d [] (fun f vs => PySem.call f vs) := by
  refine Att.attach_call hn hdf fun w s₀ s₁ mg mb fa o pm cd doc a vs ns G Y ho hd hcd hmg hobj hints hlen hg => ?_
  have KX := hY w _ Y
  obtain ⟨fd, hb, hF⟩ := F w mg fa _ KX G.T.g G.X hmg
  exact law_call KX G.T.g G.T.b G.T.builtins G.T.nolimit hg hobj hints (Nat.le_trans hlen hn2) hr hF hb (fun H hO hS => hsp w H a ns hlen hO hS) fun H e s' => hCX w H s₁ e s'
end Ap

set_option Elab.async false
set_option linter.all false
set_option maxRecDepth 100000
namespace Ap
open PySem PySem.Spec PyProof.Rows L2 Evl PySem.W
/-! ### texts that are made -/
theorem mul1_ok {c : Nat} {n : Int} (h0 : -1000 ≤ n) (h1 : n ≤ 1000) : MulOk ⟨#[c]⟩ n := by
  refine ⟨?_, fun a b => ?_, fun a b => ?_⟩
  · rw [decide_eq_false (by omega), decide_eq_false (by omega)]
    rfl
  · show ¬ (((1 : Nat) : Int) > (2 ^ 63 - 1) / n)
    have : (1 : Int) ≤ (2 ^ 63 - 1) / n := by
      refine (Int.le_ediv_iff_mul_le (by omega)).mpr ?_
      omega
    omega
  · show Builtin.Str.tooLong (1 * n.toNat) = false
    unfold Builtin.Str.tooLong
    refine decide_eq_false ?_
    have : n.toNat ≤ 1000 := by omega
    have h : (1000 : Nat) ≤ sizeLine := by decide
    omega
theorem foldrep (c : Nat) : ∀ (m : Nat) (acc : Array Nat), (List.replicate m #[c]).foldl (· ++ ·) acc = acc ++ (List.replicate m c).toArray
  | 0, acc => by simp
  | m + 1, acc => by
    rw [List.replicate_succ, List.foldl_cons, foldrep c m, List.replicate_succ]
    apply Array.ext'
    simp
theorem mul1 {c : Nat} {n : Int} : Txt.mul ⟨#[c]⟩ n = ⟨(List.replicate n.toNat c).toArray⟩ := by
  unfold Txt.mul
  by_cases h : n < 1
  · rw [if_pos h, show n.toNat = 0 by omega]
    rfl
  · rw [if_neg h]
    by_cases h2 : (n == 1 || (⟨#[c]⟩ : Str).length == 0) = true
    · rw [if_pos h2]
      have : n = 1 := by
        rcases (Bool.or_eq_true _ _).mp h2 with h | h
        · exact beq_iff_eq.mp h
        · exact absurd h (by show ¬ ((1 : Nat) == 0) = true; decide)
      subst this
      rfl
    · rw [if_neg h2, foldrep]
      simp
theorem jn1 (cs : List Nat) : Txt.join ⟨#[]⟩ (cs.map fun c => (⟨#[c]⟩ : Str)) = ⟨cs.toArray⟩ := by
  refine TL.ext_tl ?_
  rw [TL.join_eq, TL.tl_join]
  show TL.joinL [] ((cs.map fun c => (⟨#[c]⟩ : Str)).map TL.tl) = cs
  have h : ∀ cs : List Nat, TL.joinL [] ((cs.map fun c => (⟨#[c]⟩ : Str)).map TL.tl) = cs := fun cs => by
    induction cs with
    | nil => rfl
    | cons c r ih =>
      cases r with
      | nil => rfl
      | cons d r =>
        show [c] ++ ([] ++ TL.joinL [] _) = c :: d :: r
        have ih' : TL.joinL [] (((d :: r).map fun c => (⟨#[c]⟩ : Str)).map TL.tl) = d :: r := ih
        exact congrArg (c :: ·) ih'
  exact h cs
def allC (cs : List Nat) : Bool := cs.all chOk
theorem isT_of {cs : List Nat} (h : allC cs = true) (hl : cs.length ≤ 200) : isT (.str ⟨cs.toArray⟩) = true := by
  show (decide ((⟨cs.toArray⟩ : Str).length ≤ 200) && cs.toArray.toList.all chOk) = true
  rw [decide_eq_true (by show cs.toArray.size ≤ 200; simpa using hl)]
  simpa [allC] using h
/-! ### the law's stream of draws: two numbers in a list -/
def StM (s : Addr) : MP := ExM fun p : Int × Int => AndM (0 ≤ p.1 ∧ 0 ≤ p.2 ∧ p.2 < 2147483648) (Pt s (.lst [.int p.1, .int p.2]))
def spNext : Sp := fun vs H Q _ => ∃ (s : Addr) (n : Int) (B : Hp) (F : List MP), vs = [.ref s, .int n] ∧ At B (StM s :: F) H ∧ 0 < n ∧ n ≤ 10 ^ 20 ∧ ∀ r H1, 0 ≤ r → r < n → At B (StM s :: F) H1 → Q (.int r) H1
section
variable {K : PySem.W.Frag} {σ : L2.St} {B H : Hp} {l : List MP} {ta td te tn : TE} {t : TT} {x y v : V} {R : Rr} {s : Addr} {D : Ends} {tz tu : TS} {i j : Nat} {n : Int} {E : XK}
theorem wv_next (j : Nat) (hj : l[j]? = some (StM s)) (hs : σ[i]? = some (some (.ref s))) (hn : ∀ H1, Ev tn σ H1 (.int n)) (h0 : 0 < n) (h1 : n ≤ 10 ^ 20) : Wv (tCall spNext [] E (tCons (tVar i) (tCons tn tNil))) σ B l (rN fun r => 0 ≤ r ∧ r < n) := fun B1 H e1 hA Q q =>
  go_call (go_cons (ev_var hs) fun H1 e2 => go_cons (hn H1) fun H2 e3 => go_nil ⟨s, n, B1, l.eraseIdx j, rfl, at_pull j hj (at_ex hA (e2.trans e3)), h0, h1, fun r H3 a b hA3 => q _ B1 H3 (Ex.refl B1) (by
    have := at_put j hj hA3
    rwa [List.set_getElem?_self' hj] at this) ⟨r, rfl, a, b⟩⟩)
theorem et_orF' {tq tr : TT} {b : Bool} (h1 : EvT tq σ H false) (h2 : EvT tr σ H b) : EvT (tOr tq tr) σ H b := et_is (et_or (a := false) (b := b) h1 (fun _ => h2)) (Bool.false_or b)
theorem et_andT' {tq tr : TT} {b : Bool} (h1 : EvT tq σ H true) (h2 : EvT tr σ H b) : EvT (tAnd tq tr) σ H b := et_is (et_and (a := true) (b := b) h1 (fun _ => h2)) (Bool.true_and b)
theorem go_m1 {to : TE} {r : V → List V → Hp → VK → Prop} {z : Str} {Q : VK} (h : Ev to σ H (.str z)) (k : ∀ H1, Ex H H1 → te σ H1 fun y H2 => r (.str z) [y] H2 Q) : tM1 r to te σ H Q := h H (Ex.refl H) _ fun H1 e1 => ⟨⟨z, rfl⟩, k H1 e1⟩
theorem st_mk {a b : Int} (h0 : 0 ≤ a) (h1 : 0 ≤ b) (h2 : b < 2147483648) (h : At B (Pt s (.lst [.int a, .int b]) :: l) H) : At B (StM s :: l) H := at_exm' (a, b) (at_and' ⟨h0, h1, h2⟩ h)
theorem st_open (h : At B (StM s :: l) H) : ∃ a b, 0 ≤ a ∧ 0 ≤ b ∧ b < 2147483648 ∧ At B (Pt s (.lst [.int a, .int b]) :: l) H := by
  obtain ⟨⟨a, b⟩, h⟩ := at_exm h
  obtain ⟨⟨h0, h1, h2⟩, h⟩ := at_and h
  exact ⟨a, b, h0, h1, h2, h⟩
/-- return a new list -/
theorem re_lst {xs : List V} (hA : At B l H) (h : EvL te σ H xs) (k : ∀ p H1, At B (Pt p (.lst xs) :: l) H1 → D.rt (.ref p) H1) : tRet te D σ H := h H (Ex.refl H) _ fun p H1 np e1 hp => k p H1 (at_new hA np e1 hp)
/-- xs[i] = e -/
theorem qe_set {ti : TE} {q : Addr} {xs : List V} {m : Nat} (k : Nat) (hk : l[k]? = some (Pt q (.lst xs))) (hA : At B l H) (hv : Ev te σ H v) (ha : ∀ H1, Ev ta σ H1 (.ref q)) (hi : ∀ H1, Ev ti σ H1 (.int i)) (hx : ixN xs.length i = some m) (c : ∀ H1, At B (l.set k (Pt q (.lst (xs.set m v)))) H1 → tz D σ H1) : tSeq (tAsg te (gSub ta ti rSetL)) tz D σ H :=
  hv H (Ex.refl H) _ fun H1 e1 => ha H1 H1 (Ex.refl H1) _ fun H2 e2 => hi H2 H2 (Ex.refl H2) _ fun H3 e3 => ⟨q, xs, i, m, rfl, rfl, at_get k hk (at_ex hA ((e1.trans e2).trans e3)), hx, c _ (at_upd k hk (at_ex hA ((e1.trans e2).trans e3)))⟩
/-- for x in range(what is drawn) -/
theorem s_forR1W {φ : Int → Prop} (hA : At B l H) (h : Wv te σ B l (rN φ)) (hφ : ∀ n, φ n → 0 ≤ n ∧ n ≤ 100000) (Pv : Int → Nat → L2.St → Hp → Prop) (h0 : ∀ n B1 H1, φ n → Ex B B1 → At B1 l H1 → Pv n 0 σ H1)
    (hs : ∀ (n : Int) (i : Nat) σ' H', φ n → (i : Int) < n → Pv n i σ' H' → tu { D with nx := Pv n (i + 1), ct := Pv n (i + 1), bk := D.nx } (σ'.set j (some (.int (i : Int)))) H') (hd : ∀ n σ' H', φ n → Pv n n.toNat σ' H' → D.nx σ' H') : tFor (iRng1 (tCons te tNil)) (gName j) tu D σ H :=
  h B H (Ex.refl B) hA _ fun v B1 H1 e1 hA1 ⟨n, hv, hn⟩ => by
    subst hv
    exact ⟨n, rfl, by have := hφ n hn; omega, by have := hφ n hn; omega, for_range (lo := 0) (n := n.toNat) (Pv n) (h0 n B1 H1 hn e1 hA1) (fun i σ' H' hi p => by
      have e0 : (0 : Int) + (i : Int) = (i : Int) := Int.zero_add _
      show tu { D with nx := Pv n (i + 1), ct := Pv n (i + 1), bk := D.nx } (σ'.set j (some (.int ((0 : Int) + (i : Int))))) H'
      rw [e0]
      exact hs n i σ' H' hn (by omega) p) (fun σ' H' p => hd n σ' H' hn p)⟩
theorem q_forR1W {φ : Int → Prop} (hA : At B l H) (h : Wv te σ B l (rN φ)) (hφ : ∀ n, φ n → 0 ≤ n ∧ n ≤ 100000) (Pv : Int → Nat → L2.St → Hp → Prop) (h0 : ∀ n B1 H1, φ n → Ex B B1 → At B1 l H1 → Pv n 0 σ H1)
    (hs : ∀ (n : Int) (i : Nat) σ' H', φ n → (i : Int) < n → Pv n i σ' H' → tu { D with nx := Pv n (i + 1), ct := Pv n (i + 1), bk := tz D } (σ'.set j (some (.int (i : Int)))) H') (hd : ∀ n σ' H', φ n → Pv n n.toNat σ' H' → tz D σ' H') : tSeq (tFor (iRng1 (tCons te tNil)) (gName j) tu) tz D σ H :=
  s_forR1W (D := { D with nx := tz D }) hA h hφ Pv h0 hs hd
/-- [e for j in range(what is drawn)], e of a kind -/
def WlP (te : TE) (σ : L2.St) (B : Hp) (l : List MP) (m : Nat) (ψ : V → Prop) : Prop := ∀ B1 H, Ex B B1 → At B1 l H → ∀ Q : VK, (∀ p xs B2 H2, Ex B1 B2 → At B2 (Pt p (.lst xs) :: l) H2 → (∀ x ∈ xs, ψ x) → xs.length ≤ m → Q (.ref p) H2) → te σ H Q
def rP (ψ : V → Prop) : Rr := ⟨fun v _ => ψ v, fun _ h => h⟩
theorem wl_lcR1P {ψ : V → Prop} {φ : Int → Prop} {m : Nat} {vs : List Nat} (hφ : ∀ n, φ n → 0 ≤ n ∧ n ≤ (m : Int)) (hm : m ≤ 40000) (h : Wv tn σ B l (rN φ)) (hw : ∀ x, wipe ((wipe σ vs).set j (some x)) vs = wipe σ vs)
    (ht : ∀ (i : Nat) H, EvT t ((wipe σ vs).set j (some (.int (i : Int)))) H true) (he : ∀ (i : Nat) p acc, Wv te ((wipe σ vs).set j (some (.int (i : Int)))) B (Pt p (.lst acc) :: l) (rP ψ)) :
    WlP (tLc (iRng1 (tCons tn tNil)) (gName j) t te vs) σ B l m ψ := fun B1 H0 e0 hA Q q => h B1 H0 e0 hA _ fun v B2 H1 e1 hA1 ⟨n, hv, hn⟩ => by
  subst hv
  have hn := hφ n hn
  refine ⟨n, rfl, by omega, by omega, fun Dl hD => ?_⟩
  refine lc_range (lo := 0) (n := n.toNat) (fun i H' => ∃ B' acc, Ex B2 B' ∧ At B' (Pt Dl (.lst acc) :: l) H' ∧ (∀ x ∈ acc, ψ x) ∧ acc.length = i) ⟨B2, [], Ex.refl B2, at_new hA1 hD (Ex.new hD) upd_same, fun x hx => absurd hx List.not_mem_nil, rfl⟩ (fun i H' hi p => ?_) (fun H' p => ?_)
  · have e0' : (0 : Int) + (i : Int) = (i : Int) := Int.zero_add _
    rw [e0']
    obtain ⟨B', acc, b1, hA', ha, hl⟩ := p
    refine ⟨hw _, ht i H' H' (Ex.refl H') _ fun H3 e3 => ?_⟩
    rw [if_pos rfl]
    refine he i Dl acc B' H3 ((e0.trans e1).trans b1) (at_ex hA' e3) _ fun y B4 H4 e4 hA4 hy => ⟨acc, at_get 0 rfl hA4, sz_lt (by omega), B4, acc ++ [y], b1.trans e4, at_upd (u := .lst (acc ++ [y])) 0 rfl hA4, fun x hx => ?_, by rw [List.length_append, hl]; rfl⟩
    rcases List.mem_append.mp hx with hx | hx
    · exact ha x hx
    · rw [List.mem_singleton.mp hx]
      exact hy
  · obtain ⟨B', acc, b1, hA', ha, hl⟩ := p
    exact q Dl acc B' H' (e1.trans b1) hA' ha (by omega)

theorem sm_appF {K : PySem.W.Frag} {a : Addr} {ds : List PyData} {d : PyData} (n : Nat) (e : l[n]? = some (LstM K a ds)) (hA : At B l H) (ha : ∀ H1, At B l H1 → Ev ta σ H1 (.ref a)) (h : Wv te σ B l (rD K d)) (hz : ds.length < 100000) (c : ∀ B1 H1, Ex B B1 → At B1 (l.set n (LstM K a (ds ++ [d]))) H1 → D.nx σ H1) : tDrop (tBM K "list" rAppend ta (tCons te tNil)) D σ H :=
  ha H hA H (Ex.refl H) _ fun H1 e1 => by
    have hA1 := at_ex hA e1
    obtain ⟨xs, h1, h2⟩ := lst_at n e hA1
    refine ⟨.inl ⟨rfl, xs, sq_of h2⟩, h B H1 (Ex.refl B) hA1 _ fun v B2 H2 b2 hA2 hv => ?_⟩
    obtain ⟨xs, h1, h2⟩ := lst_at n e hA2
    exact ⟨a, xs, v, rfl, rfl, h2, sz_lt (by rw [dpa_len h1]; exact hz), c B2 _ b2 (lst_upd n e hA2 (dpa_app h1 (dpa_one hv)))⟩
theorem qm_appF {K : PySem.W.Frag} {a : Addr} {ds : List PyData} {d : PyData} (n : Nat) (e : l[n]? = some (LstM K a ds)) (hA : At B l H) (ha : ∀ H1, At B l H1 → Ev ta σ H1 (.ref a)) (h : Wv te σ B l (rD K d)) (hz : ds.length < 100000) (c : ∀ B1 H1, Ex B B1 → At B1 (l.set n (LstM K a (ds ++ [d]))) H1 → tz D σ H1) : tSeq (tDrop (tBM K "list" rAppend ta (tCons te tNil))) tz D σ H :=
  sm_appF (D := { D with nx := tz D }) n e hA ha h hz c
/-- if t: .., both ways to the same -/
theorem qe_whenR {l' : List MP} {b : Bool} (hA : At B l H) (h : EvT t σ H b) (h2 : b = false → ∀ H1, At B l H1 → At B l' H1) (h1 : b = true → ∀ H1, At B l H1 → ∀ Dn : Ends, (∀ H1, At B l' H1 → Dn.nx σ H1) → tu Dn σ H1) (k : ∀ H1, At B l' H1 → tz D σ H1) : tSeq (tIfS t tu tNext) tz D σ H :=
  qe_when hA h (fun hb H1 hA => h1 hb H1 hA { D with nx := tz D } k) (fun hb H1 hA => k H1 (h2 hb H1 hA))
theorem se_fsub {K : PySem.W.Frag} {a : Addr} {tv : TE} {C dx : Addr} {fs : List (Str × V)} {f : Str} {i j : Int} (k : Nat) (hk : l[k]? = some (Pt a (.ins C dx fs))) (hA : At B l H) (ho : Ev ta σ H (.ref a)) (hv : ∀ H1, Ev tv σ H1 (.int j)) (c : Cls K C) (n : NoAttr K C f) (hf : fs.lookup f = some (.int i)) (hl : fs.length < 1000)
    (g : ∀ H1, At B (l.set k (Pt a (.ins C dx (putF f (.int (i - j)) fs)))) H1 → D.nx σ H1) : sFldAug K ta tv rSub f D σ H :=
  ho H (Ex.refl H) _ fun H1 e1 => ⟨a, C, dx, fs, .int i, rfl, at_get k hk (at_ex hA e1), c, n, hf, hv H1 H1 (Ex.refl H1) _ fun H2 e2 => ⟨i, j, rfl, rfl, dx, fs, at_get k hk (at_ex hA (e1.trans e2)), hl, g _ (at_upd k hk (at_ex hA (e1.trans e2)))⟩⟩
theorem look_isSome {l : DI} {p : Int × PyData} (h : p ∈ l) : ∃ d, look l p.1 = some d := by
  induction l with
  | nil => cases h
  | cons q r ih =>
    rw [look_cons]
    by_cases e : q.1 = p.1
    · rw [if_pos e]
      exact ⟨_, rfl⟩
    · rw [if_neg e]
      rcases List.mem_cons.mp h with h | h
      · rw [h] at e
        exact absurd rfl e
      · exact ih h
theorem look_mem {l : DI} {k : Int} {d : PyData} (h : look l k = some d) : (k, d) ∈ l := by
  induction l with
  | nil => cases h
  | cons q r ih =>
    rw [look_cons] at h
    by_cases e : q.1 = k
    · rw [if_pos e] at h
      have h := Option.some.inj h
      refine List.mem_cons.mpr (.inl ?_)
      rw [← e, ← h]
    · rw [if_neg e] at h
      exact List.mem_cons_of_mem _ (ih h)
theorem given_filter (l : DI) (g : Int × PyData → Bool) : Evl.given l.length (fun n => g (l.getD n (0, .none))) (fun n => V.int (l.getD n (0, .none)).1) = ((l.filter g).map (·.1)).map V.int := by
  have e := range_get ((0, .none) : Int × PyData) l
  unfold Evl.given
  conv => rhs; rw [← e]
  rw [List.filter_map, List.map_map, List.map_map]
  rfl
/-! ### what is drawn, in expressions and tests -/
variable {φ ψ χ : Int → Prop} {tb : TE} {tw : TS}
theorem wv_i {m : Int} (h : ∀ H1, Ev te σ H1 (.int m)) : Wv te σ B l (rN fun r => r = m) := fun B1 H1 e1 hA Q q => h H1 H1 (Ex.refl H1) _ fun H2 e2 => q _ B1 H2 (Ex.refl B1) (at_ex hA e2) ⟨m, rfl, rfl⟩
theorem wv_opW {r : R2} (ha : Wv ta σ B l (rN φ)) (hb : Wv tb σ B l (rN ψ)) (hr : ∀ i j, φ i → ψ j → ∀ H (Q : VK), (∀ k, χ k → Q (.int k) H) → r (.int i) (.int j) H Q) : Wv (tOp r ta tb) σ B l (rN χ) := fun B1 H1 e1 hA Q q =>
  ha B1 H1 e1 hA _ fun v B2 H2 e2 hA2 ⟨i, hv, hi⟩ => hb B2 H2 (e1.trans e2) hA2 _ fun w B3 H3 e3 hA3 ⟨j, hw, hj⟩ => by
    subst hv hw
    exact hr i j hi hj H3 _ fun k hk => q _ B3 H3 (e2.trans e3) hA3 ⟨k, rfl, hk⟩
theorem wv_addW (ha : Wv ta σ B l (rN φ)) (hb : Wv tb σ B l (rN ψ)) (hr : ∀ i j, φ i → ψ j → χ (i + j)) : Wv (tOp (rI0 fun i j => .int (i + j)) ta tb) σ B l (rN χ) := wv_opW ha hb fun i j hi hj H Q q => ⟨i, j, rfl, rfl, q _ (hr i j hi hj)⟩
theorem wv_subW (ha : Wv ta σ B l (rN φ)) (hb : Wv tb σ B l (rN ψ)) (hr : ∀ i j, φ i → ψ j → χ (i - j)) : Wv (tOp (rI0 fun i j => .int (i - j)) ta tb) σ B l (rN χ) := wv_opW ha hb fun i j hi hj H Q q => ⟨i, j, rfl, rfl, q _ (hr i j hi hj)⟩
theorem wv_mulW (ha : Wv ta σ B l (rN φ)) (hb : Wv tb σ B l (rN ψ)) (hr : ∀ i j, φ i → ψ j → CMul i j ∧ χ (i * j)) : Wv (tOp (rI CMul fun i j => .int (i * j)) ta tb) σ B l (rN χ) := wv_opW ha hb fun i j hi hj H Q q => ⟨i, j, rfl, rfl, (hr i j hi hj).1, q _ (hr i j hi hj).2⟩
theorem wv_intP {ρ : V → Prop} (ha : Wv ta σ B l (rN φ)) (hr : ∀ i, φ i → ρ (.int i)) : Wv ta σ B l (rP ρ) := Wv.to (R := rN φ) (R' := rP ρ) (fun v B ⟨i, hv, hi⟩ => by
  subst hv
  exact hr i hi) ha
/-- te == c, te drawn -/
theorem eqc_do {c : Int} {Q : Bool → Hp → Prop} (hA : At B l H) (h : Wv te σ B l (rN φ)) (k : ∀ n B1 H1, φ n → Ex B B1 → At B1 l H1 → Q (decide (n = c)) H1) : tTest (tOp rEq te (tC (.int c))) σ H Q := h B H (Ex.refl B) hA _ fun v B1 H1 e1 hA1 ⟨n, hv, hn⟩ => by
  subst hv
  exact ev_c (σ := σ) H1 (Ex.refl H1) _ fun H2 e2 => rv_eqI H2 (Ex.refl H2) _ fun H3 e3 => ⟨_, rfl, k n B1 H3 hn e1 (at_ex hA1 (e2.trans e3))⟩
theorem sw_ifEq {c : Int} (hA : At B l H) (h : Wv te σ B l (rN φ)) (h1 : ∀ B1 H1, Ex B B1 → At B1 l H1 → tu D σ H1) (h2 : ∀ B1 H1, Ex B B1 → At B1 l H1 → tw D σ H1) : tIfS (tTest (tOp rEq te (tC (.int c)))) tu tw D σ H := eqc_do hA h fun n B1 H1 hn e1 hA1 => by
  by_cases e : n = c
  · rw [if_pos (decide_eq_true e)]
    exact h1 B1 H1 e1 hA1
  · rw [if_neg (by rw [decide_eq_false e]; decide)]
    exact h2 B1 H1 e1 hA1
theorem qw_ifEq {c : Int} (hA : At B l H) (h : Wv te σ B l (rN φ)) (h1 : ∀ B1 H1, Ex B B1 → At B1 l H1 → tu { D with nx := tz D } σ H1) (h2 : ∀ B1 H1, Ex B B1 → At B1 l H1 → tw { D with nx := tz D } σ H1) : tSeq (tIfS (tTest (tOp rEq te (tC (.int c)))) tu tw) tz D σ H := sw_ifEq (D := { D with nx := tz D }) hA h h1 h2
theorem qw_whenEq {c : Int} (hA : At B l H) (h : Wv te σ B l (rN φ)) (h1 : ∀ B1 H1, Ex B B1 → At B1 l H1 → tu { D with nx := tz D } σ H1) (h2 : ∀ B1 H1, Ex B B1 → At B1 l H1 → tz D σ H1) : tSeq (tIfS (tTest (tOp rEq te (tC (.int c)))) tu tNext) tz D σ H := qw_ifEq hA h h1 h2
/-- what is drawn of a tuple of ints -/
theorem wv_ixTW {tt : TA} {ns : List Int} (ht : ∀ H1, EvA tt σ H1 (ns.map V.int)) (hz : ns.length ≤ 100000) (hb : ∀ p, Wv tb σ B (Pt p (.tup (ns.map V.int)) :: l) (rN φ)) (hr : ∀ j, φ j → ∃ k, atI ns j = some k ∧ χ k) : Wv (tOp (rIxT K) (tTup tt) tb) σ B l (rN χ) := fun B1 H1 e1 hA Q q =>
  go_op (go_tup (ht H1 H1 (Ex.refl H1) _ fun H2 e2 => ⟨by rw [List.length_map]; exact sz_of hz, fun p hp => hb p B1 _ e1 (at_new (at_ex hA e2) hp (Ex.new hp) upd_same) _ fun v B3 H3 e3 hA3 ⟨j, hv, hj⟩ => by
    subst hv
    obtain ⟨k, hk, hχ⟩ := hr j hj
    obtain ⟨m, hm, hx⟩ := atI_len (xs := ns.map V.int) (ys := ns) (List.length_map _) hk
    exact ⟨p, _, j, .int k, rfl, rfl, st_of (at_get 0 rfl hA3), hx _ (by rw [List.getElem?_map, hm]; rfl), q _ B3 H3 e3 (at_drop hA3) ⟨k, rfl, hχ⟩⟩⟩))
def isCh (v : V) : Prop := ∃ c : Nat, v = .str ⟨#[c]⟩ ∧ chOk c = true
/-- a drawn char of a text -/
theorem wv_ixS {z : Str} {m : Nat} (hz : z.cps.toList.length = m) (h9 : m ≤ 1000) (hc : z.cps.toList.all chOk = true) (ha : ∀ H1, Ev ta σ H1 (.str z)) (hb : Wv tb σ B l (rN fun r => 0 ≤ r ∧ r < (m : Int))) : Wv (tOp rIxS ta tb) σ B l (rP isCh) := fun B1 H1 e1 hA Q q =>
  go_op (ha H1 H1 (Ex.refl H1) _ fun H2 e2 => hb B1 H2 e1 (at_ex hA e2) _ fun v B3 H3 e3 hA3 ⟨r, hv, h0, h1⟩ => by
    subst hv
    obtain ⟨k, rfl⟩ : ∃ k : Nat, r = (k : Int) := ⟨r.toNat, by omega⟩
    have hk : k < z.cps.toList.length := by omega
    have e := List.getElem?_eq_getElem hk
    refine ⟨z, (k : Int), _, rfl, rfl, ?_, atI_nat e, q _ B3 H3 e3 hA3 ⟨_, rfl, List.all_eq_true.mp hc _ (List.getElem_mem hk)⟩⟩
    have hl : z.length = z.cps.toList.length := Array.length_toList.symm
    rw [hl, hz]
    exact sz_of (by omega))
theorem chs_of : ∀ {xs : List V}, (∀ x ∈ xs, isCh x) → ∃ cs : List Nat, xs = (cs.map fun c => (⟨#[c]⟩ : Str)).map V.str ∧ allC cs = true ∧ cs.length = xs.length
  | [], _ => ⟨[], rfl, rfl, rfl⟩
  | x :: r, h => by
    obtain ⟨cs, h1, h2, h3⟩ := chs_of fun y hy => h y (List.mem_cons_of_mem _ hy)
    obtain ⟨c, rfl, hc⟩ := h x List.mem_cons_self
    refine ⟨c :: cs, by rw [h1]; rfl, ?_, by rw [List.length_cons, List.length_cons, h3]⟩
    show (chOk c && allC cs) = true
    rw [hc, h2]
    rfl
theorem ch_len (cs : List Nat) : ((cs.map fun c => (⟨#[c]⟩ : Str)).map (·.length)).sum = cs.length := by
  induction cs with
  | nil => rfl
  | cons c r ih =>
    rw [List.map_cons, List.map_cons, List.sum_cons, ih, List.length_cons]
    show 1 + r.length = r.length + 1
    omega
theorem app_arr (cs ds : List Nat) : (⟨cs.toArray⟩ : Str) ++ ⟨ds.toArray⟩ = ⟨(cs ++ ds).toArray⟩ := by
  show (⟨cs.toArray ++ ds.toArray⟩ : Str) = _
  simp
theorem allC_rep {c : Nat} (h : chOk c = true) (n : Nat) : allC (List.replicate n c) = true := List.all_eq_true.mpr fun x hx => by rw [(List.mem_replicate.mp hx).2, h]
theorem allC_app {cs ds : List Nat} (h1 : allC cs = true) (h2 : allC ds = true) : allC (cs ++ ds) = true := by
  unfold allC at *
  rw [List.all_append, h1, h2]
  rfl
/-! ### blocks -/
def isBlk : PyData → Bool
  | .tuple ds => decide (ds.length ≤ 12) && ds.all isP
  | _ => false
theorem blk_of {d : PyData} (h : isBlk d = true) : ∃ ds, d = .tuple ds ∧ ds.length ≤ 12 ∧ ∀ e ∈ ds, isP e = true := by
  cases d with
  | tuple ds =>
    have h := Bool.and_eq_true_iff.mp (show (decide (ds.length ≤ 12) && ds.all isP) = true from h)
    exact ⟨ds, rfl, of_decide_eq_true h.1, List.all_eq_true.mp h.2⟩
  | _ => cases h
theorem isP_cases {e : PyData} (h : isP e = true) : (∃ i, e = .int i ∧ isI e = true) ∨ ∃ z, e = .str z ∧ isT e = true := by
  cases e <;> simp_all [isP, isI, isT]
theorem isT_len {z : Str} (h : isT (.str z) = true) : z.length ≤ 200 := of_decide_eq_true (Bool.and_eq_true_iff.mp (show (decide (z.length ≤ 200) && z.cps.toList.all chOk) = true from h)).1
theorem isP_okd {n : Nat} {e : PyData} (h : isP e = true) : Okd n e := by
  rcases isP_cases h with ⟨i, rfl, _⟩ | ⟨z, rfl, hz⟩
  · exact .int i
  · exact .str (by have := isT_len hz; omega)
theorem isP_okn {n : Nat} {e : PyData} (h : isP e = true) : Okn n e := by
  rcases isP_cases h with ⟨i, rfl, _⟩ | ⟨z, rfl, hz⟩
  · exact .int i
  · exact .str z
theorem isP_isV {e : PyData} (h : isP e = true) : isV e = true := by
  rcases isP_cases h with ⟨i, rfl, _⟩ | ⟨z, rfl, hz⟩
  · simpa [isV] using h
  · simpa [isV] using h
theorem blk_okd {n : Nat} {d : PyData} (h : isBlk d = true) : Okd (n + 1) d := by
  obtain ⟨ds, rfl, hl, hp⟩ := blk_of h
  exact .tup (by omega) fun e he => isP_okd (hp e he)
theorem blk_okn {n : Nat} {d : PyData} (h : isBlk d = true) : Okn (n + 1) d := by
  obtain ⟨ds, rfl, hl, hp⟩ := blk_of h
  exact .tup (by omega) fun e he => isP_okn (hp e he)
theorem blk_sd {n : Nat} {d : PyData} (h : isBlk d = true) : Sd (n + 1) d := by
  obtain ⟨ds, rfl, hl, hp⟩ := blk_of h
  exact sd_tuple fun e he => isV_sd (isP_okd (n := n) (hp e he)) (isP_isV (hp e he))
/-- ints and texts, as values -/
def isIT (v : V) : Prop := (∃ i, v = .int i ∧ isI (.int i) = true) ∨ ∃ z, v = .str z ∧ isT (.str z) = true
theorem it_of {K : PySem.W.Frag} {B : Hp} : ∀ {xs : List V}, (∀ x ∈ xs, isIT x) → ∃ ds, DpAll K B xs ds ∧ ∀ e ∈ ds, isP e = true
  | [], _ => ⟨[], .nil, fun _ h => nomatch h⟩
  | x :: r, h => by
    obtain ⟨ds, h1, h2⟩ := it_of (K := K) (B := B) fun y hy => h y (List.mem_cons_of_mem _ hy)
    rcases h x List.mem_cons_self with ⟨i, rfl, hi⟩ | ⟨z, rfl, hz⟩
    · refine ⟨.int i :: ds, .cons (.int i) h1, fun e he => ?_⟩
      rcases List.mem_cons.mp he with rfl | he
      · unfold isP; rw [hi]; rfl
      · exact h2 e he
    · refine ⟨.str z :: ds, .cons (.str z) h1, fun e he => ?_⟩
      rcases List.mem_cons.mp he with rfl | he
      · unfold isP; rw [hz, Bool.or_true]
      · exact h2 e he
end
end Ap

set_option Elab.async false
set_option linter.all false
set_option maxRecDepth 100000
set_option maxHeartbeats 4000000
namespace Ap
open PySem PySem.Spec PyProof.Rows L2 Evl PySem.W
def inB (c : Int) (x : Int) : Bool := decide (0 ≤ x) && decide (x < c)
def hmB (ns : List Int) (c : Int) : Bool := decide (((setSt (inB c) ns).2 : Int) ≥ c / 2 + 1)
theorem inV_int (x : Int) (ns : List Int) : inV (.int x) (ns.map V.int) = true ↔ x ∈ ns := by
  unfold inV
  rw [List.any_map, List.any_eq_true]
  constructor
  · rintro ⟨y, hy, e⟩
    have e : (y == x) = true := e
    exact (beq_iff_eq.mp e) ▸ hy
  · exact fun h => ⟨x, h, by show (x == x) = true; exact beq_self_eq_true x⟩
theorem flat_ints (ns : List Int) : (ns.map V.int).all flatV = true := by
  rw [List.all_map, List.all_eq_true]
  exact fun _ _ => rfl

/-! ### the mathematics of the commit point -/
def ge (t : Int) (l : List Int) : Nat := (l.filter fun x => decide (t ≤ x)).length
theorem ge_nil (t : Int) : ge t [] = 0 := rfl
theorem ge_cons (t x : Int) (r : List Int) : ge t (x :: r) = ge t r + (if t ≤ x then 1 else 0) := by
  unfold ge
  rw [List.filter_cons]
  by_cases h : t ≤ x
  · rw [if_pos h, if_pos (by exact decide_eq_true h)]
    rfl
  · rw [if_neg h, if_neg (by rw [decide_eq_false h]; decide)]
    rfl
theorem ge_app (t : Int) : ∀ a b : List Int, ge t (a ++ b) = ge t a + ge t b
  | [], b => by rw [List.nil_append, ge_nil, Nat.zero_add]
  | x :: r, b => by rw [List.cons_append, ge_cons, ge_cons, ge_app t r b]; omega
theorem ge_le (t : Int) (l : List Int) : ge t l ≤ l.length := List.length_filter_le _ _
theorem ge_all (t : Int) : ∀ l : List Int, (∀ x ∈ l, t ≤ x) → ge t l = l.length
  | [], _ => rfl
  | x :: r, h => by rw [ge_cons, if_pos (h x List.mem_cons_self), ge_all t r (fun y hy => h y (List.mem_cons_of_mem _ hy)), List.length_cons]
theorem ge_none (t : Int) : ∀ l : List Int, (∀ x ∈ l, x < t) → ge t l = 0
  | [], _ => rfl
  | x :: r, h => by rw [ge_cons, if_neg (by have := h x List.mem_cons_self; omega), ge_none t r (fun y hy => h y (List.mem_cons_of_mem _ hy))]
theorem ge_perm (t : Int) {a b : List Int} (h : a.Perm b) : ge t a = ge t b := (h.filter _).length_eq
theorem ge_set (t : Int) (h1 : 1 ≤ t) (v : Int) : ∀ (l : List Int) (j : Nat), l[j]? = some 0 → ge t (l.set j v) = ge t l + (if t ≤ v then 1 else 0)
  | [], j, h => by simp at h
  | x :: r, 0, h => by
    have e : x = 0 := by simpa using h
    rw [List.set_cons_zero, ge_cons, ge_cons, e, if_neg (show ¬ t ≤ 0 by omega)]
    omega
  | x :: r, j + 1, h => by
    rw [List.set_cons_succ, ge_cons, ge_cons, ge_set t h1 v r j (by simpa using h)]
    omega
/-- in a falling list the item at j: at least j + 1 reach it, at most j go beyond it -/
theorem ge_desc : ∀ (l : List Int) (j : Nat) (c : Int), l.Pairwise (· ≥ ·) → l[j]? = some c → j + 1 ≤ ge c l ∧ ge (c + 1) l ≤ j
  | [], j, c, _, h => by simp at h
  | x :: r, 0, c, hp, h => by
    have e : x = c := by simpa using h
    subst e
    have hr := (List.pairwise_cons.mp hp).1
    rw [ge_cons, ge_cons, if_pos (Int.le_refl _), if_neg (by omega), ge_none (x + 1) r (fun y hy => by have := hr y hy; omega)]
    omega
  | x :: r, j + 1, c, hp, h => by
    have hr := List.pairwise_cons.mp hp
    have ih := ge_desc r j c hr.2 (by simpa using h)
    have hm : c ∈ r := List.mem_of_getElem? (by simpa using h)
    have hx := hr.1 c hm
    rw [ge_cons, ge_cons, if_pos (by omega)]
    by_cases q : c + 1 ≤ x
    · rw [if_pos q]; omega
    · rw [if_neg q]; omega
abbrev PI2 := List (Int × Int)
def kvI (ps : PI2) : List (Key × V) := ps.map fun p => ((Sum.inl p.1 : Key), V.int p.2)
def inR (n : Int) (ps : PI2) : List Int := (ps.filter fun p => decide (0 ≤ p.1) && decide (p.1 < n)).map (·.2)
theorem kvI_len (ps : PI2) : (kvI ps).length = ps.length := List.length_map _
theorem kvI_app (a b : PI2) : kvI (a ++ b) = kvI a ++ kvI b := List.map_append
theorem kvI_at {ps : PI2} {i : Nat} {k : Key} {x : V} (h : (kvI ps)[i]? = some (k, x)) : ∃ p, ps[i]? = some p ∧ k = Sum.inl p.1 ∧ x = V.int p.2 := by
  unfold kvI at h
  rw [List.getElem?_map] at h
  cases e : ps[i]? with
  | none => rw [e] at h; cases h
  | some p =>
    rw [e] at h
    have q := Option.some.inj h
    exact ⟨p, rfl, (congrArg Prod.fst q).symm, (congrArg Prod.snd q).symm⟩
theorem kvI_none (k : Int) : ∀ ps : PI2, (∀ p ∈ ps, p.1 ≠ k) → valV (kvI ps) (Sum.inl k) = none
  | [], _ => rfl
  | p :: r, h => by
    show valV ((Sum.inl p.1, V.int p.2) :: kvI r) (Sum.inl k : Key) = none
    rw [valV_neg (fun e => h p List.mem_cons_self (Sum.inl.inj e))]
    exact kvI_none k r fun q hq => h q (List.mem_cons_of_mem _ hq)
theorem kvI_some : ∀ (ps : PI2) (i : Nat) (p : Int × Int), (ps.map (·.1)).Nodup → ps[i]? = some p → valV (kvI ps) (Sum.inl p.1) = some (V.int p.2)
  | [], i, p, _, h => by simp at h
  | q :: r, 0, p, _, h => by
    have e : q = p := by simpa using h
    subst e
    exact valV_pos (p := ((Sum.inl q.1 : Key), V.int q.2)) rfl
  | q :: r, i + 1, p, hn, h => by
    have h' : r[i]? = some p := by simpa using h
    have hn' := List.nodup_cons.mp hn
    have hne : ¬ (Sum.inl q.1 : Key) = Sum.inl p.1 := fun e => hn'.1 (by
      show q.1 ∈ _
      rw [Sum.inl.inj e]
      exact List.mem_map.mpr ⟨p, List.mem_of_getElem? h', rfl⟩)
    show valV ((Sum.inl q.1, V.int q.2) :: kvI r) (Sum.inl p.1 : Key) = _
    rw [valV_neg hne]
    exact kvI_some r i p hn'.2 h'
theorem inR_app (n : Int) (a b : PI2) : inR n (a ++ b) = inR n a ++ inR n b := by
  unfold inR
  rw [List.filter_append, List.map_append]
theorem inR_in {n k v : Int} (h0 : 0 ≤ k) (h1 : k < n) : inR n [(k, v)] = [v] := by
  unfold inR
  simp [h0, h1]
theorem inR_out {n k v : Int} (h : ¬ (0 ≤ k ∧ k < n)) : inR n [(k, v)] = [] := by
  unfold inR
  by_cases h0 : 0 ≤ k
  · have : ¬ k < n := fun z => h ⟨h0, z⟩
    simp [h0, this]
  · simp [h0]
/-- the commit point, told by what it is -/
def CP (ps : PI2) (n c : Int) : Prop :=
  (((inR n ps).length : Int) < n / 2 + 1 ∧ c = 0) ∨ (n / 2 + 1 ≤ ((inR n ps).length : Int) ∧ ∃ ns' : List Int, ns'.Perm (inR n ps) ∧ ns'.Pairwise (· ≥ ·) ∧ ns'[(n / 2).toNat]? = some c)
/-- what the loop over the journals keeps -/
structure Inv22 (ps : PI2) (L : List Int) (i : Nat) (n : Int) : Prop where
  sz : ps.length ≤ i
  ks : ∀ p ∈ ps, p.1 < (i : Int) - 1 ∧ 0 ≤ p.2
  nd : (ps.map (·.1)).Nodup
  ln : (L.length : Int) = n
  zs : ∀ j : Nat, (j : Int) < n → (i : Int) - 1 ≤ j → L[j]? = some 0
  nn : ∀ x ∈ L, 0 ≤ x
  ct : ∀ t : Int, 1 ≤ t → ge t L = ge t (inR n ps)
  ir : ∀ x ∈ inR n ps, 0 ≤ x
theorem Inv22.start {n : Int} (h : 0 ≤ n) : Inv22 [] (List.replicate n.toNat 0) 0 n where
  sz := Nat.le_refl _
  ks := fun p hp => nomatch hp
  nd := List.nodup_nil
  ln := by rw [List.length_replicate]; omega
  zs := fun j hj _ => by rw [List.getElem?_replicate, if_pos (by omega)]
  nn := fun x hx => by rw [(List.mem_replicate.mp hx).2]; exact Int.le_refl _
  ct := fun t ht => ge_none t _ fun x hx => by rw [(List.mem_replicate.mp hx).2]; omega
  ir := fun x hx => nomatch hx
theorem Inv22.skip {ps : PI2} {L : List Int} {i : Nat} {n : Int} (h : Inv22 ps L i n) : Inv22 ps L (i + 1) n :=
  ⟨Nat.le_succ_of_le h.sz, fun p hp => ⟨by have := (h.ks p hp).1; omega, (h.ks p hp).2⟩, h.nd, h.ln, fun j h1 h2 => h.zs j h1 (by omega), h.nn, h.ct, h.ir⟩
theorem Inv22.nd' {ps : PI2} {L : List Int} {i : Nat} {n : Int} (h : Inv22 ps L i n) (v : Int) : ((ps ++ [((i : Int) - 1, v)]).map (·.1)).Nodup := by
  rw [List.map_append, List.nodup_append]
  refine ⟨h.nd, by simp, fun a ha b hb => ?_⟩
  obtain ⟨p, hp, rfl⟩ := List.mem_map.mp ha
  have e : b = (i : Int) - 1 := by simpa using hb
  have := (h.ks p hp).1
  omega
theorem Inv22.out {ps : PI2} {L : List Int} {i : Nat} {n v : Int} (h : Inv22 ps L i n) (hv : 0 ≤ v) (hk : ¬ (0 ≤ (i : Int) - 1 ∧ (i : Int) - 1 < n)) : Inv22 (ps ++ [((i : Int) - 1, v)]) L (i + 1) n := by
  have e : inR n (ps ++ [((i : Int) - 1, v)]) = inR n ps := by rw [inR_app, inR_out hk, List.append_nil]
  refine ⟨by rw [List.length_append, List.length_singleton]; have := h.sz; omega, fun p hp => ?_, h.nd' v, h.ln, fun j h1 h2 => h.zs j h1 (by omega), h.nn, fun t ht => by rw [e]; exact h.ct t ht, by rw [e]; exact h.ir⟩
  rcases List.mem_append.mp hp with q | q
  · exact ⟨by have := (h.ks p q).1; omega, (h.ks p q).2⟩
  · rw [List.mem_singleton.mp q]; exact ⟨by show (i : Int) - 1 < _; omega, hv⟩
theorem Inv22.into {ps : PI2} {L : List Int} {i : Nat} {n v : Int} (h : Inv22 ps L i n) (hv : 0 ≤ v) (h0 : 0 ≤ (i : Int) - 1) (h1 : (i : Int) - 1 < n) : Inv22 (ps ++ [((i : Int) - 1, v)]) (L.set (i - 1) v) (i + 1) n := by
  have e : inR n (ps ++ [((i : Int) - 1, v)]) = inR n ps ++ [v] := by rw [inR_app, inR_in h0 h1]
  have hz := h.zs (i - 1) (by omega) (by omega)
  refine ⟨by rw [List.length_append, List.length_singleton]; have := h.sz; omega, fun p hp => ?_, h.nd' v, by rw [List.length_set]; exact h.ln, fun j h2 h3 => ?_, fun x hx => ?_, fun t ht => ?_, fun x hx => ?_⟩
  · rcases List.mem_append.mp hp with q | q
    · exact ⟨by have := (h.ks p q).1; omega, (h.ks p q).2⟩
    · rw [List.mem_singleton.mp q]; exact ⟨by show (i : Int) - 1 < _; omega, hv⟩
  · rw [List.getElem?_set_ne (by omega)]
    exact h.zs j h2 (by omega)
  · rcases List.mem_or_eq_of_mem_set hx with q | q
    · exact h.nn x q
    · rw [q]; exact hv
  · rw [e, ge_app, ge_set t ht v L (i - 1) hz, h.ct t ht, ge_cons, ge_nil, Nat.zero_add]
  · rw [e] at hx
    rcases List.mem_append.mp hx with q | q
    · exact h.ir x q
    · rw [List.mem_singleton.mp q]; exact hv
theorem cp_nn {ps : PI2} {L : List Int} {i : Nat} {n c : Int} (h : Inv22 ps L i n) (hc : CP ps n c) : 0 ≤ c := by
  rcases hc with ⟨_, e⟩ | ⟨_, ns', hp, _, he⟩
  · omega
  · exact h.ir c (hp.mem_iff.mp (List.mem_of_getElem? he))
theorem cp_yes {ps : PI2} {L : List Int} {i : Nat} {n c : Int} (h : Inv22 ps L i n) (hn : 1 ≤ n) (hc : CP ps n c) : ¬ 2 * (ge c L : Int) ≤ n := by
  have hl := h.ln
  rcases hc with ⟨_, e⟩ | ⟨h1, ns', hp, hd, he⟩
  · rw [e, ge_all 0 L h.nn]; omega
  · by_cases h0 : 1 ≤ c
    · have q := (ge_desc ns' _ c hd he).1
      rw [ge_perm c hp, ← h.ct c h0] at q
      omega
    · rw [ge_all c L (fun x hx => by have := h.nn x hx; omega)]; omega
theorem cp_no {ps : PI2} {L : List Int} {i : Nat} {n c : Int} (h : Inv22 ps L i n) (hn : 1 ≤ n) (hc : CP ps n c) : 2 * (ge (c + 1) L : Int) ≤ n := by
  have h0 := cp_nn h hc
  rcases hc with ⟨h1, e⟩ | ⟨h1, ns', hp, hd, he⟩
  · rw [h.ct (c + 1) (by omega)]
    have := ge_le (c + 1) (inR n ps)
    omega
  · have q := (ge_desc ns' _ c hd he).2
    rw [ge_perm (c + 1) hp, ← h.ct (c + 1) (by omega)] at q
    omega
theorem repl_flat (n : Nat) : (List.replicate n [V.int 0]).flatten = (List.replicate n (0 : Int)).map V.int := by
  induction n with
  | zero => rfl
  | succ k ih => rw [List.replicate_succ, List.flatten_cons, ih, List.replicate_succ, List.map_cons]; rfl

local macro_rules | `(tactic| walk_at "sq") => `(tactic| first | assumption | (refine Evl.ex_l (by assumption) ?_; walk_at "sq"))
local macro_rules | `(tactic| walk_at "st") => `(tactic| first | assumption | (refine Evl.ex_t (by assumption) ?_; walk_at "st"))
local macro_rules | `(tactic| walk_at "ev") => `(tactic| (repeat' (first
  | (with_reducible first
    | exact ev_c
    | refine' ev_var ?_
    | exact ea_nil
    | refine' ea_cons ?_ ?_
    | refine' ev_op ?_ ?_ ?_
    | refine' ev_chain ?_ ?_ ?_ ?_ ?_
    | refine' ev_un ?_ ?_
    | exact rv_I0
    | refine' rv_I ?_
    | refine' ev_cb ?_ ?_
    | refine' ev_call ?_ ?_
    | exact rc_int
    | exact rc_max2
    | exact rc_min2
    | exact ru_neg
    | exact rc_isiI
    | exact rc_isiIB
    | exact rc_isiB
    | exact rc_isiBI
    | exact rv_eqI
    | exact rv_neI
    | refine' et_test ?_
    | refine' et_B ?_)
  | ((with_reducible show _ = _); rfl)
  | ((with_reducible show SqL _ _ _ _); walk_at "sq")
  | ((with_reducible show SqT _ _ _ _); walk_at "st")
  | ((with_reducible show CPow _ _); exact ⟨by decide, by decide, by decide⟩)
  | ((with_reducible show CDiv _ _); first | exact ⟨by decide, by decide⟩ | exact ⟨by omega, by omega⟩)
  | ((with_reducible show CMul _ _); first | exact .inr (by decide) | exact .inl (by decide) | exact .inr ⟨by omega, by omega⟩ | exact .inl ⟨by omega, by omega⟩)
  | ((with_reducible show SpV (spDraw _) _ _ _); refine' spDrawI ?_ ?_)
  | ((with_reducible show SpV _ _ _ _); walk_at "sp")
  | ((with_reducible show RC _ _ _ _); refine' rc_len ?_)
  | ((with_reducible show RV _ _ _ _ _); first | exact rv_eq rfl | exact rv_ne rfl | (refine' rv_ixL ?hq ?eq; (case hq => walk_at "sq"); (case eq => rfl)))
  | ((with_reducible show _ ≤ _); first | decide | omega)
  | ((with_reducible show _ < _); first | decide | omega)
  | decide)))
local macro_rules | `(tactic| walk_at "bo") => `(tactic| first | rfl | exact decide_eq_true (by omega) | exact decide_eq_false (by omega) | (rw [decide_eq_true (by omega)]; done) | (rw [decide_eq_false (by omega)]; done) | (simp; omega) | (simp; done))
local macro_rules | `(tactic| walk_at "tf") => `(tactic| first
  | ((with_reducible refine' et_orF ?_ ?_) <;> walk_at "tf")
  | ((with_reducible refine' et_andT ?_ ?_) <;> walk_at "tf")
  | ((with_reducible refine' et_nt ?_) <;> walk_at "tf")
  | ((with_reducible refine' et_nf ?_) <;> walk_at "tf")
  | (refine' et_is ?c ?d; (case c => walk_at "ev"); (case d => walk_at "bo")))
local macro_rules | `(tactic| walk_at "vt") => `(tactic| first
  | ((with_reducible refine' ev_andT ?_ ?_) <;> walk_at "vt")
  | ((with_reducible refine' ev_orF ?_ ?_) <;> walk_at "vt")
  | ((with_reducible refine' ev_nt ?_) <;> walk_at "vt")
  | ((with_reducible refine' ev_nf ?_) <;> walk_at "vt")
  | (refine' ev_is ?c ?d; (case c => walk_at "ev"); (case d => first | rfl | (refine congrArg V.bl ?_; walk_at "bo"))))

def topS (i : Nat) : Stmt := PySem.Challenge.pw_appendhall_k50_lengths_told_and_commit_p.main.body.getD i (.Pass ⟨0, 0, 0, 0⟩)
abbrev s__wall : Stmt := topS 0
abbrev N__wall : List Str := ["k"]
theorem sc__wall : FnScope N__wall ["k"] (defScope s__wall) := ⟨rfl, rfl, rfl, by decide +kernel, rfl, by decide +kernel, by decide +kernel⟩
abbrev s_majority : Stmt := topS 6
abbrev N_majority : List Str := ["count"]
theorem sc_majority : FnScope N_majority ["count"] (defScope s_majority) := ⟨rfl, rfl, rfl, by decide +kernel, rfl, by decide +kernel, by decide +kernel⟩
abbrev s_has_majority : Stmt := topS 7
abbrev N_has_majority : List Str := ["members", "count", "member"]
theorem sc_has_majority : FnScope N_has_majority ["members", "count"] (defScope s_has_majority) := ⟨rfl, rfl, rfl, by decide +kernel, rfl, by decide +kernel, by decide +kernel⟩
abbrev s_commit_point : Stmt := topS 8
abbrev N_commit_point : List Str := ["matched", "count", "lengths", "journal", "needed"]
theorem sc_commit_point : FnScope N_commit_point ["matched", "count"] (defScope s_commit_point) := ⟨rfl, rfl, rfl, by decide +kernel, rfl, by decide +kernel, by decide +kernel⟩
abbrev s_Replication___init__ : Stmt := inClass (topS 11) 0
abbrev N_Replication___init__ : List Str := ["self", "epoch", "log", "journals"]
theorem sc_Replication___init__ : FnScope N_Replication___init__ ["self", "epoch", "log", "journals"] (defScope s_Replication___init__) := ⟨rfl, rfl, rfl, by decide +kernel, rfl, by decide +kernel, by decide +kernel⟩
abbrev s_Replication_log : Stmt := inClass (topS 11) 1
abbrev N_Replication_log : List Str := ["self"]
theorem sc_Replication_log : FnScope N_Replication_log ["self"] (defScope s_Replication_log) := ⟨rfl, rfl, rfl, by decide +kernel, rfl, by decide +kernel, by decide +kernel⟩
abbrev s_Replication_note : Stmt := inClass (topS 11) 2
abbrev N_Replication_note : List Str := ["self", "journal", "length", "told"]
theorem sc_Replication_note : FnScope N_Replication_note ["self", "journal", "length"] (defScope s_Replication_note) := ⟨rfl, rfl, rfl, by decide +kernel, rfl, by decide +kernel, by decide +kernel⟩
abbrev s_Replication_matched : Stmt := inClass (topS 11) 3
abbrev N_Replication_matched : List Str := ["self", "journal"]
theorem sc_Replication_matched : FnScope N_Replication_matched ["self", "journal"] (defScope s_Replication_matched) := ⟨rfl, rfl, rfl, by decide +kernel, rfl, by decide +kernel, by decide +kernel⟩
abbrev s_Replication_synced : Stmt := inClass (topS 11) 4
abbrev N_Replication_synced : List Str := ["self"]
theorem sc_Replication_synced : FnScope N_Replication_synced ["self"] (defScope s_Replication_synced) := ⟨rfl, rfl, rfl, by decide +kernel, rfl, by decide +kernel, by decide +kernel⟩
abbrev s_Replication_commit_point : Stmt := inClass (topS 11) 5
abbrev N_Replication_commit_point : List Str := ["self"]
theorem sc_Replication_commit_point : FnScope N_Replication_commit_point ["self"] (defScope s_Replication_commit_point) := ⟨rfl, rfl, rfl, by decide +kernel, rfl, by decide +kernel, by decide +kernel⟩
abbrev s_Replication_put : Stmt := inClass (topS 11) 6
abbrev N_Replication_put : List Str := ["self", "record"]
theorem sc_Replication_put : FnScope N_Replication_put ["self", "record"] (defScope s_Replication_put) := ⟨rfl, rfl, rfl, by decide +kernel, rfl, by decide +kernel, by decide +kernel⟩
abbrev s_Replication_cut : Stmt := inClass (topS 11) 7
abbrev N_Replication_cut : List Str := ["self", "number", "image"]
theorem sc_Replication_cut : FnScope N_Replication_cut ["self", "number", "image"] (defScope s_Replication_cut) := ⟨rfl, rfl, rfl, by decide +kernel, rfl, by decide +kernel, by decide +kernel⟩
abbrev s_Replication_sync_body : Stmt := inClass (topS 11) 8
abbrev N_Replication_sync_body : List Str := ["self"]
theorem sc_Replication_sync_body : FnScope N_Replication_sync_body ["self"] (defScope s_Replication_sync_body) := ⟨rfl, rfl, rfl, by decide +kernel, rfl, by decide +kernel, by decide +kernel⟩
abbrev s_Replication_missing : Stmt := inClass (topS 11) 9
abbrev N_Replication_missing : List Str := ["self", "journal", "told"]
theorem sc_Replication_missing : FnScope N_Replication_missing ["self", "journal"] (defScope s_Replication_missing) := ⟨rfl, rfl, rfl, by decide +kernel, rfl, by decide +kernel, by decide +kernel⟩
abbrev s_Log___init__ : Stmt := inClass (topS 13) 0
abbrev N_Log___init__ : List Str := ["self", "base", "image", "records"]
theorem sc_Log___init__ : FnScope N_Log___init__ ["self", "base", "image", "records"] (defScope s_Log___init__) := ⟨rfl, rfl, rfl, by decide +kernel, rfl, by decide +kernel, by decide +kernel⟩
abbrev s_Log_length : Stmt := inClass (topS 13) 1
abbrev N_Log_length : List Str := ["self"]
theorem sc_Log_length : FnScope N_Log_length ["self"] (defScope s_Log_length) := ⟨rfl, rfl, rfl, by decide +kernel, rfl, by decide +kernel, by decide +kernel⟩
abbrev s_Log___len__ : Stmt := inClass (topS 13) 2
abbrev N_Log___len__ : List Str := ["self"]
theorem sc_Log___len__ : FnScope N_Log___len__ ["self"] (defScope s_Log___len__) := ⟨rfl, rfl, rfl, by decide +kernel, rfl, by decide +kernel, by decide +kernel⟩
abbrev s_Log___iter__ : Stmt := inClass (topS 13) 3
abbrev N_Log___iter__ : List Str := ["self"]
theorem sc_Log___iter__ : FnScope N_Log___iter__ ["self"] (defScope s_Log___iter__) := ⟨rfl, rfl, rfl, by decide +kernel, rfl, by decide +kernel, by decide +kernel⟩
abbrev s_Log_record : Stmt := inClass (topS 13) 4
abbrev N_Log_record : List Str := ["self", "number"]
theorem sc_Log_record : FnScope N_Log_record ["self", "number"] (defScope s_Log_record) := ⟨rfl, rfl, rfl, by decide +kernel, rfl, by decide +kernel, by decide +kernel⟩
abbrev s_Log_after : Stmt := inClass (topS 13) 5
abbrev N_Log_after : List Str := ["self", "number"]
theorem sc_Log_after : FnScope N_Log_after ["self", "number"] (defScope s_Log_after) := ⟨rfl, rfl, rfl, by decide +kernel, rfl, by decide +kernel, by decide +kernel⟩
abbrev s_Log_with_record : Stmt := inClass (topS 13) 6
abbrev N_Log_with_record : List Str := ["self", "record"]
theorem sc_Log_with_record : FnScope N_Log_with_record ["self", "record"] (defScope s_Log_with_record) := ⟨rfl, rfl, rfl, by decide +kernel, rfl, by decide +kernel, by decide +kernel⟩
abbrev s_Log_joined : Stmt := inClass (topS 13) 7
abbrev N_Log_joined : List Str := ["self", "first", "records"]
theorem sc_Log_joined : FnScope N_Log_joined ["self", "first", "records"] (defScope s_Log_joined) := ⟨rfl, rfl, rfl, by decide +kernel, rfl, by decide +kernel, by decide +kernel⟩
abbrev s_Log_cut : Stmt := inClass (topS 13) 8
abbrev N_Log_cut : List Str := ["self", "number", "image"]
theorem sc_Log_cut : FnScope N_Log_cut ["self", "number", "image"] (defScope s_Log_cut) := ⟨rfl, rfl, rfl, by decide +kernel, rfl, by decide +kernel, by decide +kernel⟩
abbrev s_Log_agrees : Stmt := inClass (topS 13) 9
abbrev N_Log_agrees : List Str := ["self", "other"]
theorem sc_Log_agrees : FnScope N_Log_agrees ["self", "other"] (defScope s_Log_agrees) := ⟨rfl, rfl, rfl, by decide +kernel, rfl, by decide +kernel, by decide +kernel⟩
abbrev s_Log_value : Stmt := inClass (topS 13) 10
abbrev N_Log_value : List Str := ["self"]
theorem sc_Log_value : FnScope N_Log_value ["self"] (defScope s_Log_value) := ⟨rfl, rfl, rfl, by decide +kernel, rfl, by decide +kernel, by decide +kernel⟩
abbrev s_Log_from_value : Stmt := inClass (topS 13) 11
abbrev N_Log_from_value : List Str := ["value"]
theorem sc_Log_from_value : FnScope N_Log_from_value ["value"] (defScope s_Log_from_value) := ⟨rfl, rfl, rfl, by decide +kernel, rfl, by decide +kernel, by decide +kernel⟩
abbrev s_Log__between : Stmt := inClass (topS 13) 12
abbrev N_Log__between : List Str := ["self", "low", "high"]
theorem sc_Log__between : FnScope N_Log__between ["self", "low", "high"] (defScope s_Log__between) := ⟨rfl, rfl, rfl, by decide +kernel, rfl, by decide +kernel, by decide +kernel⟩
abbrev s__law_stream : Stmt := topS 15
abbrev N__law_stream : List Str := ["script", "many", "draws", "cell", "rest", "k", "mixed"]
theorem sc__law_stream : FnScope N__law_stream ["script", "many"] (defScope s__law_stream) := ⟨rfl, rfl, rfl, by decide +kernel, rfl, by decide +kernel, by decide +kernel⟩
abbrev s__law_draw : Stmt := topS 16
abbrev N__law_draw : List Str := ["draws", "k"]
theorem sc__law_draw : FnScope N__law_draw ["draws", "k"] (defScope s__law_draw) := ⟨rfl, rfl, rfl, by decide +kernel, rfl, by decide +kernel, by decide +kernel⟩
abbrev s__law_same : Stmt := topS 17
abbrev N__law_same : List Str := ["actual", "due", "k"]
theorem sc__law_same : FnScope N__law_same ["actual", "due"] (defScope s__law_same) := ⟨rfl, rfl, rfl, by decide +kernel, rfl, by decide +kernel, by decide +kernel⟩
abbrev s__law_record : Stmt := topS 18
abbrev N__law_record : List Str := ["number", "draw", "texts", "deeds"]
theorem sc__law_record : FnScope N__law_record ["number", "draw"] (defScope s__law_record) := ⟨rfl, rfl, rfl, by decide +kernel, rfl, by decide +kernel, by decide +kernel⟩
abbrev s__law_missing : Stmt := topS 19
abbrev N__law_missing : List Str := ["epoch", "log", "told"]
theorem sc__law_missing : FnScope N__law_missing ["epoch", "log", "told"] (defScope s__law_missing) := ⟨rfl, rfl, rfl, by decide +kernel, rfl, by decide +kernel, by decide +kernel⟩
abbrev s__law_reached : Stmt := topS 20
abbrev N__law_reached : List Str := ["told", "count", "number", "k"]
theorem sc__law_reached : FnScope N__law_reached ["told", "count", "number"] (defScope s__law_reached) := ⟨rfl, rfl, rfl, by decide +kernel, rfl, by decide +kernel, by decide +kernel⟩
abbrev s__law_holds : Stmt := topS 21
abbrev N__law_holds : List Str := ["replication", "epoch", "count", "log", "told", "k", "point"]
theorem sc__law_holds : FnScope N__law_holds ["replication", "epoch", "count", "log", "told"] (defScope s__law_holds) := ⟨rfl, rfl, rfl, by decide +kernel, rfl, by decide +kernel, by decide +kernel⟩
abbrev s__law_cut : Stmt := topS 22
abbrev N__law_cut : List Str := ["replication", "number", "image", "e"]
theorem sc__law_cut : FnScope N__law_cut ["replication", "number", "image"] (defScope s__law_cut) := ⟨rfl, rfl, rfl, by decide +kernel, rfl, by decide +kernel, by decide +kernel⟩
abbrev s__law_noted : Stmt := topS 23
abbrev N__law_noted : List Str := ["replication", "told", "journal", "length"]
theorem sc__law_noted : FnScope N__law_noted ["replication", "told", "journal", "length"] (defScope s__law_noted) := ⟨rfl, rfl, rfl, by decide +kernel, rfl, by decide +kernel, by decide +kernel⟩
abbrev s_law : Stmt := topS 24
abbrev N_law : List Str := ["script", "draws", "count", "base", "epoch", "records", "k", "log", "replication", "told", "step", "draw", "more", "kind", "length", "number", "record", "body"]
theorem sc_law : FnScope N_law ["script"] (defScope s_law) := ⟨rfl, rfl, rfl, by decide +kernel, rfl, by decide +kernel, by decide +kernel⟩
/-! ### tables of integers -/
def lkI (ps : PI2) (k : Int) : Option Int := (ps.find? fun p => decide (p.1 = k)).map (·.2)
def putI (ps : PI2) (k v : Int) : PI2 := if (ps.any fun p => decide (p.1 = k)) = true then ps.map (fun p => if p.1 = k then (p.1, v) else p) else ps ++ [(k, v)]
def vO : Option Int → V
  | none => .non
  | some i => .int i
def dO : Option Int → PyData
  | none => .none
  | some i => .int i
theorem lkI_cons (p : Int × Int) (r : PI2) (k : Int) : lkI (p :: r) k = if p.1 = k then some p.2 else lkI r k := by
  unfold lkI
  rw [List.find?_cons]
  by_cases h : p.1 = k
  · rw [if_pos h, decide_eq_true h]
    rfl
  · rw [if_neg h, decide_eq_false h]
theorem kvI_lk (k : Int) : ∀ ps : PI2, valV (kvI ps) (Sum.inl k) = (lkI ps k).map V.int
  | [] => rfl
  | p :: r => by
    show valV ((Sum.inl p.1, V.int p.2) :: kvI r) (Sum.inl k : Key) = _
    rw [lkI_cons]
    by_cases h : p.1 = k
    · rw [if_pos h, valV_pos (p := ((Sum.inl p.1 : Key), V.int p.2)) (by rw [h])]
      rfl
    · rw [if_neg h, valV_neg (fun e => h (Sum.inl.inj e))]
      exact kvI_lk k r
theorem kvI_put (ps : PI2) (k v : Int) : putK (kvI ps) (Sum.inl k) (.int v) = kvI (putI ps k v) := by
  unfold putK putI
  have e1 : ((kvI ps).any fun kv => decide (kv.1 = (Sum.inl k : Key))) = ps.any fun p => decide (p.1 = k) := by
    unfold kvI
    rw [List.any_map]
    refine congrArg (fun f => ps.any f) (funext fun p => ?_)
    show decide ((Sum.inl p.1 : Key) = Sum.inl k) = decide (p.1 = k)
    by_cases h : p.1 = k
    · rw [decide_eq_true h, decide_eq_true (by rw [h])]
    · rw [decide_eq_false h, decide_eq_false fun e => h (Sum.inl.inj e)]
  rw [e1]
  split
  · unfold kvI
    rw [List.map_map, List.map_map]
    refine List.map_congr_left fun p _ => ?_
    show (if ((Sum.inl p.1 : Key) = Sum.inl k) then _ else _) = _
    by_cases h : p.1 = k
    · rw [if_pos (by rw [h])]
      show _ = ((Sum.inl (if p.1 = k then (p.1, v) else p).1 : Key), V.int (if p.1 = k then (p.1, v) else p).2)
      rw [if_pos h]
    · rw [if_neg fun e => h (Sum.inl.inj e)]
      show _ = ((Sum.inl (if p.1 = k then (p.1, v) else p).1 : Key), V.int (if p.1 = k then (p.1, v) else p).2)
      rw [if_neg h]
  · rw [kvI_app]
    rfl
theorem putI_keys (ps : PI2) (k v : Int) : (putI ps k v).map (·.1) = if (ps.any fun p => decide (p.1 = k)) = true then ps.map (·.1) else ps.map (·.1) ++ [k] := by
  unfold putI
  split
  · rw [List.map_map]
    refine List.map_congr_left fun p _ => ?_
    show (if p.1 = k then (p.1, v) else p).1 = p.1
    split <;> rfl
  · rw [List.map_append]
    rfl
theorem any_mem {ps : PI2} {k : Int} : (ps.any fun p => decide (p.1 = k)) = true ↔ k ∈ ps.map (·.1) := by
  rw [List.any_eq_true, List.mem_map]
  constructor
  · rintro ⟨p, hp, h⟩
    exact ⟨p, hp, of_decide_eq_true h⟩
  · rintro ⟨p, hp, h⟩
    exact ⟨p, hp, decide_eq_true h⟩
theorem putI_nd {ps : PI2} {k v : Int} (h : (ps.map (·.1)).Nodup) : ((putI ps k v).map (·.1)).Nodup := by
  rw [putI_keys]
  split
  · exact h
  · rename_i q
    exact nd_snoc h fun m => q (any_mem.mpr m)
theorem putI_mem {ps : PI2} {k v : Int} {p : Int × Int} (h : p ∈ putI ps k v) : p = (k, v) ∨ p ∈ ps := by
  unfold putI at h
  split at h
  · obtain ⟨q, hq, e⟩ := List.mem_map.mp h
    split at e
    · rename_i z
      exact .inl (by rw [← e, z])
    · exact .inr (e ▸ hq)
  · rcases List.mem_append.mp h with h | h
    · exact .inr h
    · exact .inl (List.mem_singleton.mp h)
theorem putI_len (ps : PI2) (k v : Int) : (putI ps k v).length ≤ ps.length + 1 := by
  unfold putI
  split
  · rw [List.length_map]
    omega
  · rw [List.length_append, List.length_singleton]
    omega
theorem lkI_mem {k i : Int} : ∀ {ps : PI2}, lkI ps k = some i → (k, i) ∈ ps
  | [], h => nomatch h
  | p :: r, h => by
    rw [lkI_cons] at h
    split at h
    · rename_i q
      cases h
      rw [← q]
      exact List.mem_cons_self
    · exact List.mem_cons_of_mem _ (lkI_mem h)
theorem putI_same {k i : Int} : ∀ {ps : PI2}, (ps.map (·.1)).Nodup → lkI ps k = some i → putI ps k i = ps := by
  intro ps nd h
  have hm := lkI_mem h
  unfold putI
  rw [if_pos (any_mem.mpr (List.mem_map.mpr ⟨_, hm, rfl⟩))]
  clear h
  induction ps with
  | nil => rfl
  | cons p r ih =>
    have nd' := List.nodup_cons.mp nd
    rw [List.map_cons]
    rcases List.mem_cons.mp hm with e | hm'
    · subst e
      rw [if_pos rfl]
      congr 1
      refine (List.map_congr_left fun q hq => ?_).trans (List.map_id _)
      rw [if_neg fun e => nd'.1 (List.mem_map.mpr ⟨q, hq, e⟩)]
      rfl
    · rw [if_neg fun e => nd'.1 (List.mem_map.mpr ⟨_, hm', e.symm⟩), ih nd'.2 hm']
theorem dp_vO {K : PySem.W.Frag} {H : Hp} (o : Option Int) : Dp K H (vO o) (dO o) := match o with
  | none => .non
  | some i => .int i
section
variable {K : PySem.W.Frag} {σ : L2.St} {H : Hp} {td ty tx : TE} {a : Addr} {ps : PI2} {k z : Int}
theorem ev_get1I (hd : Ev td σ H (.ref a)) (hy : Ev ty σ H (.int k)) (h : H a = some (.dK (kvI ps))) : Ev (tDGet1 td ty) σ H (vO (lkI ps k)) := fun H1 e Q q => hd H1 e _ fun H2 e2 => ⟨a, rfl, .inl ⟨_, .inl ((e.trans e2) _ _ h)⟩, hy H2 (e.trans e2) _ fun H3 e3 => ⟨(lkI ps k).map V.int, .inl ⟨_, Sum.inl k, .inl (((e.trans e2).trans e3) _ _ h), rfl, (kvI_lk k ps).symm⟩, by
  have g := q H3 (e2.trans e3)
  cases hl : lkI ps k with
  | none => rw [hl] at g; exact g
  | some i => rw [hl] at g; exact g⟩⟩
theorem ev_get2I {x : V} (hd : Ev td σ H (.ref a)) (hy : Ev ty σ H (.int k)) (hx : Ev tx σ H x) (h : H a = some (.dK (kvI ps))) : Ev (tDGet2 td ty tx) σ H (((lkI ps k).map V.int).getD x) := fun H1 e Q q => hd H1 e _ fun H2 e2 => ⟨a, rfl, .inl ⟨_, .inl ((e.trans e2) _ _ h)⟩, hy H2 (e.trans e2) _ fun H3 e3 => hx H3 ((e.trans e2).trans e3) _ fun H4 e4 => ⟨(lkI ps k).map V.int, .inl ⟨_, Sum.inl k, .inl ((((e.trans e2).trans e3).trans e4) _ _ h), rfl, (kvI_lk k ps).symm⟩, q H4 ((e2.trans e3).trans e4)⟩⟩
theorem getD_non (o : Option Int) : (o.map V.int).getD .non = vO o := by cases o <;> rfl
theorem getD_int (o : Option Int) (z : Int) : (o.map V.int).getD (.int z) = .int (o.getD z) := by cases o <;> rfl
end

theorem q_seqJ {σ : L2.St} {H : Hp} {D : Ends} {ts tz : TS} (C : L2.St → Hp → Prop) (h : ∀ nx' : L2.St → Hp → Prop, (∀ σ1 H1, C σ1 H1 → nx' σ1 H1) → ts { D with nx := nx' } σ H) (k : ∀ σ1 H1, C σ1 H1 → tz D σ1 H1) : tSeq ts tz D σ H := h (tz D) k

section
variable {P : Program} {w : World} {K : PySem.W.Frag} {mg : Str → Option Value} {base : Heap}
structure Glo (mg : Str → Option Value) : Prop where
  len : mg "len" = none
  int : mg "int" = none
  range : mg "range" = none
  max : mg "max" = none
  min : mg "min" = none
  isinstance : mg "isinstance" = none
  bool : mg "bool" = none
  tuple : mg "tuple" = none
  list : mg "list" = none
  str : mg "str" = none
  sorted : mg "sorted" = none
  ValueError : mg "ValueError" = none
theorem ok_draw {f : Addr} {fd : FuncData} {k : Nat} (F : Fun K "_law_draw" "_law_draw" s__law_draw f fd) (T : Glo mg) : FnOk P w K mg base CX0 (k + 1) f fd ["draws", "k"] (spDraw K) := by
  refine F.ok sc__law_draw (fun vs H Q E h => ?_) (fun cdv A outer s H vs Q E hr h => ?_)
  · obtain ⟨a, ds, k, rfl, _⟩ := h
    rfl
  · obtain ⟨a, ds, k, rfl, hS, q⟩ := h
    refine ⟨_, (pss_cons (ps_if (pt_cmpR op_lt (pv 1) (pe_callB call_len_seq (by rfl) T.len PySem.boot_len (pa_cons (pv 0) pa_nil)) (nomark _))
  (pss_one (ps_ret (pe_ix ix_list (pv 0) (pv 1) (fun _ _ => rfl))))
  pss_nil)
  (pss_one (ps_ret pe_int))), ?_⟩
    refine' q_when ?c (fun hb H1 e1 => ?_) (fun hb H1 e1 => ?_)
    case c => walk_at "ev"
    · have hb := of_decide_eq_true hb
      rw [List.length_map] at hb
      have hk : k < ds.length := by omega
      refine s_ret (v := .int (drw ds k)) (ev_op (ev_var rfl) (ev_var rfl) (rv_ixL (ex_l e1 hS) ?_)) fun H2 e2 => q _ (e1.trans e2)
      have e0 : (ds.map V.int)[k]? = some (.int (drw ds k)) := by
        rw [List.getElem?_map, List.getElem?_eq_getElem hk]
        unfold drw
        rw [List.getD_eq_getElem?_getD, List.getElem?_eq_getElem hk]
        rfl
      exact atI_nat e0
    · have hb := of_decide_eq_false hb
      rw [List.length_map] at hb
      refine s_ret ev_c fun H2 e2 => ?_
      have e0 : drw ds k = 0 := by
        unfold drw
        rw [List.getD_eq_getElem?_getD, List.getElem?_eq_none (by omega)]
        rfl
      rw [← e0]
      exact q _ (e1.trans e2)


/-! the draws' list: what stands between two turns -/
def DW (H0 : Hp) (l : Addr) (m : Nat) (H' : Hp) : Prop := H0 l = none ∧ Ex H0 H' ∧ ∃ ds : List Int, H' l = some (.lst (ds.map V.int)) ∧ Dr ds ∧ ds.length ≤ m
theorem pow18 : (10 : Int) ^ (18 : Int).toNat = 1000000000000000000 := by decide
theorem DW.app {H0 H1 H2 : Hp} {l : Addr} {m : Nat} {ds : List Int} {d : Int} (n : H0 l = none) (e : Ex H0 H1) (D : Dr ds) (hl : ds.length ≤ m) (h0 : 0 ≤ d) (h1 : d < 5040) (e2 : Ex H1 H2) : DW H0 l (m + 1) (upd H2 l (.lst (ds.map V.int ++ [V.int d]))) :=
  ⟨n, Ex.mut (e.trans e2) n, ds ++ [d], by rw [upd_same, List.map_append]; rfl, D.app h0 h1, by rw [List.length_append, List.length_singleton]; omega⟩
theorem ok_stream {f : Addr} {fd : FuncData} {k : Nat} (F : Fun K "_law_stream" "_law_stream" s__law_stream f fd) (T : Glo mg) : FnOk P w K mg base CX0 (k + 1) f fd ["script", "many"] (spStream K) := by
  refine F.ok sc__law_stream (fun vs H Q E h => ?_) (fun cdv A outer s H vs Q E hr h => ?_)
  · obtain ⟨a, ns, m, rfl, _⟩ := h
    rfl
  · obtain ⟨a, ns, m, rfl, hS, hn, hm, q⟩ := h
    refine ⟨_, (pss_cons (ps_set (i := 2) sc__law_stream.nd rfl (.inl rfl) (pe_lst pa_nil))
  (pss_cons (ps_for PassesOwn.never rfl (pi_list (pv 0)) (pg_name (i := 3) sc__law_stream.nd rfl (.inl rfl))
  (pss_cons (ps_if (pt_cmpR op_ge (pe_callB call_len_seq (by rfl) T.len PySem.boot_len (pa_cons (pv 2) pa_nil)) (pv 1) (nomark _))
  (pss_one ps_break)
  pss_nil)
  (pss_one (ps_if (pt_cmpR op_ge (pv 3) (pe_op op_pow pe_int pe_int) (nomark _))
  (pss_cons (ps_set (i := 4) sc__law_stream.nd rfl (.inl rfl) (pv 3))
  (pss_one (ps_for PassesOwn.never rfl (pi_range1 (by rfl) T.range (pa_cons pe_int pa_nil)) (pg_name (i := 5) sc__law_stream.nd rfl (.inl rfl))
  (pss_one (ps_if (pt_cmpR op_gt (pv 4) pe_int (nomark _))
  (pss_cons (ps_expr (pe_bm PySem.F.plainAttrs_list PySem.F.slot_list_append PySem.F.type_list_append mt_append (pv 2) (pa_cons (pe_op op_mod (pe_callTy call_int1 (by rfl) T.int (by decide +kernel) (pa_cons (pv 4) pa_nil)) pe_int) pa_nil)))
  (pss_one (ps_set (i := 4) sc__law_stream.nd rfl (.inl rfl) (pe_op op_fdiv (pv 4) pe_int))))
  pss_nil)))))
  (pss_cons (ps_set (i := 6) sc__law_stream.nd rfl (.inl rfl) (pe_op op_mod (pe_callTy call_int1 (by rfl) T.int (by decide +kernel) (pa_cons (pe_op op_add (pe_op op_add (pe_op op_mul (pv 3) pe_int) (pe_op op_mul (pe_callB call_len_seq (by rfl) T.len PySem.boot_len (pa_cons (pv 2) pa_nil)) pe_int)) pe_int) pa_nil)) pe_int))
  (pss_one (ps_for PassesOwn.never rfl (pi_range1 (by rfl) T.range (pa_cons pe_int pa_nil)) (pg_name (i := 5) sc__law_stream.nd rfl (.inl rfl))
  (pss_cons (ps_set (i := 6) sc__law_stream.nd rfl (.inl rfl) (pe_op op_mod (pe_callTy call_int1 (by rfl) T.int (by decide +kernel) (pa_cons (pe_op op_add (pe_op op_add (pe_op op_mul (pv 6) pe_int) (pe_op op_mul pe_int (pv 5))) pe_int) pa_nil)) pe_int))
  (pss_one (ps_expr (pe_bm PySem.F.plainAttrs_list PySem.F.slot_list_append PySem.F.type_list_append mt_append (pv 2) (pa_cons (pe_op op_mod (pe_callTy call_int1 (by rfl) T.int (by decide +kernel) (pa_cons (pe_op op_fdiv (pv 6) pe_int) pa_nil)) pe_int) pa_nil))))))))))))
  (pss_one (ps_ret (pv 2))))), ?_⟩
    refine' q_asgL (xs := []) (el_lst ea_nil (by decide)) (fun l H1 nl e1 h1 => ?_)
    have hS1 : SqL K H1 a (ns.map V.int) := ex_l e1 hS
    refine' q_forLn (a := a) (xs := ns.map V.int) (ev_var rfl) hS1 (fun i σ' H' => ∃ y3 y4 y5 y6, σ' = [some (.ref a), some (.int (m : Int)), some (.ref l), y3, y4, y5, y6] ∧ DW H l (m + 60) H') (fun H2 e2 => ?_) (fun i σ' H' _ p => ?_) (fun i x σ' H' hx p => ?_) (fun σ' H' p => ?_)
    · exact ⟨none, none, none, none, rfl, nl, e1.trans e2, [], e2 l _ h1, Dr.nil, Nat.zero_le _⟩
    · obtain ⟨_, _, _, _, _, _, e, _⟩ := p
      exact ex_l e hS
    · obtain ⟨y3, y4, y5, y6, rfl, n, e, ds, hd, D, hl⟩ := p
      obtain ⟨c, rfl⟩ : ∃ c, x = V.int c := by
        rw [List.getElem?_map] at hx
        cases h : ns[i]? with
        | none => rw [h] at hx; cases hx
        | some c => rw [h] at hx; exact ⟨c, (Option.some.inj hx).symm⟩
      have hL : SqL K H' l (ds.map V.int) := sq_of hd
      refine' q_when ?c (fun hb H2 e2 => ?_) (fun hb H2 e2 => ?_)
      case c => walk_at "ev"
      · -- break
        refine s_ret (ev_var rfl) fun H3 e3 => ?_
        exact q ds D hl l H3 n ((e.trans e2).trans e3) (e3 l _ (e2 l _ hd))
      · have hb := of_decide_eq_false hb
        rw [List.length_map] at hb
        have hlt : ds.length < m := by omega
        have hd2 := e2 l _ hd
        have E2 := e.trans e2
        refine' s_if ?c (fun hc H3 e3 => ?_) (fun hc H3 e3 => ?_)
        case c => walk_at "ev"
        · -- a great one
          refine' q_asg (ev_var rfl) (fun H4 e4 => ?_)
          refine' s_forR1 (n := 60) (ea_cons ev_c ea_nil) (by decide) (fun i σ' H' => ∃ (r : Int) (y5 : Option V), σ' = [some (.ref a), some (.int (m : Int)), some (.ref l), some (.int c), some (.int r), y5, y6] ∧ DW H l (m + i) H') (fun H5 e5 => ⟨c, _, rfl, n, ((E2.trans e3).trans e4).trans e5, ds, e5 l _ (e4 l _ (e3 l _ hd2)), D, by omega⟩) (fun i σ' H' hi p => ?_) (fun σ' H' p => ?_)
          · obtain ⟨r, z5, rfl, n', e', ds', hd', D', hl'⟩ := p
            have hL' : SqL K H' l (ds'.map V.int) := sq_of hd'
            refine' s_when ?c (fun hb H6 e6 => ?_) (fun hb H6 e6 => ?_)
            case c => walk_at "ev"
            · refine' q_app (l := l) (xs := ds'.map V.int) (v := .int (r % 5040)) (e6 l _ hd') (ev_var rfl) ?c (by rw [List.length_map]; omega) (fun H7 e7 => ?_)
              case c => walk_at "ev"
              refine' s_asg (v := .int (r / 5040)) ?c (fun H8 e8 => ?_)
              case c => exact ev_op (ev_var rfl) ev_c (rv_I ⟨by decide, by decide⟩)
              obtain ⟨_, k2, k3⟩ := DW.app n' (e'.trans e6) D' hl' (Int.emod_nonneg r (by decide)) (Int.emod_lt_of_pos r (by decide)) e7
              obtain ⟨ds8, k4, k5, k6⟩ := k3
              exact ⟨r / 5040, _, rfl, n', k2.trans e8, ds8, e8 l _ k4, k5, k6⟩
            · exact ⟨r, _, rfl, n', e'.trans e6, ds', e6 l _ hd', D', by omega⟩
          · obtain ⟨r, z5, rfl, w⟩ := p
            exact ⟨_, _, _, _, rfl, w⟩
        · -- a plain one
          refine' q_asg ?c (fun H4 e4 => ?_)
          case c =>
            have hL3 : SqL K H3 l (ds.map V.int) := sq_of (e3 l _ hd2)
            refine' ev_op (ev_cb (ea_cons (ev_op (ev_op (ev_op (ev_var rfl) ev_c (rv_I (.inr (by decide)))) (ev_op (ev_cb (ea_cons (ev_var rfl) ea_nil) (rc_len hL3)) ev_c (rv_I (.inr (by decide)))) rv_I0) ev_c rv_I0) ea_nil) rc_int) ev_c (rv_I (by decide))
          refine' s_forR1 (n := 4) (ea_cons ev_c ea_nil) (by decide) (fun i σ' H' => ∃ (r : Int) (y5 : Option V), σ' = [some (.ref a), some (.int (m : Int)), some (.ref l), some (.int c), y4, y5, some (.int r)] ∧ DW H l (m + i) H') (fun H5 e5 => ⟨_, _, rfl, n, ((E2.trans e3).trans e4).trans e5, ds, e5 l _ (e4 l _ (e3 l _ hd2)), D, by omega⟩) (fun i σ' H' hi p => ?_) (fun σ' H' p => ?_)
          · obtain ⟨r, z5, rfl, n', e', ds', hd', D', hl'⟩ := p
            refine' q_asg ?c (fun H6 e6 => ?_)
            case c =>
              refine' ev_op (ev_cb (ea_cons (ev_op (ev_op (ev_op (ev_var rfl) ev_c (rv_I (.inr (by decide)))) (ev_op ev_c (ev_var rfl) (rv_I (.inl (by decide)))) rv_I0) ev_c rv_I0) ea_nil) rc_int) ev_c (rv_I (by decide))
            refine' s_app (l := l) (xs := ds'.map V.int) (e6 l _ hd') (ev_var rfl) ?c (by rw [List.length_map]; omega) (fun H7 e7 => ?_)
            case c =>
              refine' ev_op (ev_cb (ea_cons (ev_op (ev_var rfl) ev_c (rv_I ⟨by decide, by decide⟩)) ea_nil) rc_int) ev_c (rv_I (by decide))
            exact ⟨_, _, rfl, DW.app n' (e'.trans e6) D' hl' (Int.emod_nonneg _ (by decide)) (Int.emod_lt_of_pos _ (by decide)) e7⟩
          · obtain ⟨r, z5, rfl, n', e', ds', hd', D', hl'⟩ := p
            exact ⟨_, _, _, _, rfl, n', e', ds', hd', D', by have : (4 : Int).toNat = 4 := rfl; omega⟩
    · obtain ⟨y3, y4, y5, y6, rfl, n, e, ds, hd, D, hl⟩ := p
      refine s_ret (ev_var rfl) fun H3 e3 => ?_
      exact q ds D hl l H3 n (e.trans e3) (e3 l _ hd)

theorem ok_same {f : Addr} {fd : FuncData} (D__law_same : Df K mg "_law_same" s__law_same ["actual", "due"] f fd) (T : Glo mg) : ∀ n : Nat, FnOk P w K mg base CX0 (n + 1) f fd ["actual", "due"] (spSame K n) := fun n => by
  have key : ∀ (n : Nat) (S : Sp), FnOk P w K mg base CX0 n f fd ["actual", "due"] S → (∀ m, n = m + 1 → S = spSame K m) → FnOk P w K mg base CX0 (n + 1) f fd ["actual", "due"] (spSame K n) := fun n S G__law_same hSm => by
    refine D__law_same.F.ok sc__law_same (fun vs H Q E h => ?_) (fun cdv A outer s H vs Q E hr h => ?_)
    · obtain ⟨x, y, d, rfl, _⟩ := h
      rfl
    · obtain ⟨x, y, d, rfl, hx, hy, ok, q⟩ := h
      refine ⟨_, (pss_cons (ps_if (pt_val (pe_callB call_isiT (by rfl) T.isinstance (by decide +kernel) (pa_cons (pv 1) (pa_cons (pe_tup (pa_cons (pe_bltn (v := .ty "tuple") (u := .type "tuple") (by rfl) T.tuple (by decide +kernel) rfl) (pa_cons (pe_bltn (v := .ty "list") (u := .type "list") (by rfl) T.list (by decide +kernel) rfl) pa_nil))) pa_nil))))
  (pss_cons (ps_if (PW.pt (pw_or (pt_not (pt_val (pe_callB call_isiT (by rfl) T.isinstance (by decide +kernel) (pa_cons (pv 0) (pa_cons (pe_tup (pa_cons (pe_bltn (v := .ty "tuple") (u := .type "tuple") (by rfl) T.tuple (by decide +kernel) rfl) (pa_cons (pe_bltn (v := .ty "list") (u := .type "list") (by rfl) T.list (by decide +kernel) rfl) pa_nil))) pa_nil))))) (pw_or1 (pt_cmpR op_ne (pe_callB call_isi (by rfl) T.isinstance (by decide +kernel) (pa_cons (pv 0) (pa_cons (pe_bltn (v := .ty "tuple") (u := .type "tuple") (by rfl) T.tuple (by decide +kernel) rfl) pa_nil))) (pe_callB call_isi (by rfl) T.isinstance (by decide +kernel) (pa_cons (pv 1) (pa_cons (pe_bltn (v := .ty "tuple") (u := .type "tuple") (by rfl) T.tuple (by decide +kernel) rfl) pa_nil))) (nomark _)))))
  (pss_one (ps_ret pe_bl))
  pss_nil)
  (pss_cons (ps_if (pt_cmpR op_ne (pe_callB call_len_seq (by rfl) T.len PySem.boot_len (pa_cons (pv 0) pa_nil)) (pe_callB call_len_seq (by rfl) T.len PySem.boot_len (pa_cons (pv 1) pa_nil)) (nomark _))
  (pss_one (ps_ret pe_bl))
  pss_nil)
  (pss_cons (ps_for PassesOwn.never rfl (pi_range1 (by rfl) T.range (pa_cons (pe_callB call_len_seq (by rfl) T.len PySem.boot_len (pa_cons (pv 1) pa_nil)) pa_nil)) (pg_name (i := 2) sc__law_same.nd rfl (.inl rfl))
  (pss_one (ps_if (pt_not (pt_val (pe_call G__law_same (hr.mono (by omega)) (by rfl) D__law_same.g D__law_same.F.kp D__law_same.b .nil pass0 (pa_cons (pe_ix ix_seq (pv 0) (pv 2) (fun _ _ => rfl)) (pa_cons (pe_ix ix_seq (pv 1) (pv 2) (fun _ _ => rfl)) pa_nil)))))
  (pss_one (ps_ret pe_bl))
  pss_nil)))
  (pss_one (ps_ret pe_bl)))))
  pss_nil)
  (pss_cons (ps_if (pt_cmpR op_isN (pv 1) pe_non (nomark _))
  (pss_one (ps_ret (pe_cmpR op_isN (pv 0) pe_non (nomark _))))
  pss_nil)
  (pss_cons (ps_if (PW.pt (pw_or (pt_val (pe_callB call_isi (by rfl) T.isinstance (by decide +kernel) (pa_cons (pv 1) (pa_cons (pe_bltn (v := .ty "bool") (u := .type "bool") (by rfl) T.bool (by decide +kernel) rfl) pa_nil)))) (pw_or1 (pt_val (pe_callB call_isi (by rfl) T.isinstance (by decide +kernel) (pa_cons (pv 0) (pa_cons (pe_bltn (v := .ty "bool") (u := .type "bool") (by rfl) T.bool (by decide +kernel) rfl) pa_nil)))))))
  (pss_one (ps_ret (pe_and (pe_callB call_isi (by rfl) T.isinstance (by decide +kernel) (pa_cons (pv 1) (pa_cons (pe_bltn (v := .ty "bool") (u := .type "bool") (by rfl) T.bool (by decide +kernel) rfl) pa_nil))) (pe_and (pe_callB call_isi (by rfl) T.isinstance (by decide +kernel) (pa_cons (pv 0) (pa_cons (pe_bltn (v := .ty "bool") (u := .type "bool") (by rfl) T.bool (by decide +kernel) rfl) pa_nil))) (pe_one (pe_cmpR op_eq (pv 0) (pv 1) (nomark _)))))))
  pss_nil)
  (pss_cons (ps_if (pt_val (pe_callB call_isi (by rfl) T.isinstance (by decide +kernel) (pa_cons (pv 1) (pa_cons (pe_bltn (v := .ty "int") (u := .type "int") (by rfl) T.int (by decide +kernel) rfl) pa_nil))))
  (pss_one (ps_ret (pe_and (pe_callB call_isi (by rfl) T.isinstance (by decide +kernel) (pa_cons (pv 0) (pa_cons (pe_bltn (v := .ty "int") (u := .type "int") (by rfl) T.int (by decide +kernel) rfl) pa_nil))) (pe_one (pe_cmpR op_eq (pv 0) (pv 1) (nomark _))))))
  pss_nil)
  (pss_one (ps_ret (pe_and (pe_callB call_isi (by rfl) T.isinstance (by decide +kernel) (pa_cons (pv 0) (pa_cons (pe_bltn (v := .ty "str") (u := .type "str") (by rfl) T.str (by decide +kernel) rfl) pa_nil))) (pe_one (pe_cmpR op_eq (pv 0) (pv 1) (nomark _)))))))))), ?_⟩
      refine' q_when (b := isTup d || isLst d) (et_B (ev_isiT2 (K := K) (ex_var rfl hy) (kit_tup d) (kit_lst d))) (fun hb H1 e1 => ?_) (fun hb H1 e1 => ?_)
      · obtain ⟨m, ds, hm, hd, hl, hok⟩ : ∃ (m : Nat) (ds : List PyData), n = m + 1 ∧ (d = .list ds ∨ d = .tuple ds) ∧ ds.length ≤ 50000 ∧ ∀ e, e ∈ ds → Okn m e := by
          cases ok with
          | lst h hs => exact ⟨_, _, rfl, .inl rfl, h, hs⟩
          | tup h hs => exact ⟨_, _, rfl, .inr rfl, h, hs⟩
          | _ => exact absurd hb (by simp [isTup, isLst])
        have hS := hSm m hm
        subst hS
        have hx1 := dx_mono e1 _ _ hx
        have hy1 := dx_mono e1 _ _ hy
        refine' q_when (b := false) (et_orF (et_nt (et_is (et_B (ev_isiT2 (K := K) (ex_var rfl hx1) (kit_tup d) (kit_lst d))) hb)) (et_is (et_test (ev_op (ev_isiX (K := K) (ex_var rfl hx1) (kit_tup d)) (ev_isiX (K := K) (ex_var rfl hy1) (kit_tup d)) (rv_ne rfl))) (by rw [decide_eq_true rfl]; rfl))) (fun hb => nomatch hb) (fun _ H2 e2 => ?_)
        have hx2 := dx_mono e2 _ _ hx1
        have hy2 := dx_mono e2 _ _ hy1
        refine' q_when (b := false) (et_is (et_test (ev_op (ev_lenX2 (K := K) hd (ex_var rfl hx2)) (ev_lenX2 (K := K) hd (ex_var rfl hy2)) rv_neI)) (by rw [decide_eq_true rfl]; rfl)) (fun hb => nomatch hb) (fun _ H3 e3 => ?_)
        have hx3 := dx_mono e3 _ _ hx2
        have hy3 := dx_mono e3 _ _ hy2
        refine' q_forR1 (n := (ds.length : Int)) (ea_cons (ev_lenX2 (K := K) hd (ex_var rfl hy3)) ea_nil) (by omega) (fun i σ' H' => ∃ y2 : Option V, σ' = [some x, some y, y2] ∧ Ex H3 H') (fun H4 e4 => ⟨none, rfl, e4⟩) (fun i σ' H' hi p => ?_) (fun σ' H' p => ?_)
        · obtain ⟨y2, rfl, e4⟩ := p
          have hx4 := dx_mono e4 _ _ hx3
          have hy4 := dx_mono e4 _ _ hy3
          have hil : i < ds.length := by omega
          have hat : atI ds (i : Int) = some ds[i] := atI_nat (List.getElem?_eq_getElem hil)
          refine' s_when (b := false) (et_nt (et_B (ev_callD (K := K) (exs_cons (ex_ix2 (K := K) hd (ex_var rfl hx4) (ev_var rfl) hat) (exs_cons (ex_ix2 (K := K) hd (ex_var rfl hy4) (ev_var rfl) hat) exs_nil)) (fun vs H5 e5 hv Q q => ?_)))) (fun hb => nomatch hb) (fun _ H5 e5 => ⟨_, rfl, e4.trans e5⟩)
          cases hv with
          | cons h1 h2 => cases h2 with
            | cons h2 h3 =>
              cases h3
              exact ⟨_, _, _, rfl, h1, h2, hok _ (List.getElem_mem hil), q⟩
        · obtain ⟨y2, rfl, e4⟩ := p
          exact s_ret ev_c (fun H5 e5 => q H5 ((((e1.trans e2).trans e3).trans e4).trans e5))
      · have hx1 := dx_mono e1 _ _ hx
        have hy1 := dx_mono e1 _ _ hy
        cases ok with
        | non =>
          cases hx
          cases hy
          refine' q_when (b := true) (et_is (et_isN (ev_var rfl)) (decide_eq_true rfl)) (fun _ H2 e2 => ?_) (fun hb => nomatch hb)
          exact s_ret (ev_is (ev_isN (ev_var rfl)) (by rw [decide_eq_true rfl])) (fun H3 e3 => q H3 ((e1.trans e2).trans e3))
        | bl b =>
          cases hx
          cases hy
          refine' q_when (b := false) (et_is (et_isN (ev_var rfl)) (decide_eq_false (fun h => nomatch h))) (fun hb => nomatch hb) (fun _ H2 e2 => ?_)
          refine' q_when (b := true) (et_orL (et_B (ev_isiX (K := K) (ex_var rfl (dx_mono e2 _ _ hy1)) (kit_bool _)))) (fun _ H3 e3 => ?_) (fun hb => nomatch hb)
          have hy3 := dx_mono (e2.trans e3) _ _ hy1
          exact s_ret (ev_andT (ev_isiX (K := K) (ex_var rfl hy3) (kit_bool _)) (ev_andT (ev_isiX (K := K) (ex_var rfl hy3) (kit_bool _)) (ev_op (ev_var rfl) (ev_var rfl) (rv_eqT rfl)))) (fun H4 e4 => q H4 (((e1.trans e2).trans e3).trans e4))
        | int i =>
          cases hx
          cases hy
          refine' q_when (b := false) (et_is (et_isN (ev_var rfl)) (decide_eq_false (fun h => nomatch h))) (fun hb => nomatch hb) (fun _ H2 e2 => ?_)
          have hy2 := dx_mono e2 _ _ hy1
          refine' q_when (b := false) (et_orF (et_B (ev_isiX (K := K) (ex_var rfl hy2) (kit_bool _))) (et_B (ev_isiX (K := K) (ex_var rfl hy2) (kit_bool _)))) (fun hb => nomatch hb) (fun _ H3 e3 => ?_)
          have hy3 := dx_mono e3 _ _ hy2
          refine' q_when (b := true) (et_B (ev_isiX (K := K) (ex_var rfl hy3) (kit_int _))) (fun _ H4 e4 => ?_) (fun hb => nomatch hb)
          have hy4 := dx_mono e4 _ _ hy3
          exact s_ret (ev_andT (ev_isiX (K := K) (ex_var rfl hy4) (kit_int _)) (ev_op (ev_var rfl) (ev_var rfl) (rv_eqT rfl))) (fun H5 e5 => q H5 ((((e1.trans e2).trans e3).trans e4).trans e5))
        | str z =>
          cases hx
          cases hy
          refine' q_when (b := false) (et_is (et_isN (ev_var rfl)) (decide_eq_false (fun h => nomatch h))) (fun hb => nomatch hb) (fun _ H2 e2 => ?_)
          have hy2 := dx_mono e2 _ _ hy1
          refine' q_when (b := false) (et_orF (et_B (ev_isiX (K := K) (ex_var rfl hy2) (kit_bool _))) (et_B (ev_isiX (K := K) (ex_var rfl hy2) (kit_bool _)))) (fun hb => nomatch hb) (fun _ H3 e3 => ?_)
          have hy3 := dx_mono e3 _ _ hy2
          refine' q_when (b := false) (et_B (ev_isiX (K := K) (ex_var rfl hy3) (kit_int _))) (fun hb => nomatch hb) (fun _ H4 e4 => ?_)
          have hy4 := dx_mono e4 _ _ hy3
          exact s_ret (ev_andT (ev_isiX (K := K) (ex_var rfl hy4) (kit_str _)) (ev_op (ev_var rfl) (ev_var rfl) (rv_eqT rfl))) (fun H5 e5 => q H5 ((((e1.trans e2).trans e3).trans e4).trans e5))
        | lst => exact absurd hb (by simp [isTup, isLst])
        | tup => exact absurd hb (by simp [isTup, isLst])
  induction n with
  | zero => exact key 0 (fun _ _ _ _ => False) fn_false (fun m h => nomatch h)
  | succ n ih => exact key (n + 1) _ ih (fun m h => by cases h; rfl)

def spMaj : Sp := fun vs H Q _ => ∃ n : Int, vs = [.int n] ∧ RetV (.int (n / 2 + 1)) H Q
theorem ok_majority {f : Addr} {fd : FuncData} (F : Fun K "majority" "majority" s_majority f fd) : FnOk P w K mg base CX0 1 f fd ["count"] spMaj := by
  refine F.ok sc_majority (fun vs H Q E h => ?_) (fun cdv A outer s H vs Q E hr h => ?_)
  · obtain ⟨n, rfl, _⟩ := h
    rfl
  · obtain ⟨n, rfl, q⟩ := h
    refine ⟨_, (pss_one (ps_ret (pe_op op_add (pe_op op_fdiv (pv 0) pe_int) pe_int))), ?_⟩
    refine' s_ret ?c (fun H1 e1 => q H1 e1)
    case c => walk_at "ev"
theorem spMaj_v {H : Hp} {n : Int} : SpV spMaj [.int n] H (.int (n / 2 + 1)) := fun H1 _ Q q _ => ⟨n, rfl, fun H2 e2 => q H2 e2⟩
def spHM (K : PySem.W.Frag) : Sp := fun vs H Q _ => ∃ (a : Addr) (ns : List Int) (c : Int), vs = [.ref a, .int c] ∧ SqL K H a (ns.map V.int) ∧ ns.length ≤ 1000 ∧ RetV (.bl (hmB ns c)) H Q
theorem ok_hm {f f_m : Addr} {fd fd_m : FuncData} (F : Fun K "has_majority" "has_majority" s_has_majority f fd) (D_majority : Df K mg "majority" s_majority ["count"] f_m fd_m) (T : Glo mg) : FnOk P w K mg base CX0 2 f fd ["members", "count"] (spHM K) := by
  have G_majority : FnOk P w K mg base CX0 1 f_m fd_m _ _ := ok_majority D_majority.F
  refine F.ok sc_has_majority (fun vs H Q E h => ?_) (fun cdv A outer s H vs Q E hr h => ?_)
  · obtain ⟨a, ns, c, rfl, _⟩ := h
    rfl
  · obtain ⟨a, ns, c, rfl, hS, hl, q⟩ := h
    refine ⟨_, (pss_one (ps_ret (pe_cmpR op_ge (pe_callB call_lenK (by rfl) T.len PySem.boot_len (pa_cons (pe_scK (own := [("member", 2)]) (g := gName 2) rfl sc_has_majority.nd (pi_list (pv 0)) (blkOk_by (N := N_has_majority) (sc := defScope s_has_majority) (by decide +kernel)) (fun _ _ _ _ _ => (pg_name (i := 2) sc_has_majority.nd rfl (.inl rfl))) (fun _ _ _ _ _ => (pts_one (pt_chain op_le op_lt pe_int (pv 2) (pv 1)))) (fun _ _ _ _ _ => (pv 2))) pa_nil)) (pe_call G_majority (hr.mono (by decide)) (by rfl) D_majority.g D_majority.F.kp D_majority.b .nil pass0 (pa_cons (pv 1) pa_nil)) (nomark _)))), ?_⟩
    exact s_ret (ev_op (ev_lenSc (K := K) (inB c) (ev_var rfl) hS hl (fun _ => rfl) (fun x => et_test (ev_chain (k := decide (0 ≤ x)) (m := decide (x < c)) ev_c (ev_var rfl) rv_I0 (ev_var rfl) rv_I0)) (fun x => ev_var rfl)) (ev_call (ea_cons (ev_var rfl) ea_nil) spMaj_v) rv_I0) q
theorem spHM_v {H : Hp} {a : Addr} {ns : List Int} {c : Int} (h : SqL K H a (ns.map V.int)) (hl : ns.length ≤ 1000) : SpV (spHM K) [.ref a, .int c] H (.bl (hmB ns c)) := fun H1 e Q q _ => ⟨a, ns, c, rfl, ex_l e h, hl, fun H2 e2 => q H2 e2⟩

def spCP : Sp := fun vs H Q _ => ∃ (d : Addr) (ps : PI2) (n : Int), vs = [.ref d, .int n] ∧ H d = some (.dK (kvI ps)) ∧ (ps.map (·.1)).Nodup ∧ ps.length ≤ 1000 ∧ 1 ≤ n ∧ n ≤ 1000 ∧ ∀ c, CP ps n c → RetV (.int c) H Q
theorem ok_commit_point {f f_majority : Addr} {fd fd_majority : FuncData} (F : Fun K "commit_point" "commit_point" s_commit_point f fd) (D_majority : Df K mg "majority" s_majority ["count"] f_majority fd_majority) (T : Glo mg) : FnOk P w K mg base CX0 2 f fd ["matched", "count"] spCP := by
  have G_majority : FnOk P w K mg base CX0 1 f_majority fd_majority ["count"] spMaj := ok_majority D_majority.F
  refine F.ok sc_commit_point (fun vs H Q E h => ?_) (fun cdv A outer s H vs Q E hr h => ?_)
  · obtain ⟨d, ps, n, rfl, _⟩ := h
    rfl
  · obtain ⟨d, ps, n, rfl, hd, nd, hl, h1, h2, q⟩ := h
    refine ⟨_, (pss_cons (ps_lock (ps_setLc (i := 2) (own := [("journal", 3)]) (g := gName 3) rfl sc_commit_point.nd rfl rfl (sw_true rfl rfl rfl (by decide +kernel)) (pi_keys (pv 0)) (blkOk_by (N := N_commit_point) (sc := defScope s_commit_point) (by decide +kernel)) (fun _ _ _ _ _ => (pg_name (i := 3) sc_commit_point.nd rfl (.inl rfl))) (fun _ _ _ _ _ => (pts_one (pt_chain op_le op_lt pe_int (pv 3) (pv 1)))) (fun _ _ _ _ _ => (pe_dget (hu_of hr) (pv 0) (pv 3) (fun _ _ => rfl)))))
  (pss_cons (ps_set (i := 4) sc_commit_point.nd rfl (.inl rfl) (pe_call G_majority (hr.mono (by decide)) (by rfl) D_majority.g D_majority.F.kp D_majority.b .nil pass0 (pa_cons (pv 1) pa_nil)))
  (pss_cons (ps_if (pt_cmpR op_lt (pe_callB call_len_seq (by rfl) T.len PySem.boot_len (pa_cons (pv 2) pa_nil)) (pv 4) (nomark _))
  (pss_one (ps_ret pe_int))
  pss_nil)
  (pss_one (ps_ret (pe_ix ix_list (pe_callBK (cr_sortedRev (b := true)) (by rfl) T.sorted (by decide +kernel) (pa_cons (pv 2) pa_nil) (pk_cons pe_bl pk_nil)) (pe_op op_sub (pv 4) pe_int) (fun _ _ => rfl))))))), ?_⟩
    have hz : (kvI ps).length = ps.length := kvI_len ps
    refine' q_lcKeys (kvs := kvI ps) rfl hd (by omega) (fun i => decide (0 ≤ (ps.getD i (0, 0)).1) && decide ((ps.getD i (0, 0)).1 < n)) (fun i => V.int (ps.getD i (0, 0)).2) (fun _ => rfl) (fun i k x o hk => ?_) (fun i k x o hk _ => ?_) (fun l H1 nl e1 hl1 => ?_)
    · obtain ⟨p, hp, rfl, rfl⟩ := kvI_at hk
      show EvT _ [some (.ref d), some (.int n), none, some (.int p.1), none] _ _
      refine' et_is ?c ?d
      case c => walk_at "ev"
      case d =>
        rw [List.getD_eq_getElem?_getD, hp]
        rfl
    · obtain ⟨p, hp, rfl, rfl⟩ := kvI_at hk
      rw [List.getD_eq_getElem?_getD, hp]
      exact ev_dget (kvs := kvI ps) (k := Sum.inl p.1) (ev_var rfl) (ev_var rfl) (.inr ⟨o, upd_same⟩) (kvI_some ps i p nd hp)
    · rw [hz, given_eq ps (0, 0) (fun p => decide (0 ≤ p.1) && decide (p.1 < n)) (fun p => V.int p.2)] at hl1
      have e0 : (ps.filter fun p => decide (0 ≤ p.1) && decide (p.1 < n)).map (fun p => V.int p.2) = (inR n ps).map V.int := by
        unfold inR
        rw [List.map_map]
        rfl
      rw [e0] at hl1
      refine' q_asg (v := .int (n / 2 + 1)) ?c (fun H2 e2 => ?_)
      case c => exact ev_call (vs := [.int n]) (ea_cons (ev_var rfl) ea_nil) spMaj_v
      have hL : SqL K H2 l ((inR n ps).map V.int) := sq_of (e2 l _ hl1)
      refine' q_when ?c (fun hb H3 e3 => ?_) (fun hb H3 e3 => ?_)
      case c => walk_at "ev"
      · have hb := of_decide_eq_true hb
        rw [List.length_map] at hb
        refine s_ret ev_c fun H4 e4 => ?_
        exact q 0 (.inl ⟨hb, rfl⟩) H4 (((e1.trans e2).trans e3).trans e4)
      · have hb := of_decide_eq_false hb
        rw [List.length_map] at hb
        -- sorted(lengths, reverse=True)[needed - 1]
        refine ⟨.ref l, rfl, l, inR n ps, rfl, rfl, ex_l e3 hL, fun ns' p hp ho np => ?_⟩
        have hlen := hp.length_eq
        have hi : (n / 2).toNat < ns'.length := by omega
        have hat : (ns'.map V.int)[(n / 2).toNat]? = some (.int ns'[(n / 2).toNat]) := by
          rw [List.getElem?_map, List.getElem?_eq_getElem hi]
          rfl
        refine ⟨.int (n / 2 + 1), rfl, n / 2 + 1, 1, rfl, rfl, p, ns'.map V.int, n / 2 + 1 - 1, .int ns'[(n / 2).toNat], rfl, rfl, sq_of upd_same, ?_, ?_⟩
        · rw [show n / 2 + 1 - 1 = (((n / 2).toNat : Nat) : Int) by omega]
          exact atI_nat hat
        · exact q _ (.inr ⟨by omega, ns', hp, ho, List.getElem?_eq_getElem hi⟩) _ (((e1.trans e2).trans e3).trans (Ex.new np))

/-! ### a log: an object with a base, an image and a tuple of records -/
def fLog (b im r : V) : List (Str × V) := [("base", b), ("image", im), ("records", r)]
theorem fl_put (b im r : V) : putF "records" r (putF "image" im (putF "base" b [])) = fLog b im r := by rfl
theorem fl_base (b im r : V) : (fLog b im r).lookup ("base" : Str) = some b := by rfl
theorem fl_image (b im r : V) : (fLog b im r).lookup ("image" : Str) = some im := by rfl
theorem fl_records (b im r : V) : (fLog b im r).lookup ("records" : Str) = some r := by rfl
theorem fl_no (b im r : V) {m : Str} (h1 : (m == ("base" : Str)) = false) (h2 : (m == ("image" : Str)) = false) (h3 : (m == ("records" : Str)) = false) : (fLog b im r).lookup m = none := by
  unfold fLog
  rw [List.lookup_cons, h1, List.lookup_cons, h2, List.lookup_cons, h3]
  rfl
/-- the log of these at p -/
def LogAt (K : PySem.W.Frag) (C : Addr) (H : Hp) (p : Addr) (b : Int) (im : PyData) (rs : List PyData) : Prop := ∃ dx vi t, H p = some (.ins C dx (fLog (.int b) vi t)) ∧ Dp K H vi im ∧ Dp K H t (.tuple rs)
theorem LogAt.mono {K : PySem.W.Frag} {C : Addr} {H H' : Hp} {p : Addr} {b : Int} {im : PyData} {rs : List PyData} (e : Ex H H') (h : LogAt K C H p b im rs) : LogAt K C H' p b im rs := by
  obtain ⟨dx, vi, t, h1, h2, h3⟩ := h
  exact ⟨dx, vi, t, e _ _ h1, dp_mono e _ _ h2, dp_mono e _ _ h3⟩
structure LogC (K : PySem.W.Frag) (C : Addr) : Prop where
  cl : Cls K C
  nB : NoAttr K C "base"
  nI : NoAttr K C "image"
  nR : NoAttr K C "records"
section
variable {K : PySem.W.Frag} {σ : L2.St} {H B : Hp} {ta : TE} {C p : Addr} {b : Int} {im : PyData} {rs : List PyData}
theorem ev_base (L : LogC K C) (h : Ev ta σ H (.ref p)) (l : LogAt K C H p b im rs) : Ev (tFld K ta "base") σ H (.int b) := fun H1 e Q q => h H1 e _ fun H2 e2 => by
  obtain ⟨dx, vi, t, h1, _, _⟩ := l
  exact ⟨p, C, dx, _, _, rfl, (e.trans e2) _ _ h1, L.cl, L.nB, fl_base _ _ _, q H2 e2⟩
theorem ed_image (L : LogC K C) (h : Ev ta σ H (.ref p)) (l : LogAt K C H p b im rs) : EvD K (tFld K ta "image") σ H im := fun H1 e Q q => h H1 e _ fun H2 e2 => by
  obtain ⟨dx, vi, t, h1, h2, _⟩ := l
  exact ⟨p, C, dx, _, _, rfl, (e.trans e2) _ _ h1, L.cl, L.nI, fl_image _ _ _, q vi H2 e2 (dp_mono ov_base _ _ h2)⟩
theorem ed_records (L : LogC K C) (h : Ev ta σ H (.ref p)) (l : LogAt K C H p b im rs) : EvD K (tFld K ta "records") σ H (.tuple rs) := fun H1 e Q q => h H1 e _ fun H2 e2 => by
  obtain ⟨dx, vi, t, h1, _, h3⟩ := l
  exact ⟨p, C, dx, _, _, rfl, (e.trans e2) _ _ h1, L.cl, L.nR, fl_records _ _ _, q t H2 e2 (dp_mono ov_base _ _ h3)⟩
end
def spLogInit (C : Addr) : Sp := fun vs H Q _ => ∃ (p dx : Addr) (b im r : V), vs = [.ref p, b, im, r] ∧ H p = some (.ins C dx []) ∧ ∀ H', H' p = some (.ins C dx (fLog b im r)) → (∀ a, a ≠ p → H' a = H a) → Q .non H'
theorem ok_log_init {f C : Addr} {fd : FuncData} (F : Fun K "__init__" "Log.__init__" s_Log___init__ f fd) (L : LogC K C) : FnOk P w K mg base CX0 1 f fd ["self", "base", "image", "records"] (spLogInit C) := by
  refine F.ok sc_Log___init__ (fun vs H Q E h => ?_) (fun cdv A outer s H vs Q E hr h => ?_)
  · obtain ⟨p, dx, b, im, r, rfl, _⟩ := h
    rfl
  · obtain ⟨p, dx, b, im, r, rfl, hp, q⟩ := h
    refine ⟨_, (pss_cons (ps_fld (pv 0) (pv 1) rfl)
  (pss_cons (ps_fld (pv 0) (pv 2) rfl)
  (pss_one (ps_fld (pv 0) (pv 3) rfl)))), ?_⟩
    refine ⟨_, rfl, _, rfl, p, C, dx, [], rfl, hp, L.cl, L.nB, (by show 0 < 1000; decide), ?_⟩
    refine ⟨_, rfl, _, rfl, p, C, dx, _, rfl, upd_same, L.cl, L.nI, (by show 1 < 1000; decide), ?_⟩
    refine ⟨_, rfl, _, rfl, p, C, dx, _, rfl, upd_same, L.cl, L.nR, (by show 2 < 1000; decide), ?_⟩
    refine q _ ?_ (fun a ha => ?_)
    · rw [upd_same, fl_put]
    · rw [upd_ne ha, upd_ne ha, upd_ne ha]
/-- Log(b, im, r) -/
theorem s_mkLog {σ : L2.St} {B H : Hp} {C : Addr} {ta : TA} {E : XK} {Q : VK} {vb : Int} {im : PyData} {rs : List PyData} (eB : Ex B H) (h : EvDs K ta σ B [.int vb, im, .tuple rs]) (q : ∀ p H1, H p = none → Ex H H1 → LogAt K C (ov B H H1) p vb im rs → Q (.ref p) H1) :
    tMake C (spLogInit C) [] E ta σ H Q := h H eB _ fun vs H1 e hd x dx nx ndx nex => by
  cases hd with
  | cons d1 r1 => cases r1 with
    | cons d2 r2 => cases r2 with
      | cons d3 r3 =>
        cases r3
        cases d1
        rename_i vi vr
        refine ⟨x, dx, _, vi, vr, rfl, upd_same, fun H2 h2 ho => ⟨rfl, ?_⟩⟩
        have e2 : Ex H1 H2 := fun a o ha1 => by
          have n1 : a ≠ x := ne_of_none ha1 nx
          rw [ho a n1, upd_ne n1, upd_ne (ne_of_none ha1 ndx)]
          exact ha1
        have n0 := fresh_back e nx
        have o2 : Ex (ov B H H1) (ov B H H2) := ov_grow e2
        exact q x H2 n0 (e.trans e2) ⟨dx, _, _, by unfold ov; rw [fresh_back eB n0, n0]; exact h2, dp_mono o2 _ _ d2, dp_mono o2 _ _ d3⟩
theorem q_mkLog {σ : L2.St} {B H : Hp} {D : Ends} {tz : TS} {C : Addr} {ta : TA} {E : XK} {i : Nat} {vb : Int} {im : PyData} {rs : List PyData} (eB : Ex B H) (h : EvDs K ta σ B [.int vb, im, .tuple rs]) (q : ∀ p H1, H p = none → Ex H H1 → LogAt K C (ov B H H1) p vb im rs → tz D (σ.set i (some (.ref p))) H1) :
    tSeq (tAsg (tMake C (spLogInit C) [] E ta) (gName i)) tz D σ H := (show tMake C (spLogInit C) [] E ta σ H (fun v H1 => tz D (σ.set i (some v)) H1) from s_mkLog eB h q)

def spLogLen (K : PySem.W.Frag) (C : Addr) : Sp := fun vs H Q _ => ∃ (p : Addr) (b : Int) (im : PyData) (rs : List PyData), vs = [.ref p] ∧ LogAt K C H p b im rs ∧ RetV (.int (b + (rs.length : Int))) H Q
theorem ok_log_len {f C : Addr} {fd : FuncData} (F : Fun K "length" "Log.length" s_Log_length f fd) (L : LogC K C) (T : Glo mg) : FnOk P w K mg base CX0 1 f fd ["self"] (spLogLen K C) := by
  refine F.ok sc_Log_length (fun vs H Q E h => ?_) (fun cdv A outer s H vs Q E hr h => ?_)
  · obtain ⟨p, b, im, rs, rfl, _⟩ := h
    rfl
  · obtain ⟨p, b, im, rs, rfl, l, q⟩ := h
    refine ⟨_, (pss_one (ps_ret (pe_op op_add (pe_fld (pv 0) rfl) (pe_callB call_len_seq (by rfl) T.len PySem.boot_len (pa_cons (pe_fld (pv 0) rfl) pa_nil))))), ?_⟩
    exact s_ret (ev_op (ev_base L (ev_var rfl) l) (ev_lenDT (K := K) (ed_records L (ev_var rfl) l)) rv_I0) q
theorem ev_loglen {σ : L2.St} {H : Hp} {C p : Addr} {ta : TE} {E : XK} {b : Int} {im : PyData} {rs : List PyData} (h : Ev ta σ H (.ref p)) (l : LogAt K C H p b im rs) : Ev (tProp C (spLogLen K C) [] E ta) σ H (.int (b + (rs.length : Int))) := fun H1 e Q q => h H1 e _ fun H2 e2 => by
  obtain ⟨dx, vi, t, h1, _, _⟩ := id l
  exact ⟨p, dx, _, rfl, (e.trans e2) _ _ h1, p, b, im, rs, rfl, l.mono (e.trans e2), fun H3 e3 => q H3 (e2.trans e3)⟩

def spLogValue (K : PySem.W.Frag) (C : Addr) : Sp := fun vs H Q _ => ∃ (p : Addr) (b : Int) (im : PyData) (rs : List PyData) (B : Hp), vs = [.ref p] ∧ Ex B H ∧ LogAt K C B p b im rs ∧ RetD K B (.tuple [.int b, im, .tuple rs]) H Q
theorem ok_log_value {f C : Addr} {fd : FuncData} (F : Fun K "value" "Log.value" s_Log_value f fd) (L : LogC K C) : FnOk P w K mg base CX0 1 f fd ["self"] (spLogValue K C) := by
  refine F.ok sc_Log_value (fun vs H Q E h => ?_) (fun cdv A outer s H vs Q E hr h => ?_)
  · obtain ⟨p, b, im, rs, B, rfl, _⟩ := h
    rfl
  · obtain ⟨p, b, im, rs, B, rfl, eB, l, q⟩ := h
    refine ⟨_, (pss_one (ps_ret (pe_tup (pa_cons (pe_fld (pv 0) rfl) (pa_cons (pe_fld (pv 0) rfl) (pa_cons (pe_fld (pv 0) rfl) pa_nil)))))), ?_⟩
    exact s_retDB eB (ed_tup (eds_cons (ed_int (ev_base L (ev_var rfl) l)) (eds_cons (ed_image L (ev_var rfl) l) (eds_cons (ed_records L (ev_var rfl) l) eds_nil))) (by show 3 ≤ 100000; decide)) q
/-- p.value() as an expression -/
theorem ed_value {σ : L2.St} {H : Hp} {C p : Addr} {ta : TE} {E : XK} {b : Int} {im : PyData} {rs : List PyData} (h : Ev ta σ H (.ref p)) (l : LogAt K C H p b im rs) : EvD K (tMeth C "value" (spLogValue K C) [] E ta tNil) σ H (.tuple [.int b, im, .tuple rs]) := fun H1 e Q q => h H1 e _ fun H2 e2 => by
  obtain ⟨dx, vi, t, h1, h2, h3⟩ := id l
  exact ⟨p, dx, _, rfl, (e.trans e2) _ _ h1, fl_no _ _ _ (by decide +kernel) (by decide +kernel) (by decide +kernel), p, b, im, rs, H, rfl, e.trans e2, l, fun v H3 e3 hv => q v H3 (e2.trans e3) (dp_mono (ov_later e2) _ _ hv)⟩

/-! ### the cut -/
def spCut (K : PySem.W.Frag) (C CO : Addr) : Sp := fun vs H Q E => ∃ (p : Addr) (n b : Int) (v : V) (im im2 : PyData) (rs : List PyData) (B : Hp), vs = [.ref p, .int n, v] ∧ Ex B H ∧ LogAt K C B p b im rs ∧ Dp K B v im2 ∧
  (n < b → ∀ H1, Ex H H1 → E (.ref CO) none H1) ∧ (b ≤ n → ∀ q H1, H q = none → Ex H H1 → LogAt K C (ov B H H1) q n im2 (rs.drop (n - b).toNat) → Q (.ref q) H1)
theorem ok_cut {f C C_OutOfRange B f_i : Addr} {fd fd_i : FuncData} (D_Log_cut : Dm K C "cut" "Log.cut" s_Log_cut ["self", "number", "image"] f fd) (D_Log___init__ : Dm K C "__init__" "Log.__init__" s_Log___init__ ["self", "base", "image", "records"] f_i fd_i) (L_Log : Kl K mg "Log" C) (L : LogC K C) (E_OutOfRange : Err K mg "OutOfRange" C_OutOfRange B) :
    FnOk P w K mg base (L2.CX P w) 3 f fd ["self", "number", "image"] (spCut K C C_OutOfRange) := by
  have G_Log___init__ : FnOk P w K mg base CX0 1 f_i fd_i _ _ := ok_log_init D_Log___init__.F L
  refine D_Log_cut.F.okX sc_Log_cut (fun vs H Q E h => ?_) (fun cdv A outer s H vs Q E hr h => ?_)
  · obtain ⟨p, n, b, v, im, im2, rs, B, rfl, _⟩ := h
    rfl
  · obtain ⟨p, n, b, v, im, im2, rs, B, rfl, eB, l, hv, q1, q2⟩ := h
    refine ⟨_, (pss_cons (ps_if (pt_cmpR op_lt (pv 1) (pe_fld (pv 0) rfl) (nomark _))
  (pss_one (ps_raise rfl (takes_of rfl rfl rfl rfl) (Err.mk' E_OutOfRange rfl)))
  pss_nil)
  (pss_one (ps_ret (pe_make (L_Log.make D_Log___init__) G_Log___init__ (hr.mono (by decide)) (by rfl) L_Log.g D_Log___init__.b .nil pass0 (pa_cons (pv 1) (pa_cons (pv 2) (pa_cons (pe_slice sl_tupA (pe_fld (pv 0) rfl) (po_some (pe_op op_sub (pv 1) (pe_fld (pv 0) rfl))) po_none) pa_nil))))))), ?_⟩
    refine' q_when (b := decide (n < b)) (et_test (ev_op (ev_var rfl) (ev_base L (ev_var rfl) (l.mono eB)) rv_I0)) (fun hb H1 e1 => ?_) (fun hb H1 e1 => ?_)
    · exact q1 (of_decide_eq_true hb) H1 e1
    · have hb := of_decide_eq_false hb
      -- return Log(number, image, self.records[number - self.base:])
      have es : EvD K (tSl (rSlA K) (tFld K (tVar 0) "records") (tPart (tOp (rI0 fun i j => .int (i - j)) (tVar 1) (tFld K (tVar 0) "base"))) tNoPart) _ B (.tuple (rs.drop (n - b).toNat)) :=
        ed_is (ed_slT (σ := [some (.ref p), some (.int n), some v]) (ed_records L (ev_var rfl) l) (eo_some (ev_op (ev_var rfl) (ev_base L (ev_var rfl) l) rv_I0)) eo_none) (by
          show PyData.tuple (cutA rs (some (n - b)) none) = _
          rw [show n - b = (((n - b).toNat : Nat) : Int) by omega, cutA_from]
          rfl)
      exact s_mkLog (K := K) (B := B) (vb := n) (eB.trans e1) (eds_cons (ed_int (ev_var rfl)) (eds_cons (ed_var rfl hv) (eds_cons es eds_nil))) fun p' H3 np e3 l3 => q2 (by omega) p' H3 (fresh_back e1 np) (e1.trans e3) (l3.mono (ov_later e1))

theorem two_of {x y : Bool} (h : (!(x && y)) = false) : x = true ∧ y = true := by
  cases x <;> cases y <;> simp_all
theorem not_two {p q : Prop} [Decidable p] [Decidable q] (h : (!(decide p && decide q)) = true) : ¬ (p ∧ q) := fun ⟨a, b⟩ => by
  rw [decide_eq_true a, decide_eq_true b] at h
  cases h
def spAfter (K : PySem.W.Frag) (C CO : Addr) : Sp := fun vs H Q E => ∃ (p : Addr) (n b : Int) (im : PyData) (rs : List PyData) (B : Hp), vs = [.ref p, .int n] ∧ Ex B H ∧ LogAt K C B p b im rs ∧
  (¬ (b ≤ n ∧ n ≤ b + (rs.length : Int)) → ∀ H1, Ex H H1 → E (.ref CO) none H1) ∧ (b ≤ n → n ≤ b + (rs.length : Int) → RetD K B (.tuple (rs.drop (n - b).toNat)) H Q)
theorem ok_after2 {f C C_OutOfRange C_HallError f_l : Addr} {fd fd_l : FuncData} (D_Log_after : Dm K C "after" "Log.after" s_Log_after ["self", "number"] f fd) (D_Log_length : Pr K C "length" "Log.length" s_Log_length f_l fd_l) (L_Log : Kl K mg "Log" C) (L : LogC K C) (E_OutOfRange : Err K mg "OutOfRange" C_OutOfRange C_HallError) (T : Glo mg) :
    FnOk P w K mg base (L2.CX P w) 4 f fd ["self", "number"] (spAfter K C C_OutOfRange) := by
  have G_Log_length : FnOk P w K mg base CX0 1 f_l fd_l _ _ := ok_log_len D_Log_length.F L T
  refine D_Log_after.F.okX sc_Log_after (fun vs H Q E h => ?_) (fun cdv A outer s H vs Q E hr h => ?_)
  · obtain ⟨p, n, b, im, rs, B, rfl, _⟩ := h
    rfl
  · obtain ⟨p, n, b, im, rs, B, rfl, eB, l, q1, q2⟩ := h
    refine ⟨_, (pss_cons (ps_if (pt_not (pt_chain op_le op_le (pe_fld (pv 0) rfl) (pv 1) (pe_pr (pv 0) L_Log.cl D_Log_length G_Log_length (hr.mono (by decide)) pass0 rfl)))
  (pss_one (ps_raise rfl (takes_of rfl rfl rfl rfl) (Err.mk' E_OutOfRange rfl)))
  pss_nil)
  (pss_one (ps_ret (pe_slice sl_tupA (pe_fld (pv 0) rfl) (po_some (pe_op op_sub (pv 1) (pe_fld (pv 0) rfl))) po_none)))), ?_⟩
    have lH := l.mono eB
    refine' q_when (b := !(decide (b ≤ n) && decide (n ≤ b + (rs.length : Int)))) (et_not (et_test (ev_chain (ev_base L (ev_var rfl) lH) (ev_var rfl) rv_I0 (ev_loglen (K := K) (ev_var rfl) lH) rv_I0))) (fun hb H1 e1 => ?_) (fun hb H1 e1 => ?_)
    · exact q1 (not_two hb) H1 e1
    · obtain ⟨h1, h2⟩ := two_of hb
      have h1 := of_decide_eq_true h1
      have h2 := of_decide_eq_true h2
      have es : EvD K (tSl (rSlA K) (tFld K (tVar 0) "records") (tPart (tOp (rI0 fun i j => .int (i - j)) (tVar 1) (tFld K (tVar 0) "base"))) tNoPart) [some (.ref p), some (.int n)] B (.tuple (rs.drop (n - b).toNat)) :=
        ed_is (ed_slT (ed_records L (ev_var rfl) l) (eo_some (ev_op (ev_var rfl) (ev_base L (ev_var rfl) l) rv_I0)) eo_none) (by
          show PyData.tuple (cutA rs (some (n - b)) none) = _
          obtain ⟨m, hm⟩ := Int.eq_ofNat_of_zero_le (show 0 ≤ n - b by omega)
          rw [hm, cutA_from]
          rfl)
      exact s_retDB (K := K) (eB.trans e1) es (fun v H2 e2 hv => q2 h1 h2 v H2 (e1.trans e2) (dp_mono (ov_later e1) _ _ hv))

def spWith (K : PySem.W.Frag) (C : Addr) : Sp := fun vs H Q _ => ∃ (p : Addr) (v : V) (b : Int) (im d : PyData) (rs : List PyData) (B : Hp), vs = [.ref p, v] ∧ Ex B H ∧ LogAt K C B p b im rs ∧ Dp K B v d ∧ rs.length ≤ 1000 ∧ ∀ q H1, H q = none → Ex H H1 → LogAt K C (ov B H H1) q b im (rs ++ [d]) → Q (.ref q) H1
theorem ok_with {f C f_i : Addr} {fd fd_i : FuncData} (D_Log_with_record : Dm K C "with_record" "Log.with_record" s_Log_with_record ["self", "record"] f fd) (D_Log___init__ : Dm K C "__init__" "Log.__init__" s_Log___init__ ["self", "base", "image", "records"] f_i fd_i) (L_Log : Kl K mg "Log" C) (L : LogC K C) :
    FnOk P w K mg base CX0 4 f fd ["self", "record"] (spWith K C) := by
  have G_Log___init__ : FnOk P w K mg base CX0 1 f_i fd_i _ _ := ok_log_init D_Log___init__.F L
  refine D_Log_with_record.F.ok sc_Log_with_record (fun vs H Q E h => ?_) (fun cdv A outer s H vs Q E hr h => ?_)
  · obtain ⟨p, v, b, im, d, rs, B, rfl, _⟩ := h
    rfl
  · obtain ⟨p, v, b, im, d, rs, B, rfl, eB, l, hv, hl, q⟩ := h
    refine ⟨_, (pss_one (ps_ret (pe_make (L_Log.make D_Log___init__) G_Log___init__ (hr.mono (by decide)) (by rfl) L_Log.g D_Log___init__.b .nil pass0 (pa_cons (pe_fld (pv 0) rfl) (pa_cons (pe_fld (pv 0) rfl) (pa_cons (pe_op op_catA (pe_fld (pv 0) rfl) (pe_tup (pa_cons (pv 1) pa_nil))) pa_nil)))))), ?_⟩
    exact s_mkLog (K := K) (B := B) (vb := b) eB (eds_cons (ed_int (ev_base L (ev_var rfl) l)) (eds_cons (ed_image L (ev_var rfl) l) (eds_cons (ed_catT (ed_records L (ev_var rfl) l) (ed_tup (eds_cons (ed_var rfl hv) eds_nil) (Nat.le_of_ble_eq_true rfl)) (by rw [List.length_singleton]; omega)) eds_nil))) q
/-! ### the two, caught -/

/-! ### the replication -/
def fRp (ep J : Int) (lo dl : Addr) : List (Str × V) := [("epoch", .int ep), ("journals", .int J), ("_log", .ref lo), ("_lengths", .ref dl)]
structure RpC (K : PySem.W.Frag) (C : Addr) : Prop where
  cl : Cls K C
  nE : NoAttr K C "epoch"
  nJ : NoAttr K C "journals"
  nL : NoAttr K C "_log"
  nN : NoAttr K C "_lengths"
def RpS (C r dx dl : Addr) (ep J : Int) (lo : Addr) (ps : PI2) : MP := Stars [Pt r (.ins C dx (fRp ep J lo dl)), Pt dl (.dK (kvI ps))]
def RpH (H : Hp) (C r dx dl : Addr) (ep J : Int) (lo : Addr) (ps : PI2) : Prop := H r = some (.ins C dx (fRp ep J lo dl)) ∧ H dl = some (.dK (kvI ps))
theorem RpH.mono {H H' : Hp} {C r dx dl : Addr} {ep J : Int} {lo : Addr} {ps : PI2} (e : Ex H H') (h : RpH H C r dx dl ep J lo ps) : RpH H' C r dx dl ep J lo ps := ⟨e _ _ h.1, e _ _ h.2⟩
theorem rps_at {B H : Hp} {l : List MP} {C r dx dl : Addr} {ep J : Int} {lo : Addr} {ps : PI2} (i : Nat) (e : l[i]? = some (RpS C r dx dl ep J lo ps)) (hA : At B l H) : RpH H C r dx dl ep J lo ps :=
  ⟨stars_at (i := 0) (P := Pt r _) rfl (at_p i e hA), stars_at (i := 1) (P := Pt dl _) rfl (at_p i e hA)⟩
theorem fr_no (ep J : Int) (lo dl : Addr) {m : Str} (h1 : (m == ("epoch" : Str)) = false) (h2 : (m == ("journals" : Str)) = false) (h3 : (m == ("_log" : Str)) = false) (h4 : (m == ("_lengths" : Str)) = false) : (fRp ep J lo dl).lookup m = none := by
  unfold fRp
  rw [List.lookup_cons, h1, List.lookup_cons, h2, List.lookup_cons, h3, List.lookup_cons, h4]
  rfl
section
variable {σ : L2.St} {H : Hp} {ta : TE} {C r dx dl lo : Addr} {ep J : Int} {ps : PI2}
theorem ev_rE (L : RpC K C) (h : Ev ta σ H (.ref r)) (R : RpH H C r dx dl ep J lo ps) : Ev (tFld K ta "epoch") σ H (.int ep) := ev_fld h R.1 L.cl L.nE rfl
theorem ev_rJ (L : RpC K C) (h : Ev ta σ H (.ref r)) (R : RpH H C r dx dl ep J lo ps) : Ev (tFld K ta "journals") σ H (.int J) := ev_fld h R.1 L.cl L.nJ rfl
theorem ev_rL (L : RpC K C) (h : Ev ta σ H (.ref r)) (R : RpH H C r dx dl ep J lo ps) : Ev (tFld K ta "_log") σ H (.ref lo) := ev_fld h R.1 L.cl L.nL rfl
theorem ev_rN (L : RpC K C) (h : Ev ta σ H (.ref r)) (R : RpH H C r dx dl ep J lo ps) : Ev (tFld K ta "_lengths") σ H (.ref dl) := ev_fld h R.1 L.cl L.nN rfl
/-- a method without more arguments, one with -/
theorem ev_meth0 {sp : Sp} {E : XK} {m : Str} {fs : List (Str × V)} {v : V} (h : Ev ta σ H (.ref r)) (hr : H r = some (.ins C dx fs)) (hn : fs.lookup m = none) (hs : SpV sp [.ref r] H v) : Ev (tMeth C m sp [] E ta tNil) σ H v := fun H1 e Q q => h H1 e _ fun H2 e2 => ⟨r, dx, fs, rfl, (e.trans e2) _ _ hr, hn, hs H2 (e.trans e2) Q (fun H3 e3 => q H3 (e2.trans e3)) E⟩
theorem ev_methA {sp : Sp} {E : XK} {m : Str} {fs : List (Str × V)} {v : V} {tr : TA} {vs : List V} (h : Ev ta σ H (.ref r)) (hr : H r = some (.ins C dx fs)) (hn : fs.lookup m = none) (ha : EvA tr σ H vs) (hs : SpV sp (.ref r :: (vs ++ [])) H v) : Ev (tMeth C m sp [] E ta tr) σ H v := fun H1 e Q q => h H1 e _ fun H2 e2 => ⟨r, dx, fs, rfl, (e.trans e2) _ _ hr, hn, ha H2 (e.trans e2) _ fun H3 e3 => hs H3 ((e.trans e2).trans e3) Q (fun H4 e4 => q H4 ((e2.trans e3).trans e4)) E⟩
/-- the same, data -/
theorem ed_meth0 {sp : Sp} {E : XK} {m : Str} {fs : List (Str × V)} {d : PyData} (h : Ev ta σ H (.ref r)) (hr : H r = some (.ins C dx fs)) (hn : fs.lookup m = none) (hs : SpD K sp [.ref r] H d) : EvD K (tMeth C m sp [] E ta tNil) σ H d := fun H1 e Q q => h H1 e _ fun H2 e2 => ⟨r, dx, fs, rfl, (e.trans e2) _ _ hr, hn, hs H2 (e.trans e2) Q (fun v H3 e3 hv => q v H3 (e2.trans e3) (dp_mono (ov_later e2) _ _ hv)) E⟩
theorem ed_methA {sp : Sp} {E : XK} {m : Str} {fs : List (Str × V)} {d : PyData} {tr : TA} {vs : List V} (h : Ev ta σ H (.ref r)) (hr : H r = some (.ins C dx fs)) (hn : fs.lookup m = none) (ha : EvA tr σ H vs) (hs : SpD K sp (.ref r :: (vs ++ [])) H d) : EvD K (tMeth C m sp [] E ta tr) σ H d := fun H1 e Q q => h H1 e _ fun H2 e2 => ⟨r, dx, fs, rfl, (e.trans e2) _ _ hr, hn, ha H2 (e.trans e2) _ fun H3 e3 => hs H3 ((e.trans e2).trans e3) Q (fun v H4 e4 hv => q v H4 ((e2.trans e3).trans e4) (dp_mono (ov_later (e2.trans e3)) _ _ hv)) E⟩
theorem ev_propV {sp : Sp} {E : XK} {fs : List (Str × V)} {v : V} (h : Ev ta σ H (.ref r)) (hr : H r = some (.ins C dx fs)) (hs : SpV sp [.ref r] H v) : Ev (tProp C sp [] E ta) σ H v := fun H1 e Q q => h H1 e _ fun H2 e2 => ⟨r, dx, fs, rfl, (e.trans e2) _ _ hr, hs H2 (e.trans e2) Q (fun H3 e3 => q H3 (e2.trans e3)) E⟩
end
def spRInit (C : Addr) : Sp := fun vs H Q _ => ∃ (r dx lo : Addr) (ep J : Int) (B : Hp) (F : List MP), vs = [.ref r, .int ep, .ref lo, .int J] ∧ At B (Pt r (.ins C dx []) :: F) H ∧ ∀ dl H', At B (RpS C r dx dl ep J lo [] :: F) H' → Q .non H'
theorem ok_rinit {f C : Addr} {fd : FuncData} (F : Fun K "__init__" "Replication.__init__" s_Replication___init__ f fd) (L : RpC K C) : FnOk P w K mg base CX0 1 f fd ["self", "epoch", "log", "journals"] (spRInit C) := by
  refine F.ok sc_Replication___init__ (fun vs H Q E h => ?_) (fun cdv A outer s H vs Q E hr h => ?_)
  · obtain ⟨r, dx, lo, ep, J, B, F, rfl, _⟩ := h
    rfl
  · obtain ⟨r, dx, lo, ep, J, B, Fr, rfl, hA, q⟩ := h
    refine ⟨_, (pss_cons (ps_fld (pv 0) (pv 1) rfl)
  (pss_cons (ps_fld (pv 0) (pv 3) rfl)
  (pss_cons (ps_fld (pv 0) (pv 2) rfl)
  (pss_one (ps_fld (pv 0) pe_dnewK rfl))))), ?_⟩
    refine qe_fld (K := K) 0 rfl hA (ev_var rfl) (fun _ => ev_var rfl) L.cl L.nE (by show 0 < 1000; decide) fun H1 hA => ?_
    refine qe_fld (K := K) 0 rfl hA (ev_var rfl) (fun _ => ev_var rfl) L.cl L.nJ (by show 1 < 1000; decide) fun H2 hA => ?_
    refine qe_fld (K := K) 0 rfl hA (ev_var rfl) (fun _ => ev_var rfl) L.cl L.nL (by show 2 < 1000; decide) fun H3 hA => ?_
    refine se_fldD (K := K) 0 rfl hA (fun _ => ev_var rfl) L.cl L.nN (by show 3 < 1000; decide) fun dl H4 hA => ?_
    exact q dl H4 (at_stars' [_, _] (at_swap hA))
def spRLog (C : Addr) : Sp := fun vs H Q _ => ∃ (r dx dl lo : Addr) (ep J : Int) (ps : PI2), vs = [.ref r] ∧ RpH H C r dx dl ep J lo ps ∧ RetV (.ref lo) H Q
theorem ok_rlog {f C : Addr} {fd : FuncData} (F : Fun K "log" "Replication.log" s_Replication_log f fd) (L : RpC K C) : FnOk P w K mg base CX0 1 f fd ["self"] (spRLog C) := by
  refine F.ok sc_Replication_log (fun vs H Q E h => ?_) (fun cdv A outer s H vs Q E hr h => ?_)
  · obtain ⟨r, dx, dl, lo, ep, J, ps, rfl, _⟩ := h
    rfl
  · obtain ⟨r, dx, dl, lo, ep, J, ps, rfl, R, q⟩ := h
    refine ⟨_, (pss_one (ps_ret (pe_fld (pv 0) rfl))), ?_⟩
    exact s_ret (ev_rL L (ev_var rfl) R) q
theorem spRLog_v {H : Hp} {C r dx dl lo : Addr} {ep J : Int} {ps : PI2} (R : RpH H C r dx dl ep J lo ps) : SpV (spRLog C) [.ref r] H (.ref lo) := fun H1 e Q q _ => ⟨r, dx, dl, lo, ep, J, ps, rfl, R.mono e, q⟩
def spRM (C : Addr) : Sp := fun vs H Q _ => ∃ (r dx dl lo : Addr) (ep J k : Int) (ps : PI2), vs = [.ref r, .int k] ∧ RpH H C r dx dl ep J lo ps ∧ RetV (vO (lkI ps k)) H Q
theorem ok_rmatched {f C : Addr} {fd : FuncData} (F : Fun K "matched" "Replication.matched" s_Replication_matched f fd) (L : RpC K C) : FnOk P w K mg base CX0 1 f fd ["self", "journal"] (spRM C) := by
  refine F.ok sc_Replication_matched (fun vs H Q E h => ?_) (fun cdv A outer s H vs Q E hr h => ?_)
  · obtain ⟨r, dx, dl, lo, ep, J, k, ps, rfl, _⟩ := h
    rfl
  · obtain ⟨r, dx, dl, lo, ep, J, k, ps, rfl, R, q⟩ := h
    refine ⟨_, (pss_one (ps_ret (pe_dget1 (hu_of hr) (pe_fld (pv 0) rfl) (pv 1) ⟨rfl, rfl, rfl, rfl⟩))), ?_⟩
    exact s_ret (ev_get1I (ev_rN L (ev_var rfl) R) (ev_var rfl) R.2) q
theorem spRM_v {H : Hp} {C r dx dl lo : Addr} {ep J k : Int} {ps : PI2} (R : RpH H C r dx dl ep J lo ps) : SpV (spRM C) (.ref r :: ([.int k] ++ [])) H (vO (lkI ps k)) := fun H1 e Q q _ => ⟨r, dx, dl, lo, ep, J, k, ps, rfl, R.mono e, q⟩
theorem ev_matched {σ : L2.St} {H : Hp} {ta tb : TE} {E : XK} {C r dx dl lo : Addr} {ep J k : Int} {ps : PI2} (h : Ev ta σ H (.ref r)) (hk : Ev tb σ H (.int k)) (R : RpH H C r dx dl ep J lo ps) : Ev (tMeth C "matched" (spRM C) [] E ta (tCons tb tNil)) σ H (vO (lkI ps k)) :=
  ev_methA h R.1 (fr_no _ _ _ _ (by decide +kernel) (by decide +kernel) (by decide +kernel) (by decide +kernel)) (ea_cons hk ea_nil) (spRM_v R)
def noteI (ps : PI2) (k n : Int) : PI2 := match lkI ps k with
  | none => putI ps k n
  | some t => if n > t then putI ps k n else ps
def spRNote (C : Addr) : Sp := fun vs H Q _ => ∃ (r dx dl lo : Addr) (ep J k n : Int) (ps : PI2) (B : Hp) (F : List MP), vs = [.ref r, .int k, .int n] ∧ At B (RpS C r dx dl ep J lo ps :: F) H ∧ ps.length ≤ 1000 ∧ ∀ H1, At B (RpS C r dx dl ep J lo (noteI ps k n) :: F) H1 → Q .non H1
theorem ok_rnote {f C f_m : Addr} {fd fd_m : FuncData} (F : Fun K "note" "Replication.note" s_Replication_note f fd) (L : RpC K C) (L_Replication : Kl K mg "Replication" C) (D_Replication_matched : Dm K C "matched" "Replication.matched" s_Replication_matched ["self", "journal"] f_m fd_m) : FnOk P w K mg base CX0 2 f fd ["self", "journal", "length"] (spRNote C) := by
  have G_Replication_matched : FnOk P w K mg base CX0 1 f_m fd_m _ _ := ok_rmatched D_Replication_matched.F L
  refine F.ok sc_Replication_note (fun vs H Q E h => ?_) (fun cdv A outer s H vs Q E hr h => ?_)
  · obtain ⟨r, dx, dl, lo, ep, J, k, n, ps, B, Fr, rfl, _⟩ := h
    rfl
  · obtain ⟨r, dx, dl, lo, ep, J, k, n, ps, B, Fr, rfl, hA, hl, q⟩ := h
    refine ⟨_, (pss_cons (ps_set (i := 3) sc_Replication_note.nd rfl (.inl rfl) (pe_meth (pv 0) L_Replication.cl D_Replication_matched.m G_Replication_matched (hr.mono (by decide)) D_Replication_matched.b .nil pass0 (pa_cons (pv 1) pa_nil)))
  (pss_one (ps_if (PW.pt (pw_or (pt_cmpR op_isN (pv 3) pe_non (nomark _)) (pw_or1 (pt_cmpR op_gt (pv 2) (pv 3) (nomark _)))))
  (pss_one (ps_dput (hu_of hr) (pe_fld (pv 0) rfl) (pv 1) (pv 2) rfl))
  pss_nil))), ?_⟩
    have R := rps_at 0 rfl hA
    refine qe_asg hA (ev_matched (ev_var rfl) (ev_var rfl) R) fun H1 hA => ?_
    have R := rps_at 0 rfl hA
    have hput : ∀ H2, At B (RpS C r dx dl ep J lo ps :: Fr) H2 → ∀ H3, Ex H2 H3 → At B (RpS C r dx dl ep J lo (putI ps k n) :: Fr) (upd H3 dl (.dK (putK (kvI ps) (Sum.inl k) (.int n)))) := fun H2 hA H3 e3 => by
      rw [kvI_put]
      have hA := at_stars (at_ex hA e3)
      exact at_stars' [_, _] (at_upd (a := dl) (u := .dK (kvI (putI ps k n))) 1 rfl hA)
    cases hk : lkI ps k with
    | none =>
      have e0 : noteI ps k n = putI ps k n := by unfold noteI; rw [hk]
      refine se_when (b := true) hA (et_orL (et_is (et_isN (ev_var rfl)) (decide_eq_true rfl))) (fun _ H2 hA => ?_) (fun hb => nomatch hb)
      have R := rps_at 0 rfl hA
      refine s_put (a := dl) (kvs := kvI ps) (k := Sum.inl k) (v := .int n) (ev_var rfl) (ev_rN L (ev_var rfl) R) (ev_var rfl) R.2 (by rw [kvI_len]; omega) fun H3 e3 => ?_
      exact q _ (e0 ▸ hput H2 hA H3 e3)
    | some t =>
      have e0 : noteI ps k n = if n > t then putI ps k n else ps := by unfold noteI; rw [hk]
      rw [e0] at q
      refine se_when (b := decide (n > t)) hA (et_or (a := false) (b := decide (n > t)) (et_is (et_isN (x := vO (some t)) (ev_var rfl)) (decide_eq_false (show ¬ vO (some t) = .non from fun h => by cases h))) (fun _ => et_test (ev_op (x := .int n) (y := .int t) (ev_var rfl) (ev_var rfl) rv_I0))) (fun hb H2 hA => ?_) (fun hb H2 hA => ?_)
      · have R := rps_at 0 rfl hA
        rw [if_pos (of_decide_eq_true hb)] at q
        refine s_put (a := dl) (kvs := kvI ps) (k := Sum.inl k) (v := .int n) (ev_var rfl) (ev_rN L (ev_var rfl) R) (ev_var rfl) R.2 (by rw [kvI_len]; omega) fun H3 e3 => ?_
        exact q _ (hput H2 hA H3 e3)
      · rw [if_neg (of_decide_eq_false hb)] at q
        exact q _ hA
theorem go_meth {σ : L2.St} {H : Hp} {ta : TE} {C r dx : Addr} {sp : Sp} {E : XK} {m : Str} {fs : List (Str × V)} {tr : TA} {Q : VK} (h : Ev ta σ H (.ref r)) (hr : H r = some (.ins C dx fs)) (hn : fs.lookup m = none) (k : ∀ H1, Ex H H1 → tr σ H1 fun vs H2 => sp (.ref r :: (vs ++ [])) H2 Q E) : tMeth C m sp [] E ta tr σ H Q := h H (Ex.refl H) _ fun H1 e1 => ⟨r, dx, fs, rfl, e1 _ _ hr, hn, k H1 e1⟩
theorem go_mx {σ : L2.St} {H : Hp} {ta : TE} {C r dx : Addr} {sp : Sp} {E : L2.St → XK} {m : Str} {fs : List (Str × V)} {tr : TA} {Q : VK} (h : Ev ta σ H (.ref r)) (hr : H r = some (.ins C dx fs)) (hn : fs.lookup m = none) (k : ∀ H1, Ex H H1 → tr σ H1 fun vs H2 => sp (.ref r :: vs) H2 Q (E σ)) : tMX C m sp E ta tr σ H Q := h H (Ex.refl H) _ fun H1 e1 => ⟨r, dx, fs, rfl, e1 _ _ hr, hn, k H1 e1⟩
theorem q_fld0 {σ : L2.St} {H : Hp} {ta tv : TE} {D : Ends} {tz : TS} {f : Str} (h : tv σ H fun y H1 => ta σ H1 fun x H2 => ∃ a C dx fs, x = .ref a ∧ H2 a = some (.ins C dx fs) ∧ Cls K C ∧ NoAttr K C f ∧ fs.length < 1000 ∧ tz D σ (upd H2 a (.ins C dx (putF f y fs)))) : tSeq (sFld K ta tv f) tz D σ H := h
theorem r_do {σ : L2.St} {H : Hp} {te : TE} {D : Ends} (h : te σ H D.rt) : tRet te D σ H := h
/-- list(d), its keys -/
theorem el_keys {σ : L2.St} {H : Hp} {td : TE} {a : Addr} {ps : PI2} (h : Ev td σ H (.ref a)) (hd : H a = some (.dK (kvI ps))) : EvL (tCB (fun xs H Q => ∃ (a : Addr) (kvs : List (Key × V)), xs = [.ref a] ∧ Rd H a (.dK kvs) ∧ ∀ p, H p = none → Q (.ref p) (upd H p (.lst (kvs.map fun kv => kV kv.1)))) (tCons td tNil)) σ H ((ps.map (·.1)).map V.int) := fun H1 e Q q =>
  h H1 e _ fun H2 e2 => ⟨a, kvI ps, rfl, .inl ((e.trans e2) _ _ hd), fun p hp => q p _ (fresh_back e2 hp) (e2.trans (Ex.new hp)) (by
    rw [upd_same]
    unfold kvI
    rw [List.map_map, List.map_map]
    rfl)⟩
def spRSy (C : Addr) : Sp := fun vs H Q _ => ∃ (r dx dl lo : Addr) (ep J : Int) (ps : PI2), vs = [.ref r] ∧ RpH H C r dx dl ep J lo ps ∧ ps.length ≤ 1000 ∧ RetV (.bl (hmB (ps.map (·.1)) J)) H Q
theorem ok_rsynced {f C f_h f_m : Addr} {fd fd_h fd_m : FuncData} (F : Fun K "synced" "Replication.synced" s_Replication_synced f fd) (L : RpC K C) (D_has_majority : Df K mg "has_majority" s_has_majority ["members", "count"] f_h fd_h) (D_majority : Df K mg "majority" s_majority ["count"] f_m fd_m) (T : Glo mg) : FnOk P w K mg base CX0 3 f fd ["self"] (spRSy C) := by
  have G_has_majority : FnOk P w K mg base CX0 2 f_h fd_h _ _ := ok_hm D_has_majority.F D_majority T
  refine F.ok sc_Replication_synced (fun vs H Q E h => ?_) (fun cdv A outer s H vs Q E hr h => ?_)
  · obtain ⟨r, dx, dl, lo, ep, J, ps, rfl, _⟩ := h
    rfl
  · obtain ⟨r, dx, dl, lo, ep, J, ps, rfl, R, hl, q⟩ := h
    refine ⟨_, (pss_one (ps_ret (pe_call G_has_majority (hr.mono (by decide)) (by rfl) D_has_majority.g D_has_majority.F.kp D_has_majority.b .nil pass0 (pa_cons (pe_callTy (call_listD rfl) (by rfl) T.list (by decide +kernel) (pa_cons (pe_fld (pv 0) rfl) pa_nil)) (pa_cons (pe_fld (pv 0) rfl) pa_nil))))), ?_⟩
    refine r_do (go_call (go_cons' (el_keys (ev_rN L (ev_var rfl) R) R.2 H (Ex.refl H) _ fun p H1 np e1 hp => ?_)))
    refine go_cons (ev_rJ L (ev_var rfl) (R.mono e1)) fun H2 e2 => go_nil ?_
    exact ⟨p, ps.map (·.1), J, rfl, sq_of (e2 _ _ hp), by rw [List.length_map]; exact hl, fun H3 e3 => q H3 ((e1.trans e2).trans e3)⟩
theorem spRSy_v {H : Hp} {C r dx dl lo : Addr} {ep J : Int} {ps : PI2} (R : RpH H C r dx dl ep J lo ps) (hl : ps.length ≤ 1000) : SpV (spRSy C) [.ref r] H (.bl (hmB (ps.map (·.1)) J)) := fun H1 e Q q _ => ⟨r, dx, dl, lo, ep, J, ps, rfl, R.mono e, hl, q⟩
def spRC (C : Addr) : Sp := fun vs H Q _ => ∃ (r dx dl lo : Addr) (ep J : Int) (ps : PI2), vs = [.ref r] ∧ RpH H C r dx dl ep J lo ps ∧ (ps.map (·.1)).Nodup ∧ ps.length ≤ 1000 ∧ 1 ≤ J ∧ J ≤ 1000 ∧ ∀ c, CP ps J c → RetV (.int c) H Q
theorem ok_rcp {f C f_c f_m : Addr} {fd fd_c fd_m : FuncData} (F : Fun K "commit_point" "Replication.commit_point" s_Replication_commit_point f fd) (L : RpC K C) (D_commit_point : Df K mg "commit_point" s_commit_point ["matched", "count"] f_c fd_c) (c_commit_point_quorum : mg "commit_point_quorum" = some (.ref f_c)) (D_majority : Df K mg "majority" s_majority ["count"] f_m fd_m) (T : Glo mg) : FnOk P w K mg base CX0 3 f fd ["self"] (spRC C) := by
  have G_commit_point : FnOk P w K mg base CX0 2 f_c fd_c _ _ := ok_commit_point D_commit_point.F D_majority T
  refine F.ok sc_Replication_commit_point (fun vs H Q E h => ?_) (fun cdv A outer s H vs Q E hr h => ?_)
  · obtain ⟨r, dx, dl, lo, ep, J, ps, rfl, _⟩ := h
    rfl
  · obtain ⟨r, dx, dl, lo, ep, J, ps, rfl, R, nd, hl, h1, h2, q⟩ := h
    refine ⟨_, (pss_one (ps_ret (pe_call G_commit_point (hr.mono (by decide)) (by rfl) c_commit_point_quorum D_commit_point.F.kp D_commit_point.b .nil pass0 (pa_cons (pe_fld (pv 0) rfl) (pa_cons (pe_fld (pv 0) rfl) pa_nil))))), ?_⟩
    refine r_do (go_call (go_cons (ev_rN L (ev_var rfl) R) fun H1 e1 => go_cons (ev_rJ L (ev_var rfl) (R.mono e1)) fun H2 e2 => go_nil ?_))
    exact ⟨dl, ps, J, rfl, (e1.trans e2) _ _ R.2, nd, hl, h1, h2, fun c hc H3 e3 => q c hc H3 ((e1.trans e2).trans e3)⟩

/-! ### bodies -/
def logD (b : Int) (im : PyData) (rs : List PyData) : PyData := .tuple [.int b, im, .tuple rs]
def syncD (ep b : Int) (im : PyData) (rs : List PyData) : PyData := .tuple [.str "sync", .int ep, logD b im rs]
def missD (ep b : Int) (im : PyData) (rs : List PyData) : Option Int → PyData
  | none => syncD ep b im rs
  | some t => if t < b then .tuple [.str "purge", .int ep, .int b, im] else if t < b + (rs.length : Int) then .tuple [.str "edit", .int ep, .int (t + 1), .tuple (rs.drop (t - b).toNat)] else .none
def spRB (K : PySem.W.Frag) (C CL : Addr) : Sp := fun vs H Q _ => ∃ (r dx dl lo : Addr) (ep J b : Int) (im : PyData) (rs : List PyData) (ps : PI2) (B : Hp), vs = [.ref r] ∧ Ex B H ∧ RpH H C r dx dl ep J lo ps ∧ LogAt K CL B lo b im rs ∧ RetD K B (syncD ep b im rs) H Q
/-- what evaluates over the heap of now, told over a base -/
theorem ret_base {B H : Hp} {te : TE} {σ : L2.St} {d : PyData} {Q : VK} (eB : Ex B H) (h : EvD K te σ H d) (q : RetD K H d H Q) : te σ H Q := h H (Ex.refl H) Q fun v H2 e2 hv => q v H2 e2 hv
theorem ok_rsync {f C CL f_v : Addr} {fd fd_v : FuncData} (F : Fun K "sync_body" "Replication.sync_body" s_Replication_sync_body f fd) (L : RpC K C) (D_Log_value : Dm K CL "value" "Log.value" s_Log_value ["self"] f_v fd_v) (L_Log : Kl K mg "Log" CL) (LL : LogC K CL) : FnOk P w K mg base CX0 2 f fd ["self"] (spRB K C CL) := by
  have G_Log_value : FnOk P w K mg base CX0 1 f_v fd_v _ _ := ok_log_value D_Log_value.F LL
  refine F.ok sc_Replication_sync_body (fun vs H Q E h => ?_) (fun cdv A outer s H vs Q E hr h => ?_)
  · obtain ⟨r, dx, dl, lo, ep, J, b, im, rs, ps, B, rfl, _⟩ := h
    rfl
  · obtain ⟨r, dx, dl, lo, ep, J, b, im, rs, ps, B, rfl, eB, R, l, q⟩ := h
    refine ⟨_, (pss_one (ps_ret (pe_tup (pa_cons pe_str (pa_cons (pe_fld (pv 0) rfl) (pa_cons (pe_meth0 (pe_fld (pv 0) rfl) L_Log.cl D_Log_value.m G_Log_value (hr.mono (by decide)) D_Log_value.b .nil pass0) pa_nil)))))), ?_⟩
    -- the three items one after the other
    refine r_do (go_tup (go_cons ev_c fun H1 e1 => go_cons (ev_rE L (ev_var rfl) (R.mono e1)) fun H2 e2 => go_cons' ?_))
    obtain ⟨dx2, vi, t, h1, h2, h3⟩ := id l
    refine go_meth (ev_rL L (ev_var rfl) (R.mono (e1.trans e2))) ((eB.trans (e1.trans e2)) _ _ h1) (fl_no _ _ _ (by decide +kernel) (by decide +kernel) (by decide +kernel)) fun H3 e3 => ?_
    have e03 := e1.trans (e2.trans e3)
    refine go_nil ⟨lo, b, im, rs, B, rfl, eB.trans e03, l, fun v H4 e4 hv => go_nil ⟨sz_of (by show 3 ≤ 100000; decide), fun p hp => ?_⟩⟩
    have e5 := (Ex.new (o := .tup [.str "sync", .int ep, v]) hp)
    refine q _ _ ((e03.trans e4).trans e5) (.tup (st_of (ov_new eB (e03.trans e4) hp)) (.cons (.str _) (.cons (.int _) (.cons (dp_mono ((ov_later e03).trans (ov_grow e5)) _ _ hv) .nil))))
theorem spRB_d {H : Hp} {C CL r dx dl lo : Addr} {ep J b : Int} {im : PyData} {rs : List PyData} {ps : PI2} (R : RpH H C r dx dl ep J lo ps) (l : LogAt K CL H lo b im rs) : SpD K (spRB K C CL) [.ref r] H (syncD ep b im rs) := fun H1 e Q q _ => ⟨r, dx, dl, lo, ep, J, b, im, rs, ps, H, rfl, e, R.mono e, l, q⟩
def spRMi (K : PySem.W.Frag) (C CL : Addr) : Sp := fun vs H Q _ => ∃ (r dx dl lo : Addr) (ep J k b : Int) (im : PyData) (rs : List PyData) (ps : PI2) (B : Hp), vs = [.ref r, .int k] ∧ Ex B H ∧ RpH B C r dx dl ep J lo ps ∧ LogAt K CL B lo b im rs ∧ RetD K B (missD ep b im rs (lkI ps k)) H Q
theorem ev_len2 {σ : L2.St} {H : Hp} {CL lo : Addr} {ta : TE} {E : XK} {b : Int} {im : PyData} {rs : List PyData} (h : Ev ta σ H (.ref lo)) (l : LogAt K CL H lo b im rs) : Ev (tProp CL (spLogLen K CL) [] E ta) σ H (.int (b + (rs.length : Int))) := ev_loglen h l
theorem ok_rmissing {f C CL f_v f_s f_m f_l f_a C_OutOfRange C_HallError : Addr} {fd fd_v fd_s fd_m fd_l fd_a : FuncData} (F : Fun K "missing" "Replication.missing" s_Replication_missing f fd) (L : RpC K C) (L_Replication : Kl K mg "Replication" C) (D_Replication_matched : Dm K C "matched" "Replication.matched" s_Replication_matched ["self", "journal"] f_m fd_m)
    (D_Replication_sync_body : Dm K C "sync_body" "Replication.sync_body" s_Replication_sync_body ["self"] f_s fd_s) (D_Log_value : Dm K CL "value" "Log.value" s_Log_value ["self"] f_v fd_v) (D_Log_length : Pr K CL "length" "Log.length" s_Log_length f_l fd_l) (D_Log_after : Dm K CL "after" "Log.after" s_Log_after ["self", "number"] f_a fd_a) (L_Log : Kl K mg "Log" CL) (LL : LogC K CL)
    (E_OutOfRange : Err K mg "OutOfRange" C_OutOfRange C_HallError) (T : Glo mg) : FnOk P w K mg base CX0 5 f fd ["self", "journal"] (spRMi K C CL) := by
  have G_Replication_matched : FnOk P w K mg base CX0 1 f_m fd_m _ _ := ok_rmatched D_Replication_matched.F L
  have G_Replication_sync_body : FnOk P w K mg base CX0 2 f_s fd_s _ _ := ok_rsync D_Replication_sync_body.F L D_Log_value L_Log LL
  have G_Log_length : FnOk P w K mg base CX0 1 f_l fd_l _ _ := ok_log_len D_Log_length.F LL T
  have G_Log_after : FnOk P w K mg base (L2.CX P w) 4 f_a fd_a _ _ := ok_after2 D_Log_after D_Log_length L_Log LL E_OutOfRange T
  refine F.ok sc_Replication_missing (fun vs H Q E h => ?_) (fun cdv A outer s H vs Q E hr h => ?_)
  · obtain ⟨r, dx, dl, lo, ep, J, k, b, im, rs, ps, B, rfl, _⟩ := h
    rfl
  · obtain ⟨r, dx, dl, lo, ep, J, k, b, im, rs, ps, B, rfl, eB, R, l, q⟩ := h
    refine ⟨_, (pss_cons (ps_set (i := 2) sc_Replication_missing.nd rfl (.inl rfl) (pe_meth (pv 0) L_Replication.cl D_Replication_matched.m G_Replication_matched (hr.mono (by decide)) D_Replication_matched.b .nil pass0 (pa_cons (pv 1) pa_nil)))
  (pss_cons (ps_if (pt_cmpR op_isN (pv 2) pe_non (nomark _))
  (pss_one (ps_ret (pe_meth0 (pv 0) L_Replication.cl D_Replication_sync_body.m G_Replication_sync_body (hr.mono (by decide)) D_Replication_sync_body.b .nil pass0)))
  pss_nil)
  (pss_cons (ps_if (pt_cmpR op_lt (pv 2) (pe_fld (pe_fld (pv 0) rfl) rfl) (nomark _))
  (pss_one (ps_ret (pe_tup (pa_cons pe_str (pa_cons (pe_fld (pv 0) rfl) (pa_cons (pe_fld (pe_fld (pv 0) rfl) rfl) (pa_cons (pe_fld (pe_fld (pv 0) rfl) rfl) pa_nil)))))))
  pss_nil)
  (pss_cons (ps_if (pt_cmpR op_lt (pv 2) (pe_pr (pe_fld (pv 0) rfl) L_Log.cl D_Log_length G_Log_length (hr.mono (by decide)) pass0 rfl) (nomark _))
  (pss_one (ps_ret (pe_tup (pa_cons pe_str (pa_cons (pe_fld (pv 0) rfl) (pa_cons (pe_op op_add (pv 2) pe_int) (pa_cons (pe_meth (pe_fld (pv 0) rfl) L_Log.cl D_Log_after.m G_Log_after (hr.mono (by decide)) D_Log_after.b .nil passL (pa_cons (pv 2) pa_nil)) pa_nil)))))))
  pss_nil)
  (pss_one (ps_ret pe_non)))))), ?_⟩
    refine q_asg (ev_matched (ev_var rfl) (ev_var rfl) (R.mono eB)) fun H1 e1 => ?_
    have eB1 := eB.trans e1
    cases hk : lkI ps k with
    | none =>
      rw [hk] at q
      refine q_when (b := true) (et_is (et_isN (x := .non) (ev_var rfl)) (decide_eq_true rfl)) (fun _ H2 e2 => ?_) (fun hb => nomatch hb)
      exact s_retDB (K := K) (eB1.trans e2) (ed_meth0 (ev_var rfl) R.1 (fr_no _ _ _ _ (by decide +kernel) (by decide +kernel) (by decide +kernel) (by decide +kernel)) (spRB_d R l)) fun v H3 e3 hv => q v H3 ((e1.trans e2).trans e3) (dp_mono (ov_later (e1.trans e2)) _ _ hv)
    | some t =>
      rw [hk] at q
      dsimp only [missD] at q
      refine q_when (b := false) (et_is (et_isN (x := vO (some t)) (ev_var rfl)) (decide_eq_false (show ¬ vO (some t) = .non from fun h => by cases h))) (fun hb => nomatch hb) (fun _ H2 e2 => ?_)
      have eB2 := eB1.trans e2
      refine q_when (b := decide (t < b)) (et_test (ev_op (x := .int t) (ev_var rfl) (ev_base LL (ev_rL L (ev_var rfl) (R.mono eB2)) (l.mono eB2)) rv_I0)) (fun hb H3 e3 => ?_) (fun hb H3 e3 => ?_)
      · rw [if_pos (of_decide_eq_true hb)] at q
        exact s_retDB (K := K) (eB2.trans e3) (ed_tup (eds_cons ed_str (eds_cons (ed_int (ev_rE L (ev_var rfl) R)) (eds_cons (ed_int (ev_base LL (ev_rL L (ev_var rfl) R) l)) (eds_cons (ed_image LL (ev_rL L (ev_var rfl) R) l) eds_nil)))) (by show 4 ≤ 100000; decide)) fun v H4 e4 hv => q v H4 (((e1.trans e2).trans e3).trans e4) (dp_mono (ov_later ((e1.trans e2).trans e3)) _ _ hv)
      · have hb := of_decide_eq_false hb
        rw [if_neg hb] at q
        have eB3 := eB2.trans e3
        refine q_when (b := decide (t < b + (rs.length : Int))) (et_test (ev_op (x := .int t) (ev_var rfl) (ev_len2 (ev_rL L (ev_var rfl) (R.mono eB3)) (l.mono eB3)) rv_I0)) (fun hc H4 e4 => ?_) (fun hc H4 e4 => ?_)
        · have hc := of_decide_eq_true hc
          rw [if_pos hc] at q
          obtain ⟨dx2, vi, tv, h1, h2, h3⟩ := id l
          exact s_retDB (K := K) (eB3.trans e4) (ed_tup (eds_cons ed_str (eds_cons (ed_int (ev_rE L (ev_var rfl) R)) (eds_cons (ed_int (ev_op (x := .int t) (ev_var rfl) ev_c rv_I0)) (eds_cons (ed_methA (vs := [.int t]) (ev_rL L (ev_var rfl) R) h1 (fl_no _ _ _ (by decide +kernel) (by decide +kernel) (by decide +kernel)) (ea_cons (ev_var rfl) ea_nil) (fun H5 e5 Q q E => ⟨lo, t, b, im, rs, B, rfl, e5, l, fun hn => absurd ⟨by omega, by omega⟩ hn, fun _ _ => q⟩)) eds_nil)))) (by show 4 ≤ 100000; decide)) fun v H5 e5 hv => q v H5 ((((e1.trans e2).trans e3).trans e4).trans e5) (dp_mono (ov_later (((e1.trans e2).trans e3).trans e4)) _ _ hv)
        · rw [if_neg (of_decide_eq_false hc)] at q
          exact s_retDB (K := K) (eB3.trans e4) ed_non fun v H5 e5 hv => q v H5 ((((e1.trans e2).trans e3).trans e4).trans e5) (dp_mono (ov_later (((e1.trans e2).trans e3).trans e4)) _ _ hv)
theorem spRMi_d {H : Hp} {C CL r dx dl lo : Addr} {ep J k b : Int} {im : PyData} {rs : List PyData} {ps : PI2} (R : RpH H C r dx dl ep J lo ps) (l : LogAt K CL H lo b im rs) : SpD K (spRMi K C CL) (.ref r :: ([.int k] ++ [])) H (missD ep b im rs (lkI ps k)) := fun H1 e Q q _ => ⟨r, dx, dl, lo, ep, J, k, b, im, rs, ps, H, rfl, e, R, l, q⟩
def spRPut (K : PySem.W.Frag) (C CL : Addr) : Sp := fun vs H Q _ => ∃ (r dx dl lo : Addr) (ep J b : Int) (v : V) (im d : PyData) (rs : List PyData) (ps : PI2) (B : Hp) (F : List MP), vs = [.ref r, v] ∧ At B (RpS C r dx dl ep J lo ps :: F) H ∧ LogAt K CL B lo b im rs ∧ Dp K B v d ∧ rs.length ≤ 1000 ∧
  ∀ B1 lo1 v1 H1, Ex B B1 → At B1 (RpS C r dx dl ep J lo1 ps :: F) H1 → LogAt K CL B1 lo1 b im (rs ++ [d]) → Dp K B1 v1 (.tuple [.str "edit", .int ep, .int (b + ((rs.length : Int) + 1)), .tuple [d]]) → Q v1 H1
theorem ok_rput {f C CL f_w f_i f_l : Addr} {fd fd_w fd_i fd_l : FuncData} (F : Fun K "put" "Replication.put" s_Replication_put f fd) (L : RpC K C) (D_Log_with_record : Dm K CL "with_record" "Log.with_record" s_Log_with_record ["self", "record"] f_w fd_w) (D_Log___init__ : Dm K CL "__init__" "Log.__init__" s_Log___init__ ["self", "base", "image", "records"] f_i fd_i)
    (D_Log_length : Pr K CL "length" "Log.length" s_Log_length f_l fd_l) (L_Log : Kl K mg "Log" CL) (LL : LogC K CL) (T : Glo mg) : FnOk P w K mg base CX0 5 f fd ["self", "record"] (spRPut K C CL) := by
  have G_Log_with_record : FnOk P w K mg base CX0 4 f_w fd_w _ _ := ok_with D_Log_with_record D_Log___init__ L_Log LL
  have G_Log_length : FnOk P w K mg base CX0 1 f_l fd_l _ _ := ok_log_len D_Log_length.F LL T
  refine F.ok sc_Replication_put (fun vs H Q E h => ?_) (fun cdv A outer s H vs Q E hr h => ?_)
  · obtain ⟨r, dx, dl, lo, ep, J, b, v, im, d, rs, ps, B, F, rfl, _⟩ := h
    rfl
  · obtain ⟨r, dx, dl, lo, ep, J, b, v, im, d, rs, ps, B, Fr, rfl, hA, l, hv, hl, q⟩ := h
    refine ⟨_, (pss_cons (ps_fld (pv 0) (pe_meth (pe_fld (pv 0) rfl) L_Log.cl D_Log_with_record.m G_Log_with_record (hr.mono (by decide)) D_Log_with_record.b .nil pass0 (pa_cons (pv 1) pa_nil)) rfl)
  (pss_one (ps_ret (pe_tup (pa_cons pe_str (pa_cons (pe_fld (pv 0) rfl) (pa_cons (pe_pr (pe_fld (pv 0) rfl) L_Log.cl D_Log_length G_Log_length (hr.mono (by decide)) pass0 rfl) (pa_cons (pe_tup (pa_cons (pv 1) pa_nil)) pa_nil)))))))), ?_⟩
    have R := rps_at 0 rfl hA
    obtain ⟨dx2, vi, tv, h1, h2, h3⟩ := id l
    refine q_fld0 (go_meth (ev_rL L (ev_var rfl) R) (at_base hA _ _ h1) (fl_no _ _ _ (by decide +kernel) (by decide +kernel) (by decide +kernel)) fun H1 e1 => ?_)
    have hA := at_ex hA e1
    refine go_cons (ev_var rfl) fun H2 e2 => go_nil ⟨lo, v, b, im, d, rs, B, rfl, (at_base hA).trans e2, l, hv, hl, fun lo1 H3 np e3 l3 => ?_⟩
    have hA := at_ex hA e2
    have hv := dp_mono (ov_base (H1 := H2) (H2 := H3)) _ _ hv
    have b1 : Ex B (ov B H2 H3) := ov_base
    have hA := at_grow hA e3
    generalize ov B H2 H3 = B1 at *
    have R := rps_at 0 rfl hA
    refine ⟨_, rfl, r, C, dx, _, rfl, R.1, L.cl, L.nL, (by show 4 < 1000; decide), ?_⟩
    have hA : At B1 (RpS C r dx dl ep J lo1 ps :: Fr) _ := at_stars' [_, _] (at_upd (a := r) (u := .ins C dx (fRp ep J lo1 dl)) 0 rfl (at_stars hA))
    change At B1 (RpS C r dx dl ep J lo1 ps :: Fr) (upd H3 r (.ins C dx (putF "_log" (.ref lo1) (fRp ep J lo dl)))) at hA
    generalize upd H3 r (.ins C dx (putF "_log" (.ref lo1) (fRp ep J lo dl))) = H4 at hA ⊢
    refine sw_ret (R := rD K (.tuple [.str "edit", .int ep, .int (b + ((rs.length : Int) + 1)), .tuple [d]])) hA (wv_tup (wa_cons wv_str (wa_cons (wv_int (wv_of fun B2 H5 _ hA => ev_rE L (ev_var rfl) (rps_at 0 rfl hA))) (wa_cons (wv_int (wv_of fun B2 H5 b2 hA => ev_is (ev_len2 (ev_rL L (ev_var rfl) (rps_at 0 rfl hA)) (l3.mono (b2.trans (at_base hA)))) (by rw [List.length_append]; rfl))) (wa_cons (wv_tup (wa_cons (wv_var rfl hv) wa_nil) (by show 1 ≤ 100000; decide)) wa_nil)))) (by show 4 ≤ 100000; decide)) fun v1 B2 H5 b2 hA hv1 => ?_
    exact q B2 lo1 v1 H5 (b1.trans b2) hA (l3.mono b2) hv1
def spRCut (K : PySem.W.Frag) (C CL CO : Addr) : Sp := fun vs H Q E => ∃ (r dx dl lo : Addr) (ep J n b : Int) (v : V) (im im2 : PyData) (rs : List PyData) (ps : PI2) (B : Hp) (F : List MP), vs = [.ref r, .int n, v] ∧ At B (RpS C r dx dl ep J lo ps :: F) H ∧ LogAt K CL B lo b im rs ∧ Dp K B v im2 ∧
  (n < b → ∀ H1, At B (RpS C r dx dl ep J lo ps :: F) H1 → E (.ref CO) none H1) ∧
  (b ≤ n → ∀ B1 lo1 v1 H1, Ex B B1 → At B1 (RpS C r dx dl ep J lo1 ps :: F) H1 → LogAt K CL B1 lo1 n im2 (rs.drop (n - b).toNat) → Dp K B1 v1 (.tuple [.str "purge", .int ep, .int n, im2]) → Q v1 H1)
theorem ok_rcut {f C CL f_c f_i C_OutOfRange B_OutOfRange : Addr} {fd fd_c fd_i : FuncData} (F : Fun K "cut" "Replication.cut" s_Replication_cut f fd) (L : RpC K C) (D_Log_cut : Dm K CL "cut" "Log.cut" s_Log_cut ["self", "number", "image"] f_c fd_c) (D_Log___init__ : Dm K CL "__init__" "Log.__init__" s_Log___init__ ["self", "base", "image", "records"] f_i fd_i)
    (L_Log : Kl K mg "Log" CL) (LL : LogC K CL) (E_OutOfRange : Err K mg "OutOfRange" C_OutOfRange B_OutOfRange) : FnOk P w K mg base (L2.CX P w) 4 f fd ["self", "number", "image"] (spRCut K C CL C_OutOfRange) := by
  have G_Log_cut : FnOk P w K mg base (L2.CX P w) 3 f_c fd_c _ _ := ok_cut D_Log_cut D_Log___init__ L_Log LL E_OutOfRange
  refine F.okX sc_Replication_cut (fun vs H Q E h => ?_) (fun cdv A outer s H vs Q E hr h => ?_)
  · obtain ⟨r, dx, dl, lo, ep, J, n, b, v, im, im2, rs, ps, B, F, rfl, _⟩ := h
    rfl
  · obtain ⟨r, dx, dl, lo, ep, J, n, b, v, im, im2, rs, ps, B, Fr, rfl, hA, l, hv, q1, q2⟩ := h
    refine ⟨_, (pss_cons (ps_fld (pv 0) (pe_mx (pe_fld (pv 0) rfl) L_Log.cl D_Log_cut.m G_Log_cut (hr.mono (by decide)) D_Log_cut.b (fun σ => passAt (takes_of rfl rfl rfl rfl) σ) (pa_cons (pv 1) (pa_cons (pv 2) pa_nil))) rfl)
  (pss_one (ps_ret (pe_tup (pa_cons pe_str (pa_cons (pe_fld (pv 0) rfl) (pa_cons (pv 1) (pa_cons (pv 2) pa_nil)))))))), ?_⟩
    have R := rps_at 0 rfl hA
    obtain ⟨dx2, vi, tv, h1, h2, h3⟩ := id l
    refine q_fld0 (go_mx (ev_rL L (ev_var rfl) R) (at_base hA _ _ h1) (fl_no _ _ _ (by decide +kernel) (by decide +kernel) (by decide +kernel)) fun H1 e1 => ?_)
    have hA := at_ex hA e1
    refine go_cons (ev_var rfl) fun H2 e2 => go_cons (ev_var rfl) fun H2' e2' => go_nil ⟨lo, n, b, v, im, im2, rs, B, rfl, (at_base hA).trans (e2.trans e2'), l, hv, fun hn H3 e3 => q1 hn H3 (at_ex hA ((e2.trans e2').trans e3)), fun hn lo1 H3 np e3 l3 => ?_⟩
    have hA := at_ex hA (e2.trans e2')
    have hv := dp_mono (ov_base (H1 := H2') (H2 := H3)) _ _ hv
    have b1 : Ex B (ov B H2' H3) := ov_base
    have hA := at_grow hA e3
    generalize ov B H2' H3 = B1 at *
    have R := rps_at 0 rfl hA
    refine ⟨_, rfl, r, C, dx, _, rfl, R.1, L.cl, L.nL, (by show 4 < 1000; decide), ?_⟩
    have hA : At B1 (RpS C r dx dl ep J lo1 ps :: Fr) _ := at_stars' [_, _] (at_upd (a := r) (u := .ins C dx (fRp ep J lo1 dl)) 0 rfl (at_stars hA))
    change At B1 (RpS C r dx dl ep J lo1 ps :: Fr) (upd H3 r (.ins C dx (putF "_log" (.ref lo1) (fRp ep J lo dl)))) at hA
    generalize upd H3 r (.ins C dx (putF "_log" (.ref lo1) (fRp ep J lo dl))) = H4 at hA ⊢
    refine sw_ret (R := rD K (.tuple [.str "purge", .int ep, .int n, im2])) hA (wv_tup (wa_cons wv_str (wa_cons (wv_int (wv_of fun B2 H5 _ hA => ev_rE L (ev_var rfl) (rps_at 0 rfl hA))) (wa_cons (wv_int (wv_of fun B2 H5 b2 hA => ev_var rfl)) (wa_cons (wv_var rfl hv) wa_nil)))) (by show 4 ≤ 100000; decide)) fun v1 B2 H5 b2 hA hv1 => ?_
    exact q2 hn B2 lo1 v1 H5 (b1.trans b2) hA (l3.mono b2) hv1

theorem hm_len {js : List Int} {J : Int} (nd : js.Nodup) (rg : ∀ x ∈ js, 0 ≤ x ∧ x < J) : hmB js J = decide ((js.length : Int) ≥ J / 2 + 1) := by
  obtain ⟨acc, h1, h2, _, h4⟩ := setSt_acc (inB J) js
  have hp : acc.Perm js := (List.perm_ext_iff_of_nodup h1 nd).mpr fun x => by
    rw [h4 x]
    refine ⟨fun h => h.1, fun h => ⟨h, ?_⟩⟩
    unfold inB
    rw [decide_eq_true (rg x h).1, decide_eq_true (rg x h).2]
    rfl
  unfold hmB
  rw [h2, hp.length_eq]

/-! ### the table of lengths as a list over the journals -/
def Lof (n : Nat) (ps : PI2) : List Int := (List.range n).map fun k : Nat => (lkI ps (k : Int)).getD 0
theorem Lof_len (n : Nat) (ps : PI2) : (Lof n ps).length = n := by unfold Lof; rw [List.length_map, List.length_range]
theorem lof_get {n : Nat} {ps : PI2} {i : Nat} (h : i < n) : (Lof n ps)[i]? = some ((lkI ps (i : Int)).getD 0) := by
  unfold Lof
  rw [List.getElem?_map, List.getElem?_range h]
  rfl
theorem lof_cons {n : Nat} {p : Int × Int} {r : PI2} (h0 : 0 ≤ p.1) : Lof n (p :: r) = (Lof n r).set p.1.toNat p.2 := by
  refine List.ext_getElem? fun i => ?_
  by_cases hi : i < n
  · rw [lof_get hi, lkI_cons]
    by_cases q : p.1 = (i : Int)
    · have : p.1.toNat = i := by omega
      rw [if_pos q, this, List.getElem?_set_self (by rw [Lof_len]; exact hi)]
      rfl
    · have : p.1.toNat ≠ i := by omega
      rw [if_neg q, List.getElem?_set_ne this, lof_get hi]
  · rw [List.getElem?_eq_none (by rw [Lof_len]; omega), List.getElem?_eq_none (by rw [List.length_set, Lof_len]; omega)]
theorem lkI_no {k : Int} : ∀ {ps : PI2}, ¬ k ∈ ps.map (·.1) → lkI ps k = none
  | [], _ => rfl
  | p :: r, h => by
    rw [lkI_cons, if_neg fun e => h (by rw [← e]; exact List.mem_cons_self)]
    exact lkI_no fun m => h (List.mem_cons_of_mem _ m)
theorem ge_lof {n : Nat} (t : Int) (ht : 1 ≤ t) : ∀ (ps : PI2), (ps.map (·.1)).Nodup → (∀ p ∈ ps, 0 ≤ p.1 ∧ p.1 < (n : Int)) → ge t (Lof n ps) = ge t (ps.map (·.2))
  | [], _, _ => ge_none t _ fun x hx => by
    obtain ⟨k, _, rfl⟩ := List.mem_map.mp hx
    show (0 : Int) < t
    omega
  | p :: r, nd, rg => by
    have nd' := List.nodup_cons.mp nd
    have hp := rg p List.mem_cons_self
    rw [lof_cons hp.1, ge_set t ht p.2 _ _ (by
      rw [lof_get (by omega), show ((p.1.toNat : Nat) : Int) = p.1 by omega, lkI_no nd'.1]
      rfl), ge_lof t ht r nd'.2 fun q hq => rg q (List.mem_cons_of_mem _ hq), List.map_cons, ge_cons]
structure I50 (ps : PI2) (J : Int) (m : Nat) : Prop where
  nd : (ps.map (·.1)).Nodup
  rg : ∀ p ∈ ps, 0 ≤ p.1 ∧ p.1 < J
  nn : ∀ p ∈ ps, 0 ≤ p.2
  ln : ps.length ≤ m
theorem inR_all {ps : PI2} {J : Int} (rg : ∀ p ∈ ps, 0 ≤ p.1 ∧ p.1 < J) : inR J ps = ps.map (·.2) := by
  unfold inR
  rw [List.filter_eq_self.mpr fun p hp => by rw [decide_eq_true (rg p hp).1, decide_eq_true (rg p hp).2]; rfl]
theorem I50.inv {ps : PI2} {J : Int} {m : Nat} (h : I50 ps J m) (h0 : 0 ≤ J) : Inv22 ps (Lof J.toNat ps) (J.toNat + 1 + ps.length) J where
  sz := by omega
  ks := fun p hp => ⟨by have := (h.rg p hp).2; omega, h.nn p hp⟩
  nd := h.nd
  ln := by rw [Lof_len]; omega
  zs := fun j h1 h2 => by omega
  nn := fun x hx => by
    obtain ⟨k, _, rfl⟩ := List.mem_map.mp hx
    cases e : lkI ps (k : Int) with
    | none => exact Int.le_refl 0
    | some i => exact h.nn _ (lkI_mem e)
  ct := fun t ht => by
    rw [inR_all h.rg]
    exact ge_lof t ht ps h.nd fun p hp => ⟨(h.rg p hp).1, by have := (h.rg p hp).2; omega⟩
  ir := fun x hx => by
    rw [inR_all h.rg] at hx
    obtain ⟨p, hp, rfl⟩ := List.mem_map.mp hx
    exact h.nn p hp
theorem I50.up {ps : PI2} {J : Int} {m m' : Nat} (h : I50 ps J m) (hm : m ≤ m') : I50 ps J m' := ⟨h.nd, h.rg, h.nn, Nat.le_trans h.ln hm⟩
theorem I50.put {ps : PI2} {J k v : Int} {m : Nat} (h : I50 ps J m) (h0 : 0 ≤ k) (h1 : k < J) (hv : 0 ≤ v) : I50 (putI ps k v) J (m + 1) where
  nd := putI_nd h.nd
  rg := fun p hp => by
    rcases putI_mem hp with rfl | hp
    · exact ⟨h0, h1⟩
    · exact h.rg p hp
  nn := fun p hp => by
    rcases putI_mem hp with rfl | hp
    · exact hv
    · exact h.nn p hp
  ln := Nat.le_trans (putI_len ps k v) (by have := h.ln; omega)
theorem I50.note {ps : PI2} {J k v : Int} {m : Nat} (h : I50 ps J m) (h0 : 0 ≤ k) (h1 : k < J) (hv : 0 ≤ v) : I50 (noteI ps k v) J (m + 1) := by
  unfold noteI
  cases lkI ps k with
  | none => exact h.put h0 h1 hv
  | some t =>
    dsimp only
    split
    · exact h.put h0 h1 hv
    · exact h.up (by omega)
def mxI (i j : Int) : Int := if j > i then j else i
theorem note_mx {ps : PI2} {k n : Int} (nd : (ps.map (·.1)).Nodup) (hn : 0 ≤ n) : putI ps k (mxI ((lkI ps k).getD 0) n) = noteI ps k n := by
  unfold noteI
  cases e : lkI ps k with
  | none =>
    show putI ps k (mxI 0 n) = putI ps k n
    congr 1
    unfold mxI
    split <;> omega
  | some t =>
    show putI ps k (mxI t n) = if n > t then putI ps k n else ps
    unfold mxI
    split
    · rfl
    · exact putI_same nd e
theorem synced_eq {ps : PI2} {J : Int} {m : Nat} (h : I50 ps J m) : hmB (ps.map (·.1)) J = decide ((J : Int) < 2 * (ps.length : Int)) := by
  rw [hm_len h.nd fun x hx => by
    obtain ⟨p, hp, rfl⟩ := List.mem_map.mp hx
    exact h.rg p hp, List.length_map]
  exact decide_eq_decide.mpr ⟨fun h => by omega, fun h => by omega⟩

def txtD : List PyData := [.str "", .str "a", .str "ab c", .str "~", .str "zz"]
def deeds2 (n d : Int) : List PyData := [.tuple [.str "append", .str "/a", txtD.getD (d / 12 % 5).toNat .none], .tuple [.str "seal", .str "/b"], .tuple [.str "limit", .str "/", .int n], .tuple [.str "x", .int d]]
def rec2 (n d : Int) : PyData := .tuple [.int (d % 3), .int (1 + d / 3 % 4), (deeds2 n d).getD (d / 60 % 4).toNat .none]

theorem okn_getD {n : Nat} {ds : List PyData} (h : ∀ d ∈ ds, Okn n d) (i : Nat) : Okn n (ds.getD i .none) := by
  rw [List.getD_eq_getElem?_getD]
  cases e : ds[i]? with
  | none => exact .non
  | some d => exact h d (List.mem_of_getElem? e)
theorem okn_rec2 (n d : Int) : Okn 3 (rec2 n d) := .tup (by show 3 ≤ 50000; decide) (okn_cons (.int _) (okn_cons (.int _) (okn_cons ((okn_getD (n := 1) (okn_cons (.tup (by show 3 ≤ 50000; decide) (okn_cons (.str _) (okn_cons (.str _) (okn_cons (okn_getD (okn_cons (.str _) (okn_cons (.str _) (okn_cons (.str _) (okn_cons (.str _) (okn_cons (.str _) okn_nil))))) _) okn_nil)))) (okn_cons (.tup (by show 2 ≤ 50000; decide) (okn_cons (.str _) (okn_cons (.str _) okn_nil))) (okn_cons (.tup (by show 3 ≤ 50000; decide) (okn_cons (.str _) (okn_cons (.str _) (okn_cons (.int _) okn_nil)))) (okn_cons (.tup (by show 2 ≤ 50000; decide) (okn_cons (.str _) (okn_cons (.int _) okn_nil))) okn_nil)))) _).mono (by decide)) okn_nil)))
def spRec2 (K : PySem.W.Frag) : Sp := fun vs H Q _ => ∃ (n d : Int) (B : Hp), vs = [.int n, .int d] ∧ 0 ≤ d ∧ Ex B H ∧ RetD K B (rec2 n d) H Q
theorem spRec2_d {H : Hp} {n d : Int} (h : 0 ≤ d) : SpD K (spRec2 K) [.int n, .int d] H (rec2 n d) := fun H1 e1 Q q E => ⟨n, d, H, rfl, h, e1, q⟩
theorem ok_record2 {f : Addr} {fd : FuncData} (F : Fun K "_law_record" "_law_record" s__law_record f fd) (T : Glo mg) : FnOk P w K mg base CX0 1 f fd ["number", "draw"] (spRec2 K) := by
  refine F.ok sc__law_record (fun vs H Q E h => ?_) (fun cdv A outer s H vs Q E hr h => ?_)
  · obtain ⟨n, d, B, rfl, _⟩ := h
    rfl
  · obtain ⟨n, d, B, rfl, hd, eB, q⟩ := h
    refine ⟨_, (pss_cons (ps_set (i := 2) sc__law_record.nd rfl (.inl rfl) (pe_tup (pa_cons pe_str (pa_cons pe_str (pa_cons pe_str (pa_cons pe_str (pa_cons pe_str pa_nil)))))))
  (pss_cons (ps_set (i := 3) sc__law_record.nd rfl (.inl rfl) (pe_tup (pa_cons (pe_tup (pa_cons pe_str (pa_cons pe_str (pa_cons (pe_ix ix_tup (pv 2) (pe_op op_mod (pe_callTy call_int1 (by rfl) T.int (by decide +kernel) (pa_cons (pe_op op_fdiv (pv 1) pe_int) pa_nil)) pe_int) (fun _ _ => rfl)) pa_nil)))) (pa_cons (pe_tup (pa_cons pe_str (pa_cons pe_str pa_nil))) (pa_cons (pe_tup (pa_cons pe_str (pa_cons pe_str (pa_cons (pv 0) pa_nil)))) (pa_cons (pe_tup (pa_cons pe_str (pa_cons (pv 1) pa_nil))) pa_nil))))))
  (pss_one (ps_ret (pe_tup (pa_cons (pe_op op_mod (pe_callTy call_int1 (by rfl) T.int (by decide +kernel) (pa_cons (pv 1) pa_nil)) pe_int) (pa_cons (pe_op op_add pe_int (pe_op op_mod (pe_callTy call_int1 (by rfl) T.int (by decide +kernel) (pa_cons (pe_op op_fdiv (pv 1) pe_int) pa_nil)) pe_int)) (pa_cons (pe_ix ix_tup (pv 3) (pe_op op_mod (pe_callTy call_int1 (by rfl) T.int (by decide +kernel) (pa_cons (pe_op op_fdiv (pv 1) pe_int) pa_nil)) pe_int) (fun _ _ => rfl)) pa_nil)))))))), ?_⟩
    refine q_asgDB (K := K) (d := .tuple txtD) eB (ed_tup (eds_cons ed_str (eds_cons ed_str (eds_cons ed_str (eds_cons ed_str (eds_cons ed_str eds_nil))))) (Nat.le_of_ble_eq_true rfl)) (fun v1 H1 e1 h1 => ?_)
    have eB1 : Ex (ov B H H1) H1 := ov_ex eB e1
    refine' q_asgDB (K := K) (d := .tuple (deeds2 n d)) eB1 ?c (fun v2 H2 e2 h2 => ?_)
    case c =>
      refine' ed_tup (eds_cons (ed_tup (eds_cons ed_str (eds_cons ed_str (eds_cons (ed_ixT (i := d / 12 % 5) (ed_var rfl h1) ?i1 (atI_getD ?g1 ?g2)) eds_nil))) (Nat.le_of_ble_eq_true rfl)) (eds_cons (ed_tup (eds_cons ed_str (eds_cons ed_str eds_nil)) (Nat.le_of_ble_eq_true rfl)) (eds_cons (ed_tup (eds_cons ed_str (eds_cons ed_str (eds_cons (ed_int (i := n) (ev_var rfl)) eds_nil))) (Nat.le_of_ble_eq_true rfl)) (eds_cons (ed_tup (eds_cons ed_str (eds_cons (ed_int (i := d) (ev_var rfl)) eds_nil)) (Nat.le_of_ble_eq_true rfl)) eds_nil)))) (Nat.le_of_ble_eq_true rfl)
      case i1 => walk_at "ev"
      case g1 => omega
      case g2 =>
        show d / 12 % 5 < 5
        omega
    have eB2 : Ex (ov (ov B H H1) H1 H2) H2 := ov_ex eB1 e2
    refine' s_retDB (K := K) (d := rec2 n d) eB2 ?c (fun v H3 e3 h3 => q v H3 ((e1.trans e2).trans e3) (dp_mono ((ov_ov eB1 e2 e3).trans (ov_ov eB e1 (e2.trans e3))) _ v h3))
    case c =>
      refine' ed_tup (eds_cons (ed_int (i := d % 3) ?i1) (eds_cons (ed_int (i := 1 + d / 3 % 4) ?i2) (eds_cons (ed_ixT (i := d / 60 % 4) (ed_var rfl h2) ?i3 (atI_getD ?g1 ?g2)) eds_nil))) (Nat.le_of_ble_eq_true rfl)
      case i1 => walk_at "ev"
      case i2 => walk_at "ev"
      case i3 => walk_at "ev"
      case g1 => omega
      case g2 =>
        show d / 60 % 4 < 4
        omega
def spLMi (K : PySem.W.Frag) : Sp := fun vs H Q _ => ∃ (ep b : Int) (v : V) (o : Option Int) (im : PyData) (rs : List PyData) (B : Hp), vs = [.int ep, v, vO o] ∧ Ex B H ∧ Dp K B v (logD b im rs) ∧ RetD K B (missD ep b im rs o) H Q
theorem spLMi_d {H : Hp} {ep b : Int} {v : V} {o : Option Int} {im : PyData} {rs : List PyData} (h : Dp K H v (logD b im rs)) : SpD K (spLMi K) [.int ep, v, vO o] H (missD ep b im rs o) := fun H1 e1 Q q E => ⟨ep, b, v, o, im, rs, H, rfl, e1, h, q⟩
theorem ok_lmissing {f : Addr} {fd : FuncData} (F : Fun K "_law_missing" "_law_missing" s__law_missing f fd) (T : Glo mg) : FnOk P w K mg base CX0 1 f fd ["epoch", "log", "told"] (spLMi K) := by
  refine F.ok sc__law_missing (fun vs H Q E h => ?_) (fun cdv A outer s H vs Q E hr h => ?_)
  · obtain ⟨ep, b, v, o, im, rs, B, rfl, _⟩ := h
    rfl
  · obtain ⟨ep, b, v, o, im, rs, B, rfl, eB, hv, q⟩ := h
    refine ⟨_, (pss_cons (ps_if (pt_cmpR op_isN (pv 2) pe_non (nomark _))
  (pss_one (ps_ret (pe_tup (pa_cons pe_str (pa_cons (pv 0) (pa_cons (pv 1) pa_nil))))))
  pss_nil)
  (pss_cons (ps_if (pt_cmpR op_lt (pv 2) (pe_ix ix_tup (pv 1) pe_int (fun _ _ => rfl)) (nomark _))
  (pss_one (ps_ret (pe_tup (pa_cons pe_str (pa_cons (pv 0) (pa_cons (pe_ix ix_tup (pv 1) pe_int (fun _ _ => rfl)) (pa_cons (pe_ix ix_tup (pv 1) pe_int (fun _ _ => rfl)) pa_nil)))))))
  pss_nil)
  (pss_cons (ps_if (pt_cmpR op_lt (pv 2) (pe_op op_add (pe_ix ix_tup (pv 1) pe_int (fun _ _ => rfl)) (pe_callB call_len_seq (by rfl) T.len PySem.boot_len (pa_cons (pe_ix ix_tup (pv 1) pe_int (fun _ _ => rfl)) pa_nil))) (nomark _))
  (pss_one (ps_ret (pe_tup (pa_cons pe_str (pa_cons (pv 0) (pa_cons (pe_op op_add (pv 2) pe_int) (pa_cons (pe_slice sl_tupA (pe_ix ix_tup (pv 1) pe_int (fun _ _ => rfl)) (po_some (pe_op op_sub (pv 2) (pe_ix ix_tup (pv 1) pe_int (fun _ _ => rfl)))) po_none) pa_nil)))))))
  pss_nil)
  (pss_one (ps_ret pe_non))))), ?_⟩
    have i0 : ∀ {H1 : Hp}, Dp K H1 v (logD b im rs) → EvD K (tOp (rIxT K) (tVar 1) (tC (.int 0))) [some (.int ep), some v, some (vO o)] H1 (.int b) := fun hv => ed_ixT (ed_var rfl hv) ev_c rfl
    have i1 : ∀ {H1 : Hp}, Dp K H1 v (logD b im rs) → EvD K (tOp (rIxT K) (tVar 1) (tC (.int 1))) [some (.int ep), some v, some (vO o)] H1 im := fun hv => ed_ixT (ed_var rfl hv) ev_c rfl
    have i2 : ∀ {H1 : Hp}, Dp K H1 v (logD b im rs) → EvD K (tOp (rIxT K) (tVar 1) (tC (.int 2))) [some (.int ep), some v, some (vO o)] H1 (.tuple rs) := fun hv => ed_ixT (ed_var rfl hv) ev_c rfl
    have iv : ∀ {te : TE} {σ : L2.St} {H1 : Hp} {n : Int}, EvD K te σ H1 (.int n) → Ev te σ H1 (.int n) := fun h H1 e Q q => h H1 e Q fun v H2 e2 hv => by cases hv; exact q H2 e2
    cases o with
    | none =>
      refine q_when (b := true) (et_is (et_isN (x := .non) (ev_var rfl)) (decide_eq_true rfl)) (fun _ H2 e2 => ?_) (fun hb => nomatch hb)
      exact s_retDB (K := K) (eB.trans e2) (ed_tup (eds_cons ed_str (eds_cons (ed_int (i := ep) (ev_var rfl)) (eds_cons (ed_var rfl hv) eds_nil))) (by show 3 ≤ 100000; decide)) fun v H3 e3 hv => q v H3 (e2.trans e3) (dp_mono (ov_later e2) _ _ hv)
    | some t =>
      dsimp only [missD] at q
      refine q_when (b := false) (et_is (et_isN (x := vO (some t)) (ev_var rfl)) (decide_eq_false (show ¬ vO (some t) = .non from fun h => by cases h))) (fun hb => nomatch hb) (fun _ H2 e2 => ?_)
      have eB2 := eB.trans e2
      refine q_when (b := decide (t < b)) (et_test (ev_op (x := .int t) (ev_var rfl) (iv (i0 (dp_mono eB2 _ _ hv))) rv_I0)) (fun hb H3 e3 => ?_) (fun hb H3 e3 => ?_)
      · rw [if_pos (of_decide_eq_true hb)] at q
        exact s_retDB (K := K) (eB2.trans e3) (ed_tup (eds_cons ed_str (eds_cons (ed_int (i := ep) (ev_var rfl)) (eds_cons (i0 hv) (eds_cons (i1 hv) eds_nil)))) (by show 4 ≤ 100000; decide)) fun v H4 e4 hv => q v H4 ((e2.trans e3).trans e4) (dp_mono (ov_later (e2.trans e3)) _ _ hv)
      · have hb := of_decide_eq_false hb
        rw [if_neg hb] at q
        have eB3 := eB2.trans e3
        refine q_when (b := decide (t < b + (rs.length : Int))) (et_test (ev_op (x := .int t) (ev_var rfl) (ev_op (iv (i0 (dp_mono eB3 _ _ hv))) (ev_lenDT (K := K) (i2 (dp_mono eB3 _ _ hv))) rv_I0) rv_I0)) (fun hc H4 e4 => ?_) (fun hc H4 e4 => ?_)
        · have hc := of_decide_eq_true hc
          rw [if_pos hc] at q
          have es : EvD K (tSl (rSlA K) (tOp (rIxT K) (tVar 1) (tC (.int 2))) (tPart (tOp (rI0 fun i j => .int (i - j)) (tVar 2) (tOp (rIxT K) (tVar 1) (tC (.int 0))))) tNoPart) [some (.int ep), some v, some (.int t)] B (.tuple (rs.drop (t - b).toNat)) :=
            ed_is (ed_slT (i2 hv) (eo_some (ev_op (ev_var rfl) (iv (i0 hv)) rv_I0)) eo_none) (by
              show PyData.tuple (cutA rs (some (t - b)) none) = _
              obtain ⟨m, hm⟩ := Int.eq_ofNat_of_zero_le (show 0 ≤ t - b by omega)
              rw [hm, cutA_from]
              rfl)
          exact s_retDB (K := K) (eB3.trans e4) (ed_tup (eds_cons ed_str (eds_cons (ed_int (i := ep) (ev_var rfl)) (eds_cons (ed_int (ev_op (x := .int t) (ev_var rfl) ev_c rv_I0)) (eds_cons es eds_nil)))) (by show 4 ≤ 100000; decide)) fun v H5 e5 hv => q v H5 (((e2.trans e3).trans e4).trans e5) (dp_mono (ov_later ((e2.trans e3).trans e4)) _ _ hv)
        · rw [if_neg (of_decide_eq_false hc)] at q
          exact s_retDB (K := K) (eB3.trans e4) ed_non fun v H5 e5 hv => q v H5 (((e2.trans e3).trans e4).trans e5) (dp_mono (ov_later ((e2.trans e3).trans e4)) _ _ hv)
def spLR : Sp := fun vs H Q _ => ∃ (a : Addr) (ps : PI2) (J t : Int), vs = [.ref a, .int J, .int t] ∧ H a = some (.dK (kvI ps)) ∧ 0 ≤ J ∧ J ≤ 1000 ∧ RetV (.int (ge t (Lof J.toNat ps) : Nat)) H Q
theorem spLR_v {H : Hp} {a : Addr} {ps : PI2} {J t : Int} (h : H a = some (.dK (kvI ps))) (h0 : 0 ≤ J) (h1 : J ≤ 1000) : SpV spLR [.ref a, .int J, .int t] H (.int (ge t (Lof J.toNat ps) : Nat)) := fun H1 e Q q _ => ⟨a, ps, J, t, rfl, e _ _ h, h0, h1, q⟩
theorem ok_lreached {f : Addr} {fd : FuncData} (F : Fun K "_law_reached" "_law_reached" s__law_reached f fd) (T : Glo mg) : FnOk P w K mg base CX0 1 f fd ["told", "count", "number"] spLR := by
  refine F.ok sc__law_reached (fun vs H Q E h => ?_) (fun cdv A outer s H vs Q E hr h => ?_)
  · obtain ⟨a, ps, J, t, rfl, _⟩ := h
    rfl
  · obtain ⟨a, ps, J, t, rfl, hd, h0, h1, q⟩ := h
    refine ⟨_, (pss_one (ps_ret (pe_callB call_len_seq (by rfl) T.len PySem.boot_len (pa_cons (pe_lc (own := [("k", 3)]) (g := gName 3) rfl sc__law_reached.nd (pi_range1 (by rfl) T.range (pa_cons (pv 1) pa_nil)) (blkOk_by (N := N__law_reached) (sc := defScope s__law_reached) (by decide +kernel)) (fun _ _ _ _ _ => (pg_name (i := 3) sc__law_reached.nd rfl (.inl rfl))) (fun _ _ _ _ _ => (pts_one (pt_cmpR op_ge (pe_dget2 (hu_of hr) (pv 0) (pv 3) pe_int ⟨rfl, rfl, rfl, rfl⟩) (pv 2) (nomark _)))) (fun _ _ _ _ _ => (pv 3))) pa_nil)))), ?_⟩
    refine' s_ret (v := .int (ge t (Lof J.toNat ps) : Nat)) ?c (fun H1 e1 => q H1 e1)
    case c =>
      refine ev_is (ev_lenN (K := K) (el_lcR1 (n := J) (fun i => decide (t ≤ (lkI ps (i : Int)).getD 0)) (fun i => V.int (i : Int)) (ea_cons (ev_var rfl) ea_nil) (by omega) (fun _ => rfl) (fun i H1 e1 hi => ?_) (fun i H1 e1 hi _ => ev_var rfl))) ?_
      · refine et_test (ev_op (x := .int ((lkI ps (i : Int)).getD 0)) (y := .int t) (ev_is (ev_get2I (ps := ps) (k := (i : Int)) (ev_var rfl) (ev_var rfl) ev_c (e1 _ _ hd)) (getD_int _ _)) (ev_var rfl) rv_I0)
      · congr 2
        unfold Evl.given ge Lof
        rw [List.length_map, List.filter_map, List.length_map]
        rfl

theorem ed_ex {σ : L2.St} {H : Hp} {te : TE} {d : PyData} (h : EvD K te σ H d) : EvX K te σ H d := fun H1 e Q q => h H1 e Q fun v H2 e2 hv => q v H2 e2 (dp_dx _ _ hv)
theorem ev_same {σ : L2.St} {H : Hp} {ta tb : TE} {E : XK} {n : Nat} {d : PyData} (ha : EvX K ta σ H d) (hb : EvX K tb σ H d) (ok : Okn n d) : Ev (tCall (spSame K n) [] E (tCons ta (tCons tb tNil))) σ H (.bl true) := ev_callD (K := K) (exs_cons ha (exs_cons hb exs_nil)) (fun vs H5 e5 hv Q q => by
  cases hv with
  | cons h1 h2 => cases h2 with
    | cons h2 h3 =>
      cases h3
      exact ⟨_, _, _, rfl, h1, h2, ok, q⟩)
structure OkL (b : Int) (im : PyData) (rs : List PyData) : Prop where
  oi : Okn 4 im
  or : ∀ d ∈ rs, Okn 3 d
  ln : rs.length ≤ 1000
theorem OkL.log {b : Int} {im : PyData} {rs : List PyData} (h : OkL b im rs) : Okn 5 (logD b im rs) := .tup (by show 3 ≤ 50000; decide) (okn_cons (.int _) (okn_cons h.oi (okn_cons (.tup (by have := h.ln; omega) h.or) okn_nil)))
theorem OkL.sync {b ep : Int} {im : PyData} {rs : List PyData} (h : OkL b im rs) : Okn 6 (syncD ep b im rs) := .tup (by show 3 ≤ 50000; decide) (okn_cons (.str _) (okn_cons (.int _) (okn_cons h.log okn_nil)))
theorem OkL.miss {b ep : Int} {im : PyData} {rs : List PyData} (h : OkL b im rs) (o : Option Int) : Okn 6 (missD ep b im rs o) := by
  unfold missD
  cases o with
  | none => exact h.sync
  | some t =>
    dsimp only
    split
    · exact .tup (by show 4 ≤ 50000; decide) (okn_cons (.str _) (okn_cons (.int _) (okn_cons (.int _) (okn_cons (h.oi.mono (by decide)) okn_nil))))
    · split
      · exact .tup (by show 4 ≤ 50000; decide) (okn_cons (.str _) (okn_cons (.int _) (okn_cons (.int _) (okn_cons (.tup (by have := h.ln; rw [List.length_drop]; omega) fun d hd => (h.or d (List.mem_of_mem_drop hd)).mono (by decide)) okn_nil))))
      · exact .non
theorem okn_dO {n : Nat} (o : Option Int) : Okn n (dO o) := match o with
  | none => .non
  | some i => .int i
def spLH (K : PySem.W.Frag) (C CL : Addr) : Sp := fun vs H Q _ => ∃ (r dx dl lo dt : Addr) (ep J b : Int) (v : V) (im : PyData) (rs : List PyData) (ps : PI2) (m : Nat), vs = [.ref r, .int ep, .int J, v, .ref dt] ∧ RpH H C r dx dl ep J lo ps ∧ LogAt K CL H lo b im rs ∧ Dp K H v (logD b im rs) ∧ H dt = some (.dK (kvI ps)) ∧ OkL b im rs ∧ I50 ps J m ∧ m ≤ 1000 ∧ 1 ≤ J ∧ J ≤ 1000 ∧ RetV (.bl true) H Q
theorem ok_lholds {f C CL f_s f_r f_m f_v f_ma f_ms f_sb f_sy f_cp f_a f_l f_lg f_h f_c f_maj C_OutOfRange C_HallError : Addr} {fd fd_s fd_r fd_m fd_v fd_ma fd_ms fd_sb fd_sy fd_cp fd_a fd_l fd_lg fd_h fd_c fd_maj : FuncData} (F : Fun K "_law_holds" "_law_holds" s__law_holds f fd)
    (D__law_same : Df K mg "_law_same" s__law_same ["actual", "due"] f_s fd_s) (D__law_reached : Df K mg "_law_reached" s__law_reached ["told", "count", "number"] f_r fd_r) (D__law_missing : Df K mg "_law_missing" s__law_missing ["epoch", "log", "told"] f_m fd_m)
    (D_majority : Df K mg "majority" s_majority ["count"] f_maj fd_maj) (D_has_majority : Df K mg "has_majority" s_has_majority ["members", "count"] f_h fd_h) (D_commit_point : Df K mg "commit_point" s_commit_point ["matched", "count"] f_c fd_c) (c_commit_point_quorum : mg "commit_point_quorum" = some (.ref f_c))
    (D_Log_value : Dm K CL "value" "Log.value" s_Log_value ["self"] f_v fd_v) (D_Log_after : Dm K CL "after" "Log.after" s_Log_after ["self", "number"] f_a fd_a) (D_Log_length : Pr K CL "length" "Log.length" s_Log_length f_l fd_l)
    (D_Replication_log : Pr K C "log" "Replication.log" s_Replication_log f_lg fd_lg) (D_Replication_matched : Dm K C "matched" "Replication.matched" s_Replication_matched ["self", "journal"] f_ma fd_ma) (D_Replication_missing : Dm K C "missing" "Replication.missing" s_Replication_missing ["self", "journal"] f_ms fd_ms)
    (D_Replication_sync_body : Dm K C "sync_body" "Replication.sync_body" s_Replication_sync_body ["self"] f_sb fd_sb) (D_Replication_synced : Dm K C "synced" "Replication.synced" s_Replication_synced ["self"] f_sy fd_sy) (D_Replication_commit_point : Dm K C "commit_point" "Replication.commit_point" s_Replication_commit_point ["self"] f_cp fd_cp)
    (L_Replication : Kl K mg "Replication" C) (L : RpC K C) (L_Log : Kl K mg "Log" CL) (LL : LogC K CL) (E_OutOfRange : Err K mg "OutOfRange" C_OutOfRange C_HallError) (T : Glo mg) : FnOk P w K mg base CX0 9 f fd ["replication", "epoch", "count", "log", "told"] (spLH K C CL) := by
  have G__law_same : FnOk P w K mg base CX0 8 f_s fd_s _ _ := ok_same D__law_same T 7
  have G__law_reached : FnOk P w K mg base CX0 1 f_r fd_r _ _ := ok_lreached D__law_reached.F T
  have G__law_missing : FnOk P w K mg base CX0 1 f_m fd_m _ _ := ok_lmissing D__law_missing.F T
  have G_Log_value : FnOk P w K mg base CX0 1 f_v fd_v _ _ := ok_log_value D_Log_value.F LL
  have G_Replication_log : FnOk P w K mg base CX0 1 f_lg fd_lg _ _ := ok_rlog D_Replication_log.F L
  have G_Replication_matched : FnOk P w K mg base CX0 1 f_ma fd_ma _ _ := ok_rmatched D_Replication_matched.F L
  have G_Replication_missing : FnOk P w K mg base CX0 5 f_ms fd_ms _ _ := ok_rmissing D_Replication_missing.F L L_Replication D_Replication_matched D_Replication_sync_body D_Log_value D_Log_length D_Log_after L_Log LL E_OutOfRange T
  have G_Replication_sync_body : FnOk P w K mg base CX0 2 f_sb fd_sb _ _ := ok_rsync D_Replication_sync_body.F L D_Log_value L_Log LL
  have G_Replication_synced : FnOk P w K mg base CX0 3 f_sy fd_sy _ _ := ok_rsynced D_Replication_synced.F L D_has_majority D_majority T
  have G_Replication_commit_point : FnOk P w K mg base CX0 3 f_cp fd_cp _ _ := ok_rcp D_Replication_commit_point.F L D_commit_point c_commit_point_quorum D_majority T
  refine F.ok sc__law_holds (fun vs H Q E h => ?_) (fun cdv A outer s H vs Q E hr h => ?_)
  · obtain ⟨r, dx, dl, lo, dt, ep, J, b, v, im, rs, ps, m, rfl, _⟩ := h
    rfl
  · obtain ⟨r, dx, dl, lo, dt, ep, J, b, v, im, rs, ps, m, rfl, R, l, hv, ht, ok, I, hm, hJ1, hJ2, q⟩ := h
    refine ⟨_, (pss_cons (ps_if (pt_not (pt_val (pe_call G__law_same (hr.mono (by decide)) (by rfl) D__law_same.g D__law_same.F.kp D__law_same.b .nil pass0 (pa_cons (pe_lst (pa_cons (pe_fld (pv 0) rfl) (pa_cons (pe_fld (pv 0) rfl) pa_nil))) (pa_cons (pe_lst (pa_cons (pv 1) (pa_cons (pv 2) pa_nil))) pa_nil)))))
  (pss_one (ps_ret pe_bl))
  pss_nil)
  (pss_cons (ps_if (PW.pt (pw_or (pt_not (pt_val (pe_call G__law_same (hr.mono (by decide)) (by rfl) D__law_same.g D__law_same.F.kp D__law_same.b .nil pass0 (pa_cons (pe_meth0 (pe_pr (pv 0) L_Replication.cl D_Replication_log G_Replication_log (hr.mono (by decide)) pass0 rfl) L_Log.cl D_Log_value.m G_Log_value (hr.mono (by decide)) D_Log_value.b .nil pass0) (pa_cons (pv 3) pa_nil))))) (pw_or1 (pt_not (pt_val (pe_call G__law_same (hr.mono (by decide)) (by rfl) D__law_same.g D__law_same.F.kp D__law_same.b .nil pass0 (pa_cons (pe_meth0 (pv 0) L_Replication.cl D_Replication_sync_body.m G_Replication_sync_body (hr.mono (by decide)) D_Replication_sync_body.b .nil pass0) (pa_cons (pe_tup (pa_cons pe_str (pa_cons (pv 1) (pa_cons (pv 3) pa_nil)))) pa_nil))))))))
  (pss_one (ps_ret pe_bl))
  pss_nil)
  (pss_cons (ps_for PassesOwn.never rfl (pi_range1 (by rfl) T.range (pa_cons (pv 2) pa_nil)) (pg_name (i := 5) sc__law_holds.nd rfl (.inl rfl))
  (pss_cons (ps_if (pt_not (pt_val (pe_call G__law_same (hr.mono (by decide)) (by rfl) D__law_same.g D__law_same.F.kp D__law_same.b .nil pass0 (pa_cons (pe_meth (pv 0) L_Replication.cl D_Replication_matched.m G_Replication_matched (hr.mono (by decide)) D_Replication_matched.b .nil pass0 (pa_cons (pv 5) pa_nil)) (pa_cons (pe_dget2 (hu_of hr) (pv 4) (pv 5) pe_non ⟨rfl, rfl, rfl, rfl⟩) pa_nil)))))
  (pss_one (ps_ret pe_bl))
  pss_nil)
  (pss_one (ps_if (pt_not (pt_val (pe_call G__law_same (hr.mono (by decide)) (by rfl) D__law_same.g D__law_same.F.kp D__law_same.b .nil pass0 (pa_cons (pe_meth (pv 0) L_Replication.cl D_Replication_missing.m G_Replication_missing (hr.mono (by decide)) D_Replication_missing.b .nil pass0 (pa_cons (pv 5) pa_nil)) (pa_cons (pe_call G__law_missing (hr.mono (by decide)) (by rfl) D__law_missing.g D__law_missing.F.kp D__law_missing.b .nil pass0 (pa_cons (pv 1) (pa_cons (pv 3) (pa_cons (pe_dget2 (hu_of hr) (pv 4) (pv 5) pe_non ⟨rfl, rfl, rfl, rfl⟩) pa_nil)))) pa_nil)))))
  (pss_one (ps_ret pe_bl))
  pss_nil))))
  (pss_cons (ps_if (pt_not (pt_val (pe_call G__law_same (hr.mono (by decide)) (by rfl) D__law_same.g D__law_same.F.kp D__law_same.b .nil pass0 (pa_cons (pe_meth0 (pv 0) L_Replication.cl D_Replication_synced.m G_Replication_synced (hr.mono (by decide)) D_Replication_synced.b .nil pass0) (pa_cons (pe_cmpR op_gt (pe_op op_mul pe_int (pe_callB call_lenD (by rfl) T.len PySem.boot_len (pa_cons (pv 4) pa_nil))) (pv 2) (nomark _)) pa_nil)))))
  (pss_one (ps_ret pe_bl))
  pss_nil)
  (pss_cons (ps_set (i := 6) sc__law_holds.nd rfl (.inl rfl) (pe_meth0 (pv 0) L_Replication.cl D_Replication_commit_point.m G_Replication_commit_point (hr.mono (by decide)) D_Replication_commit_point.b .nil pass0))
  (pss_cons (ps_if (PW.pt (pw_or (pt_not (pt_val (pe_callB call_isi (by rfl) T.isinstance (by decide +kernel) (pa_cons (pv 6) (pa_cons (pe_bltn (v := .ty "int") (u := .type "int") (by rfl) T.int (by decide +kernel) rfl) pa_nil))))) (pw_or (pt_val (pe_callB call_isi (by rfl) T.isinstance (by decide +kernel) (pa_cons (pv 6) (pa_cons (pe_bltn (v := .ty "bool") (u := .type "bool") (by rfl) T.bool (by decide +kernel) rfl) pa_nil)))) (pw_or1 (pt_cmpR op_lt (pv 6) pe_int (nomark _))))))
  (pss_one (ps_ret pe_bl))
  pss_nil)
  (pss_one (ps_ret (pe_and (pe_cmpR op_gt (pe_op op_mul pe_int (pe_call G__law_reached (hr.mono (by decide)) (by rfl) D__law_reached.g D__law_reached.F.kp D__law_reached.b .nil pass0 (pa_cons (pv 4) (pa_cons (pv 2) (pa_cons (pv 6) pa_nil))))) (pv 2) (nomark _)) (pe_one (pe_cmpR op_le (pe_op op_mul pe_int (pe_call G__law_reached (hr.mono (by decide)) (by rfl) D__law_reached.g D__law_reached.F.kp D__law_reached.b .nil pass0 (pa_cons (pv 4) (pa_cons (pv 2) (pa_cons (pe_op op_add (pv 6) pe_int) pa_nil))))) (pv 2) (nomark _)))))))))))), ?_⟩
    have fr : ∀ {m : Str}, (m == ("epoch" : Str)) = false → (m == ("journals" : Str)) = false → (m == ("_log" : Str)) = false → (m == ("_lengths" : Str)) = false → (fRp ep J lo dl).lookup m = none := fun h1 h2 h3 h4 => fr_no _ _ _ _ h1 h2 h3 h4
    have hln := I.ln
    refine q_when (b := false) (et_nt (et_B (ev_same (K := K) (d := .list [.int ep, .int J]) (ex_new (exn_lst (exs_cons (ex_int (ev_rE L (ev_var rfl) R)) (exs_cons (ex_int (ev_rJ L (ev_var rfl) R)) exs_nil)) (by show 2 ≤ 100000; decide))) (ex_new (exn_lst (exs_cons (ex_int (i := ep) (ev_var rfl)) (exs_cons (ex_int (i := J) (ev_var rfl)) exs_nil)) (by show 2 ≤ 100000; decide))) (.lst (by show 2 ≤ 50000; decide) (okn_cons (.int _) (okn_cons (.int _) okn_nil)))))) (fun hb => nomatch hb) (fun _ H1 e1 => ?_)
    obtain ⟨dx2, vi, tv, h1, h2, h3⟩ := id l
    refine q_when (b := false) (et_orF (et_nt (et_B (ev_same (K := K) (d := logD b im rs) (ed_ex (ed_value (K := K) (ev_propV (ev_var rfl) (e1 _ _ R.1) (spRLog_v (R.mono e1))) (l.mono e1))) (ex_var rfl (dp_dx _ _ (dp_mono e1 _ _ hv))) (ok.log.mono (by decide))))) (et_nt (et_B (ev_same (K := K) (d := syncD ep b im rs) (ed_ex (ed_meth0 (ev_var rfl) (e1 _ _ R.1) (fr (by decide +kernel) (by decide +kernel) (by decide +kernel) (by decide +kernel)) (spRB_d (R.mono e1) (l.mono e1)))) (ex_tup (exs_cons ex_str (exs_cons (ex_int (i := ep) (ev_var rfl)) (exs_cons (ex_var rfl (dp_dx _ _ (dp_mono e1 _ _ hv))) exs_nil))) (by show 3 ≤ 100000; decide)) (ok.sync.mono (by decide)))))) (fun hb => nomatch hb) (fun _ H2 e2 => ?_)
    have e02 := e1.trans e2
    refine q_forR1 (n := J) (ea_cons (ev_var rfl) ea_nil) (by omega) (fun i σ' H' => ∃ y5 : Option V, σ' = [some (.ref r), some (.int ep), some (.int J), some v, some (.ref dt), y5, none] ∧ Ex H H') (fun H3 e3 => ⟨none, rfl, e02.trans e3⟩) (fun i σ' H' hi p => ?_) (fun σ' H' p => ?_)
    · obtain ⟨y5, rfl, e3⟩ := p
      refine q_when (b := false) (et_nt (et_B (ev_same (K := K) (d := dO (lkI ps (i : Int))) (ex_of (ev_matched (k := (i : Int)) (ev_var rfl) (ev_var rfl) (R.mono e3)) (dp_dx _ _ (dp_vO _))) (ex_of (ev_is (ev_get2I (ps := ps) (k := (i : Int)) (ev_var rfl) (ev_var rfl) ev_c (e3 _ _ ht)) (getD_non _)) (dp_dx _ _ (dp_vO _))) (okn_dO _)))) (fun hb => nomatch hb) (fun _ H4 e4 => ?_)
      have e4 := e3.trans e4
      refine s_when (b := false) (et_nt (et_B (ev_same (K := K) (d := missD ep b im rs (lkI ps (i : Int))) (ed_ex (ed_methA (vs := [.int (i : Int)]) (ev_var rfl) (e4 _ _ R.1) (fr (by decide +kernel) (by decide +kernel) (by decide +kernel) (by decide +kernel)) (ea_cons (ev_var rfl) ea_nil) (spRMi_d (R.mono e4) (l.mono e4)))) (ed_ex (ed_call (vs := [.int ep, v, vO (lkI ps (i : Int))]) (ea_cons (ev_var rfl) (ea_cons (ev_var rfl) (ea_cons (ev_is (ev_get2I (ps := ps) (k := (i : Int)) (ev_var rfl) (ev_var rfl) ev_c (e4 _ _ ht)) (getD_non _)) ea_nil))) (spLMi_d (dp_mono e4 _ _ hv)))) ((ok.miss _).mono (by decide))))) (fun hb => nomatch hb) (fun _ H5 e5 => ⟨_, rfl, e4.trans e5⟩)
    · obtain ⟨y5, rfl, e3⟩ := p
      have hz : (kvI ps).length = ps.length := kvI_len ps
      refine q_when (b := false) (et_nt (et_B (ev_same (K := K) (n := 7) (d := .bool (decide (J < 2 * (ps.length : Int)))) (ex_bool (ev_is (ev_meth0 (ev_var rfl) (e3 _ _ R.1) (fr (by decide +kernel) (by decide +kernel) (by decide +kernel) (by decide +kernel)) (spRSy_v (R.mono e3) (by omega))) (by rw [synced_eq I]))) (ex_bool (ev_op (x := .int (2 * (ps.length : Int))) (y := .int J) (ev_op ev_c (fun H4 e4 Q q => ev_var rfl H4 e4 _ fun H5 e5 => ⟨dt, kvI ps, rfl, (e3.trans (e4.trans e5)) _ _ ht, by rw [hz]; exact q H5 e5⟩) (rv_I (.inl (by decide)))) (ev_var rfl) rv_I0)) (.bl _)))) (fun hb => nomatch hb) (fun _ H4 e4 => ?_)
      have e4 := e3.trans e4
      -- the commit point
      refine q_do (go_meth (ev_var rfl) (e4 _ _ R.1) (fr (by decide +kernel) (by decide +kernel) (by decide +kernel) (by decide +kernel)) fun H5 e5 => go_nil ⟨r, dx, dl, lo, ep, J, ps, rfl, R.mono (e4.trans e5), I.nd, by omega, hJ1, hJ2, fun c hc H6 e6 => ?_⟩)
      have e6 := e4.trans (e5.trans e6)
      have I22 := I.inv (by omega)
      have c0 := cp_nn I22 hc
      have c1 := cp_yes I22 hJ1 hc
      have c2 := cp_no I22 hJ1 hc
      refine q_when (b := false) (et_orF (et_nt (et_B (ev_cb (ea_cons (ev_var rfl) (ea_cons ev_c ea_nil)) rc_isiI))) (et_orF (et_B (ev_cb (ea_cons (ev_var rfl) (ea_cons ev_c ea_nil)) rc_isiIB)) (et_is (et_test (ev_op (x := .int c) (ev_var rfl) ev_c rv_I0)) (decide_eq_false (by omega))))) (fun hb => nomatch hb) (fun _ H7 e7 => ?_)
      have e7 := e6.trans e7
      exact s_ret (v := .bl true) (ev_andT (ev_is (ev_op (ev_op ev_c (ev_call (vs := [.ref dt, .int J, .int c]) (ea_cons (ev_var rfl) (ea_cons (ev_var rfl) (ea_cons (ev_var rfl) ea_nil))) (spLR_v (e7 _ _ ht) (by omega) hJ2)) (rv_I (.inl (by decide)))) (ev_var rfl) rv_I0) (by rw [decide_eq_true (by omega)]))
        (ev_is (ev_op (ev_op ev_c (ev_call (vs := [.ref dt, .int J, .int (c + 1)]) (ea_cons (ev_var rfl) (ea_cons (ev_var rfl) (ea_cons (ev_op (ev_var rfl) ev_c rv_I0) ea_nil))) (spLR_v (e7 _ _ ht) (by omega) hJ2)) (rv_I (.inl (by decide)))) (ev_var rfl) rv_I0) (by rw [decide_eq_true c2]))) (fun H8 e8 => q H8 (e7.trans e8))

theorem make_new {B H : Hp} {l : List MP} {C x dx : Addr} (hA : At B l H) (nx : H x = none) (ndx : H dx = none) (ne : dx ≠ x) : At B (Pt x (.ins C dx []) :: l) (upd (upd H dx (.own x)) x (.ins C dx [])) := by
  have h1 := at_new hA ndx (Ex.new ndx) (upd_same (o := .own x))
  have nx' : upd H dx (.own x) x = none := by rw [upd_ne (Ne.symm ne)]; exact nx
  exact at_drop (at_swap (at_new h1 nx' (Ex.new nx') (upd_same (o := .ins C dx []))))
/-- if m(..) is not None: .. -/
theorem q_callN {σ : L2.St} {H : Hp} {te : TE} {D : Ends} {tz tu : TS} (h : te σ H fun x H1 => V.non = .non ∧ ∃ k, V.bl (!decide (x = .non)) = .bl k ∧ (if k = true then tu { D with nx := tz D } σ H1 else tz D σ H1)) : tSeq (tIfS (tTest (tOp (fun x y H Q => y = .non ∧ Q (.bl (!decide (x = .non))) H) te (tC .non))) tu tNext) tz D σ H := h
theorem nn_no {p q : Prop} (h : p) : V.non = V.non ∧ ∃ k, V.bl (!decide (V.non = V.non)) = .bl k ∧ (if k = true then q else p) := ⟨rfl, false, by rw [decide_eq_true rfl]; rfl, h⟩
def spLN (C : Addr) : Sp := fun vs H Q _ => ∃ (r dx dl lo dt : Addr) (ep J k n : Int) (ps : PI2) (B : Hp) (F : List MP), vs = [.ref r, .ref dt, .int k, .int n] ∧ At B (RpS C r dx dl ep J lo ps :: Pt dt (.dK (kvI ps)) :: F) H ∧ 0 ≤ n ∧ (ps.map (·.1)).Nodup ∧ ps.length ≤ 1000 ∧ ∀ H1, At B (RpS C r dx dl ep J lo (noteI ps k n) :: Pt dt (.dK (kvI (noteI ps k n))) :: F) H1 → Q (.bl true) H1
theorem ok_lnoted {f C f_n f_m : Addr} {fd fd_n fd_m : FuncData} (F : Fun K "_law_noted" "_law_noted" s__law_noted f fd) (L_Replication : Kl K mg "Replication" C) (L : RpC K C) (D_Replication_note : Dm K C "note" "Replication.note" s_Replication_note ["self", "journal", "length"] f_n fd_n) (D_Replication_matched : Dm K C "matched" "Replication.matched" s_Replication_matched ["self", "journal"] f_m fd_m) (T : Glo mg) : FnOk P w K mg base CX0 3 f fd ["replication", "told", "journal", "length"] (spLN C) := by
  have G_Replication_note : FnOk P w K mg base CX0 2 f_n fd_n _ _ := ok_rnote D_Replication_note.F L L_Replication D_Replication_matched
  refine F.ok sc__law_noted (fun vs H Q E h => ?_) (fun cdv A outer s H vs Q E hr h => ?_)
  · obtain ⟨r, dx, dl, lo, dt, ep, J, k, n, ps, B, F, rfl, _⟩ := h
    rfl
  · obtain ⟨r, dx, dl, lo, dt, ep, J, k, n, ps, B, Fr, rfl, hA, hn, nd, hl, q⟩ := h
    refine ⟨_, (pss_cons (ps_if (pt_cmpR op_notN (pe_meth (pv 0) L_Replication.cl D_Replication_note.m G_Replication_note (hr.mono (by decide)) D_Replication_note.b .nil pass0 (pa_cons (pv 2) (pa_cons (pv 3) pa_nil))) pe_non (nomark _))
  (pss_one (ps_ret pe_bl))
  pss_nil)
  (pss_cons (ps_dput (hu_of hr) (pv 1) (pv 2) (pe_callB (call_max2 rfl) (by rfl) T.max (by decide +kernel) (pa_cons (pe_dget2 (hu_of hr) (pv 1) (pv 2) pe_int ⟨rfl, rfl, rfl, rfl⟩) (pa_cons (pv 3) pa_nil))) rfl)
  (pss_one (ps_ret pe_bl)))), ?_⟩
    refine q_callN (go_meth (ev_var rfl) (rps_at 0 rfl hA).1 (fr_no _ _ _ _ (by decide +kernel) (by decide +kernel) (by decide +kernel) (by decide +kernel)) fun H1 e1 => go_cons (ev_var rfl) fun H2 e2 => go_cons (ev_var rfl) fun H3 e3 => go_nil ⟨r, dx, dl, lo, ep, J, k, n, ps, B, _, rfl, at_ex hA (e1.trans (e2.trans e3)), hl, fun H4 hA => nn_no ?_⟩)
    have ht := at_get (a := dt) 1 rfl hA
    refine q_put (a := dt) (kvs := kvI ps) (k := Sum.inl k) (v := .int (mxI ((lkI ps k).getD 0) n)) (ev_cb (ea_cons (ev_is (ev_get2I (ps := ps) (k := k) (ev_var rfl) (ev_var rfl) ev_c ht) (getD_int _ _)) (ea_cons (ev_var rfl) ea_nil)) rc_max2) (ev_var rfl) (ev_var rfl) ht (by rw [kvI_len]; omega) fun H5 e5 => ?_
    have hA := at_ex hA e5
    rw [kvI_put, note_mx nd hn]
    have hA := at_upd (a := dt) (u := .dK (kvI (noteI ps k n))) 1 rfl hA
    exact se_ret hA ev_c fun H6 hA => q H6 hA
def outD : PyData := .tuple [.str "out", .bool true]
def spLC (K : PySem.W.Frag) (C CL : Addr) : Sp := fun vs H Q E => ∃ (r dx dl lo : Addr) (ep J n b : Int) (v : V) (im im2 : PyData) (rs : List PyData) (ps : PI2) (B : Hp) (F : List MP), vs = [.ref r, .int n, v] ∧ At B (RpS C r dx dl ep J lo ps :: F) H ∧ LogAt K CL B lo b im rs ∧ Dp K B v im2 ∧
  (n < b → ∀ B1 v1 H1, Ex B B1 → At B1 (RpS C r dx dl ep J lo ps :: F) H1 → Dp K B1 v1 outD → Q v1 H1) ∧
  (b ≤ n → ∀ B1 lo1 v1 H1, Ex B B1 → At B1 (RpS C r dx dl ep J lo1 ps :: F) H1 → LogAt K CL B1 lo1 n im2 (rs.drop (n - b).toNat) → Dp K B1 v1 (.tuple [.str "purge", .int ep, .int n, im2]) → Q v1 H1)
theorem ok_lcut {f C CL f_rc f_c f_i C_OutOfRange C_HallError C_TooFew : Addr} {fd fd_rc fd_c fd_i : FuncData} (F : Fun K "_law_cut" "_law_cut" s__law_cut f fd) (L_Replication : Kl K mg "Replication" C) (L : RpC K C) (D_Replication_cut : Dm K C "cut" "Replication.cut" s_Replication_cut ["self", "number", "image"] f_rc fd_rc) (D_Log_cut : Dm K CL "cut" "Log.cut" s_Log_cut ["self", "number", "image"] f_c fd_c) (D_Log___init__ : Dm K CL "__init__" "Log.__init__" s_Log___init__ ["self", "base", "image", "records"] f_i fd_i)
    (L_Log : Kl K mg "Log" CL) (LL : LogC K CL) (E_OutOfRange : Err K mg "OutOfRange" C_OutOfRange C_HallError) (g_HallError : mg "HallError" = some (.ref C_HallError)) (g_TooFew : mg "TooFew" = some (.ref C_TooFew)) (N : PySem.W.kitOne K (.ref C_OutOfRange) (.ref C_TooFew) = some false) (T : Glo mg) : FnOk P w K mg base CX0 5 f fd ["replication", "number", "image"] (spLC K C CL) := by
  have G_Replication_cut : FnOk P w K mg base (L2.CX P w) 4 f_rc fd_rc _ _ := ok_rcut D_Replication_cut.F L D_Log_cut D_Log___init__ L_Log LL E_OutOfRange
  refine F.ok sc__law_cut (fun vs H Q E h => ?_) (fun cdv A outer s H vs Q E hr h => ?_)
  · obtain ⟨r, dx, dl, lo, ep, J, n, b, v, im, im2, rs, ps, B, F, rfl, _⟩ := h
    rfl
  · obtain ⟨r, dx, dl, lo, ep, J, n, b, v, im, im2, rs, ps, B, Fr, rfl, hA, l, hv, q1, q2⟩ := h
    refine ⟨_, (pss_one (ps_try_own (C := C_OutOfRange) (i := 3) rfl rfl sc__law_cut.nd rfl rfl ⟨rfl, by decide, .inl E_OutOfRange.g⟩ takes0 (fun W pn xe tk => (pss_one (ps_ret (pe_mx (pv 0) L_Replication.cl D_Replication_cut.m G_Replication_cut (hr.mono (by decide)) D_Replication_cut.b (fun σ => passAt tk σ) (pa_cons (pv 1) (pa_cons (pv 2) pa_nil)))))) (fun a oe pn hz hf => (pss_one (ps_ret (pe_tup (pa_cons pe_str (pa_cons (pe_and (pe_callB (call_isE E_OutOfRange.ec hz hf) (by rfl) T.isinstance (by decide +kernel) (pa_cons (pv 3) (pa_cons (pe_glob (v := .ref C_HallError) (by rfl) g_HallError rfl) pa_nil))) (pe_and (pe_callB (call_isE E_OutOfRange.ec hz hf) (by rfl) T.isinstance (by decide +kernel) (pa_cons (pv 3) (pa_cons (pe_bltn (v := .ty "ValueError") (u := .type "ValueError") (by rfl) T.ValueError (by decide +kernel) rfl) pa_nil))) (pe_one (pe_not (pe_callB (call_isE E_OutOfRange.ec hz hf) (by rfl) T.isinstance (by decide +kernel) (pa_cons (pv 3) (pa_cons (pe_glob (v := .ref C_TooFew) (by rfl) g_TooFew rfl) pa_nil))))))) pa_nil)))))))), ?_⟩
    refine r_do (go_mx (ev_var rfl) (rps_at 0 rfl hA).1 (fr_no _ _ _ _ (by decide +kernel) (by decide +kernel) (by decide +kernel) (by decide +kernel)) fun H1 e1 => go_cons (ev_var rfl) fun H2 e2 => go_cons (ev_var rfl) fun H3 e3 => go_nil ⟨r, dx, dl, lo, ep, J, n, b, v, im, im2, rs, ps, B, _, rfl, at_ex hA (e1.trans (e2.trans e3)), l, hv, fun hn H4 hA => ?_, fun hn B1 lo1 v1 H4 b1 hA l1 hv1 => q2 hn B1 lo1 v1 H4 b1 hA l1 hv1⟩)
    refine ⟨true, E_OutOfRange.me, fun _ a na => ⟨⟨rfl, rfl⟩, ?_⟩, fun z => nomatch z⟩
    refine sw_ret (R := rD K outD) hA (wv_tup (wa_cons wv_str (wa_cons (wv_dp (wv_of fun B2 H5 _ hA => ev_andT (ev_isE rfl ev_c (fun u hu => hu) E_OutOfRange.k1) (ev_andT (ev_isE rfl ev_c (fun u hu => hu) E_OutOfRange.k2) (ev_nf (ev_isE rfl ev_c (fun u hu => hu) N)))) (.bl true)) wa_nil)) (by show 2 ≤ 100000; decide)) fun v1 B2 H5 b2 hA hv1 => ?_
    exact q1 hn B2 v1 H5 b2 hA hv1

theorem ev_l0 {σ : L2.St} {H : Hp} {i : Nat} {v : V} {b : Int} {im : PyData} {rs : List PyData} (h : σ[i]? = some (some v)) (hv : Dp K H v (logD b im rs)) : Ev (tOp (rIxT K) (tVar i) (tC (.int 0))) σ H (.int b) := fun H1 e Q q => ed_ixT (d := .int b) (ed_var h hv) ev_c rfl H1 e Q fun v H2 e2 hv => by cases hv; exact q H2 e2
theorem ed_l2 {σ : L2.St} {H : Hp} {i : Nat} {v : V} {b : Int} {im : PyData} {rs : List PyData} (h : σ[i]? = some (some v)) (hv : Dp K H v (logD b im rs)) : EvD K (tOp (rIxT K) (tVar i) (tC (.int 2))) σ H (.tuple rs) := ed_ixT (ed_var h hv) ev_c rfl
theorem ed_l1 {σ : L2.St} {H : Hp} {i : Nat} {v : V} {b : Int} {im : PyData} {rs : List PyData} (h : σ[i]? = some (some v)) (hv : Dp K H v (logD b im rs)) : EvD K (tOp (rIxT K) (tVar i) (tC (.int 1))) σ H im := ed_ixT (ed_var h hv) ev_c rfl
theorem spLH_v {H : Hp} {C CL r dx dl lo dt : Addr} {ep J b : Int} {v : V} {im : PyData} {rs : List PyData} {ps : PI2} {m : Nat} (R : RpH H C r dx dl ep J lo ps) (l : LogAt K CL H lo b im rs) (hv : Dp K H v (logD b im rs)) (ht : H dt = some (.dK (kvI ps))) (ok : OkL b im rs) (I : I50 ps J m) (hm : m ≤ 1000) (h1 : 1 ≤ J) (h2 : J ≤ 1000) : SpV (spLH K C CL) [.ref r, .int ep, .int J, v, .ref dt] H (.bl true) :=
  fun H1 e Q q _ => ⟨r, dx, dl, lo, dt, ep, J, b, v, im, rs, ps, m, rfl, R.mono e, l.mono e, dp_mono e _ _ hv, e _ _ ht, ok, I, hm, h1, h2, q⟩
def imD (k : Int) : PyData := .tuple [.str "image", .int k]
theorem okn_im (k : Int) : Okn 4 (imD k) := .tup (by show 2 ≤ 50000; decide) (okn_cons (.str _) (okn_cons (.int _) okn_nil))
structure St50 (K : PySem.W.Frag) (CL : Addr) (B : Hp) (lo : Addr) (b : Int) (im : PyData) (rs : List PyData) (v : V) (ps : PI2) (J : Int) (i : Nat) : Prop where
  b0 : 0 ≤ b
  l : LogAt K CL B lo b im rs
  hv : Dp K B v (logD b im rs)
  ok : OkL b im rs
  ln : rs.length ≤ 4 + i
  I : I50 ps J i
theorem St50.up {CL : Addr} {B B' : Hp} {lo : Addr} {b : Int} {im : PyData} {rs : List PyData} {v : V} {ps : PI2} {J : Int} {i j : Nat} (h : St50 K CL B lo b im rs v ps J i) (e : Ex B B') (hi : i ≤ j) : St50 K CL B' lo b im rs v ps J j := ⟨h.b0, h.l.mono e, dp_mono e _ _ h.hv, h.ok, by have := h.ln; omega, h.I.up hi⟩
theorem s_callT {σ : L2.St} {H : Hp} {te : TE} {tu : TS} {D : Ends} (h : te σ H fun x H1 => ∃ c, x = .bl c ∧ (if (!c) = true then tu D σ H1 else D.nx σ H1)) : tIfS (tNot (tB te)) tu tNext D σ H := h
theorem tt_no {p q : Prop} (h : p) : ∃ c, V.bl true = .bl c ∧ (if (!c) = true then q else p) := ⟨true, rfl, h⟩
theorem ok_lawG {C CL f f1 f2 f3 f4 f5 f6 f7 f8 g1 g2 : Addr} {fd fd1 fd2 fd3 fd4 fd5 fd6 fd7 fd8 gd1 gd2 : FuncData} (F : Fun K "law" "law" s_law f fd)
    (D__law_stream : Df K mg "_law_stream" s__law_stream ["script", "many"] f1 fd1) (G__law_stream : FnOk P w K mg base CX0 1 f1 fd1 ["script", "many"] (spStream K)) (D__law_draw : Df K mg "_law_draw" s__law_draw ["draws", "k"] f2 fd2) (G__law_draw : FnOk P w K mg base CX0 1 f2 fd2 ["draws", "k"] (spDraw K))
    (D__law_same : Df K mg "_law_same" s__law_same ["actual", "due"] f3 fd3) (G__law_same : FnOk P w K mg base CX0 8 f3 fd3 ["actual", "due"] (spSame K 7)) (D__law_record : Df K mg "_law_record" s__law_record ["number", "draw"] f4 fd4) (G__law_record : FnOk P w K mg base CX0 1 f4 fd4 ["number", "draw"] (spRec2 K))
    (D__law_holds : Df K mg "_law_holds" s__law_holds ["replication", "epoch", "count", "log", "told"] f5 fd5) (G__law_holds : FnOk P w K mg base CX0 9 f5 fd5 ["replication", "epoch", "count", "log", "told"] (spLH K C CL)) (D__law_cut : Df K mg "_law_cut" s__law_cut ["replication", "number", "image"] f6 fd6) (G__law_cut : FnOk P w K mg base CX0 5 f6 fd6 ["replication", "number", "image"] (spLC K C CL))
    (D__law_noted : Df K mg "_law_noted" s__law_noted ["replication", "told", "journal", "length"] f7 fd7) (G__law_noted : FnOk P w K mg base CX0 3 f7 fd7 ["replication", "told", "journal", "length"] (spLN C)) (D_Replication_put : Dm K C "put" "Replication.put" s_Replication_put ["self", "record"] f8 fd8) (G_Replication_put : FnOk P w K mg base CX0 5 f8 fd8 ["self", "record"] (spRPut K C CL))
    (D_Replication___init__ : Dm K C "__init__" "Replication.__init__" s_Replication___init__ ["self", "epoch", "log", "journals"] g1 gd1) (G_Replication___init__ : FnOk P w K mg base CX0 1 g1 gd1 ["self", "epoch", "log", "journals"] (spRInit C)) (D_Log___init__ : Dm K CL "__init__" "Log.__init__" s_Log___init__ ["self", "base", "image", "records"] g2 gd2) (G_Log___init__ : FnOk P w K mg base CX0 1 g2 gd2 ["self", "base", "image", "records"] (spLogInit CL))
    (L_Replication : Kl K mg "Replication" C) (L_Log : Kl K mg "Log" CL) (T : Glo mg) : FnOk P w K mg base CX0 20 f fd ["script"] (spLaw K) := by
  refine F.ok sc_law (fun vs H Q E h => ?_) (fun cdv A outer s H vs Q E hr h => ?_)
  · obtain ⟨a, ns, rfl, _⟩ := h
    rfl
  · obtain ⟨a, ns, rfl, hS, hn, q⟩ := h
    refine ⟨_, (pss_cons (ps_set (i := 1) sc_law.nd rfl (.inr rfl) (pe_call G__law_stream (hr.mono (by decide)) (by rfl) D__law_stream.g D__law_stream.F.kp D__law_stream.b .nil pass0 (pa_cons (pv 0) (pa_cons pe_int pa_nil))))
  (pss_cons (ps_set (i := 2) sc_law.nd rfl (.inl rfl) (pe_op op_add pe_int (pe_op op_mod (pe_callTy call_int1 (by rfl) T.int (by decide +kernel) (pa_cons (pe_call G__law_draw (hr.mono (by decide)) (by rfl) D__law_draw.g D__law_draw.F.kp D__law_draw.b .nil pass0 (pa_cons (pv 1) (pa_cons pe_int pa_nil))) pa_nil)) pe_int)))
  (pss_cons (ps_set (i := 3) sc_law.nd rfl (.inr rfl) (pe_op op_mod (pe_callTy call_int1 (by rfl) T.int (by decide +kernel) (pa_cons (pe_op op_fdiv (pe_call G__law_draw (hr.mono (by decide)) (by rfl) D__law_draw.g D__law_draw.F.kp D__law_draw.b .nil pass0 (pa_cons (pv 1) (pa_cons pe_int pa_nil))) pe_int) pa_nil)) pe_int))
  (pss_cons (ps_if (pt_cmpR op_eq (pe_op op_mod (pe_callTy call_int1 (by rfl) T.int (by decide +kernel) (pa_cons (pe_op op_fdiv (pe_call G__law_draw (hr.mono (by decide)) (by rfl) D__law_draw.g D__law_draw.F.kp D__law_draw.b .nil pass0 (pa_cons (pv 1) (pa_cons pe_int pa_nil))) pe_int) pa_nil)) pe_int) pe_int (nomark _))
  (pss_one (ps_set (i := 3) sc_law.nd rfl (.inr rfl) (pe_op op_add (pv 3) (pe_op op_mod (pe_callTy call_int1 (by rfl) T.int (by decide +kernel) (pa_cons (pe_op op_mul (pe_call G__law_draw (hr.mono (by decide)) (by rfl) D__law_draw.g D__law_draw.F.kp D__law_draw.b .nil pass0 (pa_cons (pv 1) (pa_cons pe_int pa_nil))) pe_int) pa_nil)) (pe_op op_pow pe_int pe_int)))))
  pss_nil)
  (pss_cons (ps_set (i := 4) sc_law.nd rfl (.inl rfl) (pe_op op_add pe_int (pe_call G__law_draw (hr.mono (by decide)) (by rfl) D__law_draw.g D__law_draw.F.kp D__law_draw.b .nil pass0 (pa_cons (pv 1) (pa_cons pe_int pa_nil)))))
  (pss_cons (ps_setLc (i := 5) (own := [("k", 6)]) (g := gName 6) rfl sc_law.nd rfl rfl (sw_true rfl rfl rfl (by decide +kernel)) (pi_range1 (by rfl) T.range (pa_cons (pe_op op_mod (pe_callTy call_int1 (by rfl) T.int (by decide +kernel) (pa_cons (pe_call G__law_draw (hr.mono (by decide)) (by rfl) D__law_draw.g D__law_draw.F.kp D__law_draw.b .nil pass0 (pa_cons (pv 1) (pa_cons pe_int pa_nil))) pa_nil)) pe_int) pa_nil)) (blkOk_by (N := N_law) (sc := defScope s_law) (by decide +kernel)) (fun _ _ _ _ _ => (pg_name (i := 6) sc_law.nd rfl (.inl rfl))) (fun _ _ _ _ _ => pts_nil) (fun _ _ _ _ _ => (pe_call G__law_record (hr.mono (by decide)) (by rfl) D__law_record.g D__law_record.F.kp D__law_record.b .nil pass0 (pa_cons (pe_op op_add (pe_op op_add (pv 3) pe_int) (pv 6)) (pa_cons (pe_call G__law_draw (hr.mono (by decide)) (by rfl) D__law_draw.g D__law_draw.F.kp D__law_draw.b .nil pass0 (pa_cons (pv 1) (pa_cons (pe_op op_add pe_int (pv 6)) pa_nil))) pa_nil)))))
  (pss_cons (ps_set (i := 7) sc_law.nd rfl (.inl rfl) (pe_tup (pa_cons (pv 3) (pa_cons (pe_tup (pa_cons pe_str (pa_cons pe_int pa_nil))) (pa_cons (pe_tupleOf (by rfl) T.tuple (pv 5)) pa_nil)))))
  (pss_cons (ps_set (i := 8) sc_law.nd rfl (.inl rfl) (pe_make (L_Replication.make D_Replication___init__) G_Replication___init__ (hr.mono (by decide)) (by rfl) L_Replication.g D_Replication___init__.b .nil pass0 (pa_cons (pv 4) (pa_cons (pe_make (L_Log.make D_Log___init__) G_Log___init__ (hr.mono (by decide)) (by rfl) L_Log.g D_Log___init__.b .nil pass0 (pa_cons (pe_ix ix_tup (pv 7) pe_int (fun _ _ => rfl)) (pa_cons (pe_ix ix_tup (pv 7) pe_int (fun _ _ => rfl)) (pa_cons (pe_ix ix_tup (pv 7) pe_int (fun _ _ => rfl)) pa_nil)))) (pa_cons (pv 2) pa_nil)))))
  (pss_cons (ps_set (i := 9) sc_law.nd rfl (.inl rfl) pe_dnewK)
  (pss_cons (ps_if (pt_not (pt_val (pe_call G__law_holds (hr.mono (by decide)) (by rfl) D__law_holds.g D__law_holds.F.kp D__law_holds.b .nil pass0 (pa_cons (pv 8) (pa_cons (pv 4) (pa_cons (pv 2) (pa_cons (pv 7) (pa_cons (pv 9) pa_nil))))))))
  (pss_one (ps_ret pe_bl))
  pss_nil)
  (pss_cons (ps_for PassesOwn.never rfl (pi_range1 (by rfl) T.range (pa_cons (pe_callB (call_min2 rfl) (by rfl) T.min (by decide +kernel) (pa_cons pe_int (pa_cons (pe_op op_fdiv (pe_callB call_len_seq (by rfl) T.len PySem.boot_len (pa_cons (pv 1) pa_nil)) pe_int) pa_nil))) pa_nil)) (pg_name (i := 10) sc_law.nd rfl (.inl rfl))
  (pss_cons (ps_set (i := 11) sc_law.nd rfl (.inl rfl) (pe_call G__law_draw (hr.mono (by decide)) (by rfl) D__law_draw.g D__law_draw.F.kp D__law_draw.b .nil pass0 (pa_cons (pv 1) (pa_cons (pe_op op_add pe_int (pe_op op_mul pe_int (pv 10))) pa_nil))))
  (pss_cons (ps_set (i := 12) sc_law.nd rfl (.inl rfl) (pe_call G__law_draw (hr.mono (by decide)) (by rfl) D__law_draw.g D__law_draw.F.kp D__law_draw.b .nil pass0 (pa_cons (pv 1) (pa_cons (pe_op op_add pe_int (pe_op op_mul pe_int (pv 10))) pa_nil))))
  (pss_cons (ps_set (i := 13) sc_law.nd rfl (.inl rfl) (pe_op op_mod (pe_callTy call_int1 (by rfl) T.int (by decide +kernel) (pa_cons (pv 11) pa_nil)) pe_int))
  (pss_cons (ps_set (i := 14) sc_law.nd rfl (.inl rfl) (pe_op op_add (pe_ix ix_tup (pv 7) pe_int (fun _ _ => rfl)) (pe_callB call_len_seq (by rfl) T.len PySem.boot_len (pa_cons (pe_ix ix_tup (pv 7) pe_int (fun _ _ => rfl)) pa_nil))))
  (pss_cons (ps_if (pt_cmpR op_lt (pv 13) pe_int (nomark _))
  (pss_cons (ps_set (i := 15) sc_law.nd rfl (.inl rfl) (pe_callB (call_max2 rfl) (by rfl) T.max (by decide +kernel) (pa_cons pe_int (pa_cons (pe_op op_add (pe_op op_sub (pe_ix ix_tup (pv 7) pe_int (fun _ _ => rfl)) pe_int) (pe_op op_mod (pe_callTy call_int1 (by rfl) T.int (by decide +kernel) (pa_cons (pv 12) pa_nil)) (pe_op op_add (pe_callB call_len_seq (by rfl) T.len PySem.boot_len (pa_cons (pe_ix ix_tup (pv 7) pe_int (fun _ _ => rfl)) pa_nil)) pe_int))) pa_nil))))
  (pss_cons (ps_if (pt_cmpR op_eq (pv 13) pe_int (nomark _))
  (pss_one (ps_set (i := 15) sc_law.nd rfl (.inl rfl) (pe_op op_mod (pe_callTy call_int1 (by rfl) T.int (by decide +kernel) (pa_cons (pv 12) pa_nil)) pe_int)))
  pss_nil)
  (pss_one (ps_if (pt_not (pt_val (pe_call G__law_noted (hr.mono (by decide)) (by rfl) D__law_noted.g D__law_noted.F.kp D__law_noted.b .nil pass0 (pa_cons (pv 8) (pa_cons (pv 9) (pa_cons (pe_op op_mod (pe_callTy call_int1 (by rfl) T.int (by decide +kernel) (pa_cons (pe_op op_fdiv (pv 11) pe_int) pa_nil)) (pv 2)) (pa_cons (pv 15) pa_nil)))))))
  (pss_one (ps_ret pe_bl))
  pss_nil))))
  (pss_one (ps_if (pt_cmpR op_eq (pv 13) pe_int (nomark _))
  (pss_cons (ps_set (i := 16) sc_law.nd rfl (.inl rfl) (pe_call G__law_record (hr.mono (by decide)) (by rfl) D__law_record.g D__law_record.F.kp D__law_record.b .nil pass0 (pa_cons (pe_op op_add (pv 14) pe_int) (pa_cons (pv 12) pa_nil))))
  (pss_cons (ps_set (i := 7) sc_law.nd rfl (.inl rfl) (pe_tup (pa_cons (pe_ix ix_tup (pv 7) pe_int (fun _ _ => rfl)) (pa_cons (pe_ix ix_tup (pv 7) pe_int (fun _ _ => rfl)) (pa_cons (pe_op op_catA (pe_ix ix_tup (pv 7) pe_int (fun _ _ => rfl)) (pe_tup (pa_cons (pv 16) pa_nil))) pa_nil)))))
  (pss_one (ps_if (pt_not (pt_val (pe_call G__law_same (hr.mono (by decide)) (by rfl) D__law_same.g D__law_same.F.kp D__law_same.b .nil pass0 (pa_cons (pe_meth (pv 8) L_Replication.cl D_Replication_put.m G_Replication_put (hr.mono (by decide)) D_Replication_put.b .nil pass0 (pa_cons (pv 16) pa_nil)) (pa_cons (pe_tup (pa_cons pe_str (pa_cons (pv 4) (pa_cons (pe_op op_add (pv 14) pe_int) (pa_cons (pe_tup (pa_cons (pv 16) pa_nil)) pa_nil))))) pa_nil)))))
  (pss_one (ps_ret pe_bl))
  pss_nil))))
  (pss_cons (ps_set (i := 15) sc_law.nd rfl (.inl rfl) (pe_op op_add (pe_op op_sub (pe_ix ix_tup (pv 7) pe_int (fun _ _ => rfl)) pe_int) (pe_op op_mod (pe_callTy call_int1 (by rfl) T.int (by decide +kernel) (pa_cons (pv 12) pa_nil)) (pe_op op_add (pe_callB call_len_seq (by rfl) T.len PySem.boot_len (pa_cons (pe_ix ix_tup (pv 7) pe_int (fun _ _ => rfl)) pa_nil)) pe_int))))
  (pss_cons (ps_set (i := 17) sc_law.nd rfl (.inl rfl) (pe_tup (pa_cons pe_str (pa_cons pe_bl pa_nil))))
  (pss_cons (ps_if (pt_cmpR op_ge (pv 15) (pe_ix ix_tup (pv 7) pe_int (fun _ _ => rfl)) (nomark _))
  (pss_cons (ps_set (i := 17) sc_law.nd rfl (.inl rfl) (pe_tup (pa_cons pe_str (pa_cons (pv 4) (pa_cons (pv 15) (pa_cons (pe_tup (pa_cons pe_str (pa_cons (pv 10) pa_nil))) pa_nil))))))
  (pss_one (ps_set (i := 7) sc_law.nd rfl (.inl rfl) (pe_tup (pa_cons (pv 15) (pa_cons (pe_tup (pa_cons pe_str (pa_cons (pv 10) pa_nil))) (pa_cons (pe_slice sl_tupA (pe_ix ix_tup (pv 7) pe_int (fun _ _ => rfl)) (po_some (pe_op op_sub (pv 15) (pe_ix ix_tup (pv 7) pe_int (fun _ _ => rfl)))) po_none) pa_nil)))))))
  pss_nil)
  (pss_one (ps_if (pt_not (pt_val (pe_call G__law_same (hr.mono (by decide)) (by rfl) D__law_same.g D__law_same.F.kp D__law_same.b .nil pass0 (pa_cons (pe_call G__law_cut (hr.mono (by decide)) (by rfl) D__law_cut.g D__law_cut.F.kp D__law_cut.b .nil pass0 (pa_cons (pv 8) (pa_cons (pv 15) (pa_cons (pe_tup (pa_cons pe_str (pa_cons (pv 10) pa_nil))) pa_nil)))) (pa_cons (pv 17) pa_nil)))))
  (pss_one (ps_ret pe_bl))
  pss_nil))))))))
  (pss_one (ps_if (pt_not (pt_val (pe_call G__law_holds (hr.mono (by decide)) (by rfl) D__law_holds.g D__law_holds.F.kp D__law_holds.b .nil pass0 (pa_cons (pv 8) (pa_cons (pv 4) (pa_cons (pv 2) (pa_cons (pv 7) (pa_cons (pv 9) pa_nil))))))))
  (pss_one (ps_ret pe_bl))
  pss_nil))))))))
  (pss_one (ps_ret pe_bl))))))))))))), ?_⟩
    refine q_stream rfl hS hn (by decide) fun ds l H1 hD hdl nl e1 hl => ?_
    have hL1 : SqL K H1 l (ds.map V.int) := sq_of hl
    refine' q_asg (v := .int (1 + drI ds 0 % 7)) ?c (fun H2 e2 => ?_)
    case c => walk_at "ev"
    have hL2 := ex_l e2 hL1
    have d0 := (drI_ok hD 0).1
    refine' q_asg (v := .int (drI ds 0 / 7 % 5)) ?c (fun H3 e3 => ?_)
    case c => walk_at "ev"
    have hL3 := ex_l e3 hL2
    refine q_seqJ (fun σ' H' => ∃ b : Int, σ' = [some (.ref a), some (.ref l), some (.int (1 + drI ds 0 % 7)), some (.int b), none, none, none, none, none, none, none, none, none, none, none, none, none, none] ∧ 0 ≤ b ∧ Ex H3 H') (fun nx' hnx => ?_) (fun σ' H4 hp => ?_)
    · refine' s_when ?w2 (fun _ H4 e4 => ?_) (fun _ H4 e4 => ?_)
      case w2 => walk_at "ev"
      · have hL4 := ex_l e4 hL3
        refine' s_asg ?w3 (fun H5 e5 => ?_)
        case w3 => walk_at "ev"
        exact hnx _ _ ⟨_, rfl, by have := Int.emod_nonneg (drI ds 1 * 198412637) (show (10 : Int) ^ 12 ≠ 0 by decide); have := Int.emod_nonneg (drI ds 0 / 7) (show (5 : Int) ≠ 0 by decide); omega, e4.trans e5⟩
      · exact hnx _ _ ⟨_, rfl, by omega, e4⟩
    obtain ⟨b, rfl, hb0, e4⟩ := hp
    have hL4 := ex_l e4 hL3
    have hJ1 : 1 ≤ 1 + drI ds 0 % 7 := by omega
    have hJ2 : 1 + drI ds 0 % 7 ≤ 7 := by omega
    generalize 1 + drI ds 0 % 7 = J at *
    refine' q_asg (v := .int (1 + drI ds 2)) ?c (fun H5 e5 => ?_)
    case c => walk_at "ev"
    have hL5 := ex_l e5 hL4
    generalize 1 + drI ds 2 = ep at *
    -- records
    have d1 := (drI_ok hD 1).1
    have hm0 : 0 ≤ drI ds 1 % 5 := by omega
    refine' q_asgN (K := K) (en_lcR1 (K := K) (n := drI ds 1 % 5) (fun _ => true) (fun i => rec2 (b + 1 + (i : Int)) (drI ds (3 + (i : Int)))) ?w9 ⟨hm0, by omega⟩ (fun _ => rfl) (fun i hi => et_nil) (fun i hi _ => ?_)) (fun lr xr H6 nr e6 h6 hd6 => ?_)
    case w9 => walk_at "ev"
    · refine ed_call (vs := [.int (b + 1 + (i : Int)), .int (drI ds (3 + (i : Int)))]) (ea_cons ?a1 (ea_cons ?a2 ea_nil)) (spRec2_d (drI_ok hD _).1)
      case a1 => exact ev_op (ev_op (ev_var rfl) ev_c rv_I0) (ev_var rfl) rv_I0
      case a2 => walk_at "ev"
    have hrl : (givenD (drI ds 1 % 5).toNat (fun _ => true) fun i => rec2 (b + 1 + (i : Int)) (drI ds (3 + (i : Int)))).length ≤ 4 := Nat.le_trans (givenD_len _ _ _) (by omega)
    have hro : ∀ d ∈ (givenD (drI ds 1 % 5).toNat (fun _ => true) fun i => rec2 (b + 1 + (i : Int)) (drI ds (3 + (i : Int)))), Okn 3 d := fun d hd => by
      rw [givenD_all] at hd
      obtain ⟨k, _, rfl⟩ := List.mem_map.mp hd
      exact okn_rec2 _ _
    generalize givenD (drI ds 1 % 5).toNat (fun _ => true) (fun i => rec2 (b + 1 + (i : Int)) (drI ds (3 + (i : Int)))) = rs at *
    refine q_asgD (K := K) (d := logD b (imD 0) rs) (ed_tup (eds_cons (ed_int (i := b) (ev_var rfl)) (eds_cons (ed_tup (eds_cons ed_str (eds_cons (ed_int ev_c) eds_nil)) (by show 2 ≤ 100000; decide)) (eds_cons (ed_tupOf (ed_var (v := .ref lr) rfl (.lst (sq_of h6) hd6))) eds_nil))) (by show 3 ≤ 100000; decide)) fun v H7 e7 hv => ?_
    have hL7 := ex_l e7 (ex_l e6 hL5)
    have hA := at_start (H := H7)
    -- the replication
    refine q_do (go_cons (v := .int ep) (ev_var rfl) fun H8 e8 => go_cons' (s_mkLog (K := K) (B := H7) (vb := b) e8 (eds_cons (ed_int (ev_l0 rfl hv)) (eds_cons (ed_l1 rfl hv) (eds_cons (ed_l2 rfl hv) eds_nil))) fun lo H9 nlo e9 hlo => go_cons (v := .int J) (ev_var rfl) fun H10 e10 => go_nil fun r dx nr ndx ne => ?_))
    have hA := at_ex (at_grow (at_ex hA e8) e9) e10
    have b1 : Ex H7 (ov H7 H8 H9) := ov_base
    have hv := dp_mono b1 _ _ hv
    have hL := ex_l b1 hL7
    generalize ov H7 H8 H9 = B1 at *
    refine ⟨r, dx, lo, ep, J, B1, _, rfl, make_new hA nr ndx ne, fun dl H11 hA => ⟨rfl, ?_⟩⟩
    -- told
    refine q_do fun dt hdt => ?_
    have hA := at_swap (at_new hA hdt (Ex.new hdt) (upd_same (o := .dK [])))
    have S : St50 K CL B1 lo b (imD 0) rs v [] J 0 := ⟨hb0, hlo, hv, ⟨okn_im 0, hro, by omega⟩, by omega, ⟨List.nodup_nil, (fun _ h => nomatch h), (fun _ h => nomatch h), Nat.le_refl _⟩⟩
    have hA : At B1 (RpS C r dx dl ep J lo [] :: Pt dt (.dK (kvI [])) :: []) _ := hA
    generalize upd H11 dt (.dK []) = H12 at hA ⊢
    refine qe_when (b := false) hA (et_nt (et_B (ev_call (vs := [.ref r, .int ep, .int J, v, .ref dt]) (ea_cons (ev_var rfl) (ea_cons (ev_var rfl) (ea_cons (ev_var rfl) (ea_cons (ev_var rfl) (ea_cons (ev_var rfl) ea_nil))))) (spLH_v (rps_at 0 rfl hA) (S.l.mono (at_base hA)) (dp_mono (at_base hA) _ _ S.hv) (at_get (a := dt) 1 rfl hA) S.ok S.I (by omega) hJ1 (by omega))))) (fun hb => nomatch hb) (fun _ H13 hA => ?_)
    have hdlen : (ds.map V.int).length = ds.length := List.length_map _
    have hL13 := ex_l (at_base hA) hL
    refine' q_forR1 (n := if (((ds.map V.int).length : Nat) : Int) / 2 < 30 then (((ds.map V.int).length : Nat) : Int) / 2 else 30) ?c (by split <;> omega) (fun i σ' H' => ∃ (y10 y11 y12 y13 y14 y15 y16 y17 : Option V) (B2 : Hp) (lo : Addr) (bq : Int) (im : PyData) (rs : List PyData) (v : V) (ps : PI2), σ' = [some (.ref a), some (.ref l), some (.int J), some (.int b), some (.int ep), some (.ref lr), none, some v, some (.ref r), some (.ref dt), y10, y11, y12, y13, y14, y15, y16, y17] ∧ Ex B1 B2 ∧ St50 K CL B2 lo bq im rs v ps J i ∧
      At B2 (RpS C r dx dl ep J lo ps :: Pt dt (.dK (kvI ps)) :: []) H') (fun H14 e14 => ⟨none, none, none, none, none, none, none, none, B1, lo, b, imD 0, rs, v, [], rfl, Ex.refl B1, S, at_ex hA e14⟩) (fun i σ' H' hi h => ?_) (fun σ' H' h => ?_)
    case c => walk_at "ev"
    · obtain ⟨y10, y11, y12, y13, y14, y15, y16, y17, B2, lo, bq, im, rs, v, ps, rfl, b2, S, hA⟩ := h
      have hi30 : i < 30 := by
        have : (if (((ds.map V.int).length : Nat) : Int) / 2 < 30 then (((ds.map V.int).length : Nat) : Int) / 2 else 30) ≤ 30 := by split <;> omega
        omega
      clear hro hrl hv hlo
      have hLB : SqL K B2 l (ds.map V.int) := ex_l b2 hL
      have hLH := ex_l (at_base hA) hLB
      refine' qe_asg (x := .int (drI ds (7 + 2 * (i : Int)))) hA ?c1 (fun H14 hA => ?_)
      case c1 => walk_at "ev"
      have hLH := ex_l (at_base hA) hLB
      refine' qe_asg (x := .int (drI ds (8 + 2 * (i : Int)))) hA ?c2 (fun H15 hA => ?_)
      case c2 => walk_at "ev"
      have k1 := (drI_ok hD (7 + 2 * (i : Int))).1
      have k2 := (drI_ok hD (8 + 2 * (i : Int))).1
      generalize drI ds (7 + 2 * (i : Int)) = dr at *
      generalize drI ds (8 + 2 * (i : Int)) = mo at *
      refine' qe_asg (x := .int (dr % 8)) hA ?c3 (fun H16 hA => ?_)
      case c3 => walk_at "ev"
      have hvH := dp_mono (at_base hA) _ _ S.hv
      refine qe_asg (x := .int (bq + (rs.length : Int))) hA (ev_op (ev_l0 rfl hvH) (ev_lenDT (K := K) (ed_l2 rfl hvH)) rv_I0) (fun H17 hA => ?_)
      refine q_seqJ (fun σ' H' => ∃ (y15 y16 y17 : Option V) (B3 : Hp) (lo1 : Addr) (b1 : Int) (im1 : PyData) (rs1 : List PyData) (v1 : V) (ps1 : PI2), σ' = [some (.ref a), some (.ref l), some (.int J), some (.int b), some (.int ep), some (.ref lr), none, some v1, some (.ref r), some (.ref dt), some (.int (i : Int)), some (.int dr), some (.int mo), some (.int (dr % 8)), some (.int (bq + (rs.length : Int))), y15, y16, y17] ∧ Ex B2 B3 ∧ St50 K CL B3 lo1 b1 im1 rs1 v1 ps1 J (i + 1) ∧
        At B3 (RpS C r dx dl ep J lo1 ps1 :: Pt dt (.dK (kvI ps1)) :: []) H') (fun nx' hnx => ?_) (fun σ' H18 hp => ?_)
      · refine se_if (b := decide (dr % 8 < 6)) hA (et_test (ev_op (x := .int (dr % 8)) (ev_var rfl) ev_c rv_I0)) (fun hb H18 hA => ?_) (fun hb H18 hA => ?_)
        · -- a length is told
          have hvH := dp_mono (at_base hA) _ _ S.hv
          refine qe_asg (x := .int (if bq - 2 + mo % ((rs.length : Int) + 6) > 0 then bq - 2 + mo % ((rs.length : Int) + 6) else 0)) hA (ev_cb (ea_cons ev_c (ea_cons (ev_op (ev_op (ev_l0 rfl hvH) ev_c rv_I0) (ev_op (ev_cb (ea_cons (ev_var rfl) ea_nil) rc_int) (ev_op (ev_lenDT (K := K) (ed_l2 rfl hvH)) ev_c rv_I0) (rv_I (by omega))) rv_I0) ea_nil)) rc_max2) (fun H19 hA => ?_)
          have hn0 : 0 ≤ (if bq - 2 + mo % ((rs.length : Int) + 6) > 0 then bq - 2 + mo % ((rs.length : Int) + 6) else 0) := by split <;> omega
          generalize (if bq - 2 + mo % ((rs.length : Int) + 6) > 0 then bq - 2 + mo % ((rs.length : Int) + 6) else 0) = n at *
          refine q_seqJ (fun σ' H' => ∃ n : Int, σ' = [some (.ref a), some (.ref l), some (.int J), some (.int b), some (.int ep), some (.ref lr), none, some v, some (.ref r), some (.ref dt), some (.int (i : Int)), some (.int dr), some (.int mo), some (.int (dr % 8)), some (.int (bq + (rs.length : Int))), some (.int n), y16, y17] ∧ 0 ≤ n ∧ At B2 (RpS C r dx dl ep J lo ps :: Pt dt (.dK (kvI ps)) :: []) H') (fun nx2 hn2 => ?_) (fun σ' H20 hp => ?_)
          · refine' se_when hA ?t1 (fun _ H20 hA => ?_) (fun _ H20 hA => hn2 _ _ ⟨n, rfl, hn0, hA⟩)
            case t1 => walk_at "ev"
            refine' se_asg (x := .int (mo % 6)) hA ?t2 (fun H21 hA => hn2 _ _ ⟨mo % 6, rfl, Int.emod_nonneg _ (by decide), hA⟩)
            case t2 => walk_at "ev"
          obtain ⟨n, rfl, hn0, hA⟩ := hp
          refine s_callT (go_call (go_cons (ev_var rfl) fun H21 e21 => go_cons (ev_var rfl) fun H22 e22 => go_cons (v := .int (dr / 8 % J)) ?a3 fun H23 e23 => go_cons (ev_var rfl) fun H24 e24 => go_nil ⟨r, dx, dl, lo, dt, ep, J, dr / 8 % J, n, ps, B2, [], rfl, at_ex hA ((e21.trans e22).trans (e23.trans e24)), hn0, S.I.nd, by have := S.I.ln; omega, fun H25 hA => tt_no (hnx _ _ ⟨_, _, _, B2, lo, bq, im, rs, v, _, rfl, Ex.refl B2, ⟨S.b0, S.l, S.hv, S.ok, by have := S.ln; omega, S.I.note (Int.emod_nonneg _ (by omega)) (Int.emod_lt_of_pos _ (by omega)) hn0⟩, hA⟩)⟩))
          exact ev_op (ev_cb (ea_cons (ev_op (x := .int dr) (ev_var rfl) ev_c (rv_I ⟨by decide, by decide⟩)) ea_nil) rc_int) (ev_var rfl) (rv_I (by omega))
        · refine se_if (b := decide (dr % 8 = 6)) hA (et_test (ev_op (x := .int (dr % 8)) (ev_var rfl) ev_c rv_eqI)) (fun hb H19 hA => ?_) (fun hb H19 hA => ?_)
          · -- a record more
            refine qw_asg (R := rD K (rec2 (bq + (rs.length : Int) + 1) mo)) hA (wv_ed fun B3 _ => ed_call (vs := [.int (bq + (rs.length : Int) + 1), .int mo]) (ea_cons (ev_op (ev_var rfl) ev_c rv_I0) (ea_cons (ev_var rfl) ea_nil)) (spRec2_d k2)) (fun v16 B3 H20 b3 hA hd => ?_)
            have S := S.up b3 (Nat.le_refl i)
            have hln := S.ln
            generalize hdd : rec2 (bq + (rs.length : Int) + 1) mo = d at *
            have okd : Okn 3 d := hdd ▸ okn_rec2 _ _
            refine qw_asg (R := rD K (logD bq im (rs ++ [d]))) hA (wv_ed fun B4 b4 => ed_tup (eds_cons (ed_int (ev_l0 rfl (dp_mono b4 _ _ S.hv))) (eds_cons (ed_l1 rfl (dp_mono b4 _ _ S.hv)) (eds_cons (ed_catT (ed_l2 rfl (dp_mono b4 _ _ S.hv)) (ed_tup (eds_cons (ed_var rfl (dp_mono b4 _ _ hd)) eds_nil) (by show 1 ≤ 100000; decide)) (by show rs.length + 1 ≤ 100000; omega)) eds_nil))) (by show 3 ≤ 100000; decide)) (fun v7 B4 H21 b4 hA hv7 => ?_)
            have S := S.up b4 (Nat.le_refl i)
            have hd := dp_mono b4 _ _ hd
            refine s_same (K := K) (n := 7) (C := fun H' => ∃ B5 lo1, Ex B4 B5 ∧ LogAt K CL B5 lo1 bq im (rs ++ [d]) ∧ At B5 (RpS C r dx dl ep J lo1 ps :: Pt dt (.dK (kvI ps)) :: []) H') (fun H' H'' e ⟨B5, lo1, h1, h2, h3⟩ => ⟨B5, lo1, h1, h2, at_ex h3 e⟩) (fun Q k => go_cons' (go_meth (ev_var rfl) (rps_at 0 rfl hA).1 (fr_no _ _ _ _ (by decide +kernel) (by decide +kernel) (by decide +kernel) (by decide +kernel)) fun H22 e22 => go_cons (ev_var rfl) fun H23 e23 => go_nil ⟨r, dx, dl, lo, ep, J, bq, v16, im, d, rs, ps, B4, _, rfl, at_ex hA (e22.trans e23), S.l, hd, by omega, fun B5 lo1 v1 H24 b5 hA l1 hv1 => ?_⟩)) (fun H22 hc => ?_)
            · refine go_cons' ((wv_tup (K := K) (wa_cons wv_str (wa_cons (wv_int (wv_of fun _ _ _ _ => ev_var rfl)) (wa_cons (wv_int (n := bq + ((rs.length : Int) + 1)) (wv_of fun _ _ _ _ => ev_is (ev_op (x := .int (bq + (rs.length : Int))) (ev_var rfl) ev_c rv_I0) (by rw [Int.add_assoc]))) (wa_cons (wv_tup (wa_cons (wv_var rfl (dp_mono b5 _ _ hd)) wa_nil) (by show 1 ≤ 100000; decide)) wa_nil)))) (by show 4 ≤ 100000; decide)) B5 H24 (Ex.refl B5) hA _ fun v2 B6 H25 b6 hA hv2 => go_nil (k _ _ (.tuple [.str "edit", .int ep, .int (bq + ((rs.length : Int) + 1)), .tuple [d]]) _ (at_dx hA (dp_mono b6 _ _ hv1)) (at_dx hA hv2) (.tup (by show 4 ≤ 50000; decide) (okn_cons (.str _) (okn_cons (.int _) (okn_cons (.int _) (okn_cons (.tup (by show 1 ≤ 50000; decide) (okn_cons (okd.mono (by decide)) okn_nil)) okn_nil))))) ⟨B6, lo1, b5.trans b6, l1.mono b6, hA⟩))
            · obtain ⟨B5, lo1, b5, l1, hA⟩ := hc
              have S := S.up b5 (Nat.le_succ i)
              exact hnx _ _ ⟨_, _, _, B5, lo1, bq, im, rs ++ [d], v7, ps, rfl, (b3.trans b4).trans b5, ⟨S.b0, l1, dp_mono b5 _ _ hv7, ⟨S.ok.oi, fun e he => by
                rcases List.mem_append.mp he with he | he
                · exact S.ok.or e he
                · rw [List.mem_singleton.mp he]; exact okd, by rw [List.length_append, List.length_singleton]; omega⟩, by rw [List.length_append, List.length_singleton]; omega, S.I⟩, hA⟩
          · -- a cut
            have hvH := dp_mono (at_base hA) _ _ S.hv
            have hln := S.ln
            refine qe_asg (x := .int (bq - 2 + mo % ((rs.length : Int) + 5))) hA (ev_op (ev_op (ev_l0 rfl hvH) ev_c rv_I0) (ev_op (ev_cb (ea_cons (ev_var rfl) ea_nil) rc_int) (ev_op (ev_lenDT (K := K) (ed_l2 rfl hvH)) ev_c rv_I0) (rv_I (by omega))) rv_I0) (fun H20 hA => ?_)
            generalize bq - 2 + mo % ((rs.length : Int) + 5) = n at *
            refine qw_asg (R := rD K outD) hA (wv_ed fun B3 _ => ed_tup (eds_cons ed_str (eds_cons (ed_bool ev_c) eds_nil)) (by show 2 ≤ 100000; decide)) (fun v17 B3 H21 b3 hA ho => ?_)
            have S := S.up b3 (Nat.le_refl i)
            refine q_seqJ (fun σ' H' => ∃ (B4 : Hp) (v17 v7 : V), σ' = [some (.ref a), some (.ref l), some (.int J), some (.int b), some (.int ep), some (.ref lr), none, some v7, some (.ref r), some (.ref dt), some (.int (i : Int)), some (.int dr), some (.int mo), some (.int (dr % 8)), some (.int (bq + (rs.length : Int))), some (.int n), y16, some v17] ∧ Ex B3 B4 ∧ At B4 (RpS C r dx dl ep J lo ps :: Pt dt (.dK (kvI ps)) :: []) H' ∧
              ((n < bq ∧ v7 = v ∧ Dp K B4 v17 outD) ∨ (bq ≤ n ∧ Dp K B4 v17 (.tuple [.str "purge", .int ep, .int n, imD (i : Int)]) ∧ Dp K B4 v7 (logD n (imD (i : Int)) (rs.drop (n - bq).toNat))))) (fun nx2 hn2 => ?_) (fun σ' H22 hp => ?_)
            · have hvH := dp_mono (at_base hA) _ _ S.hv
              refine se_when (b := decide (n ≥ bq)) hA (et_test (ev_op (x := .int n) (ev_var rfl) (ev_l0 rfl hvH) rv_I0)) (fun hb H22 hA => ?_) (fun hb H22 hA => hn2 _ _ ⟨B3, v17, v, rfl, Ex.refl B3, hA, .inl ⟨by have := of_decide_eq_false hb; omega, rfl, ho⟩⟩)
              have hb := of_decide_eq_true hb
              refine qw_asg (R := rD K (.tuple [.str "purge", .int ep, .int n, imD (i : Int)])) hA (wv_ed fun B4 _ => ed_tup (eds_cons ed_str (eds_cons (ed_int (ev_var rfl)) (eds_cons (ed_int (ev_var rfl)) (eds_cons (ed_tup (eds_cons ed_str (eds_cons (ed_int (ev_var rfl)) eds_nil)) (by show 2 ≤ 100000; decide)) eds_nil)))) (by show 4 ≤ 100000; decide)) (fun v17 B4 H23 b4 hA hp => ?_)
              have S := S.up b4 (Nat.le_refl i)
              refine sw_asg (R := rD K (logD n (imD (i : Int)) (rs.drop (n - bq).toNat))) hA (wv_ed fun B5 b5 => ed_tup (eds_cons (ed_int (ev_var rfl)) (eds_cons (ed_tup (eds_cons ed_str (eds_cons (ed_int (ev_var rfl)) eds_nil)) (by show 2 ≤ 100000; decide)) (eds_cons (ed_is (ed_slT (lo := some (n - bq)) (ed_l2 rfl (dp_mono b5 _ _ S.hv)) (eo_some (ev_op (x := .int n) (ev_var rfl) (ev_l0 rfl (dp_mono b5 _ _ S.hv)) rv_I0)) eo_none) (by
                show PyData.tuple (cutA rs (some (n - bq)) none) = _
                obtain ⟨m, hm⟩ := Int.eq_ofNat_of_zero_le (show 0 ≤ n - bq by omega)
                rw [hm, cutA_from]
                rfl)) eds_nil))) (by show 3 ≤ 100000; decide)) (fun v7 B5 H24 b5 hA hv7 => hn2 _ _ ⟨B5, v17, v7, rfl, b4.trans b5, hA, .inr ⟨hb, dp_mono b5 _ _ hp, hv7⟩⟩)
            obtain ⟨B4, v17, v7, rfl, b4, hA, hcase⟩ := hp
            have S := S.up b4 (Nat.le_succ i)
            refine s_same (K := K) (n := 7) (C := fun H' => ∃ B5 lo1 b1 im1 rs1, Ex B4 B5 ∧ St50 K CL B5 lo1 b1 im1 rs1 v7 ps J (i + 1) ∧ At B5 (RpS C r dx dl ep J lo1 ps :: Pt dt (.dK (kvI ps)) :: []) H') (fun H' H'' e ⟨B5, lo1, b1, im1, rs1, h1, h2, h3⟩ => ⟨B5, lo1, b1, im1, rs1, h1, h2, at_ex h3 e⟩) (fun Q k => go_cons' (go_call (go_cons (ev_var rfl) fun H23 e23 => go_cons (ev_var rfl) fun H24 e24 => go_cons' ((wv_tup (K := K) (wa_cons wv_str (wa_cons (wv_int (wv_of fun _ _ _ _ => ev_var rfl)) wa_nil)) (by show 2 ≤ 100000; decide)) B4 H24 (Ex.refl B4) (at_ex hA (e23.trans e24)) _ fun vi B5 H25 b5 hA hvi => go_nil ⟨r, dx, dl, lo, ep, J, n, bq, vi, im, imD (i : Int), rs, ps, B5, _, rfl, hA, S.l.mono b5, hvi, fun hn B6 v1 H26 b6 hA hv1 => ?_, fun hn B6 lo1 v1 H26 b6 hA l1 hv1 => ?_⟩)))) (fun H23 hc => ?_)
            · rcases hcase with ⟨h1, rfl, h3⟩ | ⟨h1, _, _⟩
              · exact go_cons (ev_var rfl) fun H27 e27 => go_nil (k _ _ outD _ (at_dx (at_ex hA e27) hv1) (at_dx (at_ex hA e27) (dp_mono (b5.trans b6) _ _ h3)) (.tup (by show 2 ≤ 50000; decide) (okn_cons (.str _) (okn_cons (.bl _) okn_nil))) ⟨B6, lo, bq, im, rs, b5.trans b6, S.up (b5.trans b6) (Nat.le_refl _), at_ex hA e27⟩)
              · omega
            · rcases hcase with ⟨h1, rfl, h3⟩ | ⟨h1, h2, h3⟩
              · omega
              · exact go_cons (ev_var rfl) fun H27 e27 => go_nil (k _ _ (.tuple [.str "purge", .int ep, .int n, imD (i : Int)]) _ (at_dx (at_ex hA e27) hv1) (at_dx (at_ex hA e27) (dp_mono (b5.trans b6) _ _ h2)) (.tup (by show 4 ≤ 50000; decide) (okn_cons (.str _) (okn_cons (.int _) (okn_cons (.int _) (okn_cons ((okn_im _).mono (by decide)) okn_nil))))) ⟨B6, lo1, n, imD (i : Int), rs.drop (n - bq).toNat, b5.trans b6, ⟨by have := S.b0; omega, l1, dp_mono (b5.trans b6) _ _ h3, ⟨okn_im _, fun d hd => S.ok.or d (List.mem_of_mem_drop hd), by rw [List.length_drop]; have := S.ok.ln; omega⟩, by rw [List.length_drop]; have := S.ln; omega, S.I⟩, at_ex hA e27⟩)
            · obtain ⟨B5, lo1, b1, im1, rs1, b5, S5, hA⟩ := hc
              exact hnx _ _ ⟨_, _, _, B5, lo1, b1, im1, rs1, v7, ps, rfl, (b3.trans b4).trans b5, S5, hA⟩
      · obtain ⟨y15, y16, y17, B3, lo1, b1q, im1, rs1, v1, ps1, rfl, b3, S1, hA⟩ := hp
        refine se_when (b := false) hA (et_nt (et_B (ev_call (vs := [.ref r, .int ep, .int J, v1, .ref dt]) (ea_cons (ev_var rfl) (ea_cons (ev_var rfl) (ea_cons (ev_var rfl) (ea_cons (ev_var rfl) (ea_cons (ev_var rfl) ea_nil))))) (spLH_v (rps_at 0 rfl hA) (S1.l.mono (at_base hA)) (dp_mono (at_base hA) _ _ S1.hv) (at_get (a := dt) 1 rfl hA) S1.ok S1.I (by omega) hJ1 (by omega))))) (fun hb => nomatch hb) (fun _ H19 hA => ?_)
        exact ⟨_, _, _, _, _, _, _, _, B3, lo1, b1q, im1, rs1, v1, ps1, rfl, b2.trans b3, S1, hA⟩
    · obtain ⟨y10, y11, y12, y13, y14, y15, y16, y17, B2, lo, bq, im, rs, v, ps, rfl, b2, S, hA⟩ := h
      exact se_ret hA ev_c fun H18 hA => q H18

def clsAt (l : List Addr) (c : Nat) : Addr := l.getD c 0
theorem kit_ownBX {K : PySem.W.Frag} {h : Heap} {t : Value} {B : Addr} {b : Bool} (X : K.In h) (hd : PySem.W.hasDictIn K B = true) (ht : PySem.W.typeIn K (.ref B) = some (.type "type")) (hs : PySem.W.subIn K t (.ref B) = some b) (hne : b = false → (t == Value.ref B) = false) : PySem.W.kitOne K t (.ref B) = some b := kit_ownB hd ht hs hne
theorem exm_ownX {K : PySem.W.Frag} {h : Heap} {cls : Value} {C : Addr} {b : Bool} (X : K.In h) (h1 : PySem.W.subIn K (.ref C) (.type "BaseException") = some true) (hd : PySem.W.hasDictIn K C = true) (ht : PySem.W.typeIn K (.ref C) = some (.type "type")) (h4 : PySem.W.subIn K cls (.ref C) = some b) : PySem.W.exmOne K cls (.ref C) = some b := PySem.W.exm_ref h1 hd ht h4
def kRow (K : PySem.W.Frag) (x y : Str) : Option Bool := match PySem.W.nsIn K mainGlobals x, PySem.W.nsIn K mainGlobals y with
  | some (some (.ref A)), some (some (.ref B)) => if PySem.W.hasDictIn K B && (match PySem.W.typeIn K (.ref B) with | some (.type t) => t == "type" | _ => false) then (match PySem.W.subIn K (.ref A) (.ref B) with | some true => some true | some false => if A = B then none else some false | none => none) else none
  | _, _ => none
theorem kRow_kit {K : PySem.W.Frag} {x y : Str} {A B : Addr} {b : Bool} (hx : PySem.W.nsIn K mainGlobals x = some (some (.ref A))) (hy : PySem.W.nsIn K mainGlobals y = some (some (.ref B))) (e : kRow K x y = some b) : PySem.W.kitOne K (.ref A) (.ref B) = some b := by
  unfold kRow at e
  rw [hx, hy] at e
  dsimp only at e
  by_cases h : (PySem.W.hasDictIn K B && (match PySem.W.typeIn K (.ref B) with | some (.type t) => t == "type" | _ => false)) = true
  · rw [if_pos h] at e
    rw [Bool.and_eq_true] at h
    obtain ⟨h1, h2⟩ := h
    have ht : PySem.W.typeIn K (.ref B) = some (.type "type") := by
      split at h2
      · rename_i t q
        rw [q, eq_of_beq h2]
      · cases h2
    split at e
    · rename_i q
      cases e
      exact kit_ownB h1 ht q (fun h => nomatch h)
    · rename_i q
      split at e
      · cases e
      · rename_i hne
        cases e
        refine kit_ownB h1 ht q (fun _ => ?_)
        exact beq_eq_false_iff_ne.mpr fun h => hne (by cases h; rfl)
    · cases e
  · rw [if_neg h] at e
    cases e
theorem kRow_kitX {K : PySem.W.Frag} {h : Heap} {x y : Str} {A B : Addr} {b : Bool} (X : K.In h) (hx : PySem.W.nsIn K mainGlobals x = some (some (.ref A))) (hy : PySem.W.nsIn K mainGlobals y = some (some (.ref B))) (e : kRow K x y = some b) : PySem.W.kitOne K (.ref A) (.ref B) = some b := kRow_kit hx hy e
def kAll (K : PySem.W.Frag) (nm : List Str) (n m : Nat) : Bool := (List.range n).all fun i => (List.range m).all fun j => kRow K (nm.getD i "") (nm.getD j "") == some (decide (i = j))
theorem ns_at {K : PySem.W.Frag} {h : Heap} {x : Str} {v : Value} (X : K.In h) (e : PySem.W.nsIn K mainGlobals x = some (some v)) : PySem.W.nsIn K mainGlobals x = some (some v) := e
theorem kAll_kk {K : PySem.W.Frag} {hp : Heap} {nm : List Str} {n m : Nat} {Cs : List Addr} (X : K.In hp) (h : kAll K nm n m = true) (hn : ∀ i, i < n → PySem.W.nsIn K mainGlobals (nm.getD i "") = some (some (.ref (clsAt Cs i)))) (hm : m ≤ n) : ∀ i j, i < n → j < m → PySem.W.kitOne K (.ref (clsAt Cs i)) (.ref (clsAt Cs j)) = some (decide (i = j)) := by
  intro i j hi hj
  have h1 := List.all_eq_true.mp (List.all_eq_true.mp h i (List.mem_range.mpr hi)) j (List.mem_range.mpr hj)
  exact kRow_kit (hn i hi) (hn j (by omega)) (eq_of_beq h1)
def mRow (K : PySem.W.Frag) (x y : Str) : Bool := match PySem.W.nsIn K mainGlobals x, PySem.W.nsIn K mainGlobals y with
  | some (some (.ref A)), some (some (.ref B)) => PySem.W.hasDictIn K B && (match PySem.W.typeIn K (.ref B) with | some (.type t) => t == "type" | _ => false) && (PySem.W.subIn K (.ref A) (.ref B) == some true) && (PySem.W.subIn K (.ref B) (.type "BaseException") == some true)
  | _, _ => false
theorem mRow_exm {K : PySem.W.Frag} {x y : Str} {A B : Addr} (hx : PySem.W.nsIn K mainGlobals x = some (some (.ref A))) (hy : PySem.W.nsIn K mainGlobals y = some (some (.ref B))) (e : mRow K x y = true) : PySem.W.exmOne K (.ref A) (.ref B) = some true := by
  unfold mRow at e
  rw [hx, hy] at e
  dsimp only at e
  rw [Bool.and_eq_true, Bool.and_eq_true, Bool.and_eq_true] at e
  obtain ⟨⟨⟨h1, h2⟩, h3⟩, h4⟩ := e
  have ht : PySem.W.typeIn K (.ref B) = some (.type "type") := by
    split at h2
    · rename_i t q
      rw [q, eq_of_beq h2]
    · cases h2
  exact PySem.W.exm_ref (eq_of_beq h4) h1 ht (eq_of_beq h3)
theorem mAll_mm {K : PySem.W.Frag} {hp : Heap} {nm : List Str} {y : Str} {n : Nat} {Cs : List Addr} {D : Addr} (X : K.In hp) (h : ((List.range n).all fun i => mRow K (nm.getD i "") y) = true) (hn : ∀ i, i < n → PySem.W.nsIn K mainGlobals (nm.getD i "") = some (some (.ref (clsAt Cs i)))) (hy : PySem.W.nsIn K mainGlobals y = some (some (.ref D))) : ∀ i, i < n → PySem.W.exmOne K (.ref (clsAt Cs i)) (.ref D) = some true :=
  fun i hi => mRow_exm (hn i hi) hy (List.all_eq_true.mp h i (List.mem_range.mpr hi))
theorem ok_law {C CL C_OutOfRange C_HallError C_TooFew f f_majority f_has_majority f_commit_point f__law_stream f__law_draw f__law_same f__law_record f__law_missing f__law_reached f__law_holds f__law_cut f__law_noted m_Replication___init__ m_Replication_note m_Replication_matched m_Replication_synced m_Replication_commit_point m_Replication_put m_Replication_cut m_Replication_sync_body m_Replication_missing m_Log___init__ m_Log_after m_Log_with_record m_Log_cut m_Log_value m_Replication_log m_Log_length : Addr} {fd fd_majority fd_has_majority fd_commit_point fd__law_stream fd__law_draw fd__law_same fd__law_record fd__law_missing fd__law_reached fd__law_holds fd__law_cut fd__law_noted md_Replication___init__ md_Replication_note md_Replication_matched md_Replication_synced md_Replication_commit_point md_Replication_put md_Replication_cut md_Replication_sync_body md_Replication_missing md_Log___init__ md_Log_after md_Log_with_record md_Log_cut md_Log_value md_Replication_log md_Log_length : FuncData} (F : Fun K "law" "law" s_law f fd)
    (D_majority : Df K mg "majority" s_majority ["count"] f_majority fd_majority)
    (D_has_majority : Df K mg "has_majority" s_has_majority ["members", "count"] f_has_majority fd_has_majority)
    (D_commit_point : Df K mg "commit_point" s_commit_point ["matched", "count"] f_commit_point fd_commit_point)
    (D__law_stream : Df K mg "_law_stream" s__law_stream ["script", "many"] f__law_stream fd__law_stream)
    (D__law_draw : Df K mg "_law_draw" s__law_draw ["draws", "k"] f__law_draw fd__law_draw)
    (D__law_same : Df K mg "_law_same" s__law_same ["actual", "due"] f__law_same fd__law_same)
    (D__law_record : Df K mg "_law_record" s__law_record ["number", "draw"] f__law_record fd__law_record)
    (D__law_missing : Df K mg "_law_missing" s__law_missing ["epoch", "log", "told"] f__law_missing fd__law_missing)
    (D__law_reached : Df K mg "_law_reached" s__law_reached ["told", "count", "number"] f__law_reached fd__law_reached)
    (D__law_holds : Df K mg "_law_holds" s__law_holds ["replication", "epoch", "count", "log", "told"] f__law_holds fd__law_holds)
    (D__law_cut : Df K mg "_law_cut" s__law_cut ["replication", "number", "image"] f__law_cut fd__law_cut)
    (D__law_noted : Df K mg "_law_noted" s__law_noted ["replication", "told", "journal", "length"] f__law_noted fd__law_noted)
    (D_Replication___init__ : Dm K C "__init__" "Replication.__init__" s_Replication___init__ ["self", "epoch", "log", "journals"] m_Replication___init__ md_Replication___init__)
    (D_Replication_note : Dm K C "note" "Replication.note" s_Replication_note ["self", "journal", "length"] m_Replication_note md_Replication_note)
    (D_Replication_matched : Dm K C "matched" "Replication.matched" s_Replication_matched ["self", "journal"] m_Replication_matched md_Replication_matched)
    (D_Replication_synced : Dm K C "synced" "Replication.synced" s_Replication_synced ["self"] m_Replication_synced md_Replication_synced)
    (D_Replication_commit_point : Dm K C "commit_point" "Replication.commit_point" s_Replication_commit_point ["self"] m_Replication_commit_point md_Replication_commit_point)
    (D_Replication_put : Dm K C "put" "Replication.put" s_Replication_put ["self", "record"] m_Replication_put md_Replication_put)
    (D_Replication_cut : Dm K C "cut" "Replication.cut" s_Replication_cut ["self", "number", "image"] m_Replication_cut md_Replication_cut)
    (D_Replication_sync_body : Dm K C "sync_body" "Replication.sync_body" s_Replication_sync_body ["self"] m_Replication_sync_body md_Replication_sync_body)
    (D_Replication_missing : Dm K C "missing" "Replication.missing" s_Replication_missing ["self", "journal"] m_Replication_missing md_Replication_missing)
    (D_Log___init__ : Dm K CL "__init__" "Log.__init__" s_Log___init__ ["self", "base", "image", "records"] m_Log___init__ md_Log___init__)
    (D_Log_after : Dm K CL "after" "Log.after" s_Log_after ["self", "number"] m_Log_after md_Log_after)
    (D_Log_with_record : Dm K CL "with_record" "Log.with_record" s_Log_with_record ["self", "record"] m_Log_with_record md_Log_with_record)
    (D_Log_cut : Dm K CL "cut" "Log.cut" s_Log_cut ["self", "number", "image"] m_Log_cut md_Log_cut)
    (D_Log_value : Dm K CL "value" "Log.value" s_Log_value ["self"] m_Log_value md_Log_value)
    (D_Replication_log : Pr K C "log" "Replication.log" s_Replication_log m_Replication_log md_Replication_log)
    (D_Log_length : Pr K CL "length" "Log.length" s_Log_length m_Log_length md_Log_length)
    (c_commit_point_quorum : mg "commit_point_quorum" = some (.ref f_commit_point)) (E_OutOfRange : Err K mg "OutOfRange" C_OutOfRange C_HallError) (g_HallError : mg "HallError" = some (.ref C_HallError)) (g_TooFew : mg "TooFew" = some (.ref C_TooFew)) (N : PySem.W.kitOne K (.ref C_OutOfRange) (.ref C_TooFew) = some false)
    (L_Replication : Kl K mg "Replication" C) (L : RpC K C) (L_Log : Kl K mg "Log" CL) (LL : LogC K CL) (T : Glo mg) : FnOk P w K mg base CX0 20 f fd ["script"] (spLaw K) := by
  have G__law_stream : FnOk P w K mg base CX0 1 f__law_stream fd__law_stream _ _ := ok_stream D__law_stream.F T
  have G__law_draw : FnOk P w K mg base CX0 1 f__law_draw fd__law_draw _ _ := ok_draw D__law_draw.F T
  have G__law_same : FnOk P w K mg base CX0 8 f__law_same fd__law_same _ _ := ok_same D__law_same T 7
  have G__law_record : FnOk P w K mg base CX0 1 f__law_record fd__law_record _ _ := ok_record2 D__law_record.F T
  have G__law_holds : FnOk P w K mg base CX0 9 f__law_holds fd__law_holds _ _ := ok_lholds D__law_holds.F D__law_same D__law_reached D__law_missing D_majority D_has_majority D_commit_point c_commit_point_quorum D_Log_value D_Log_after D_Log_length D_Replication_log D_Replication_matched D_Replication_missing D_Replication_sync_body D_Replication_synced D_Replication_commit_point L_Replication L L_Log LL E_OutOfRange T
  have G__law_cut : FnOk P w K mg base CX0 5 f__law_cut fd__law_cut _ _ := ok_lcut D__law_cut.F L_Replication L D_Replication_cut D_Log_cut D_Log___init__ L_Log LL E_OutOfRange g_HallError g_TooFew N T
  have G__law_noted : FnOk P w K mg base CX0 3 f__law_noted fd__law_noted _ _ := ok_lnoted D__law_noted.F L_Replication L D_Replication_note D_Replication_matched T
  have G_Replication_put : FnOk P w K mg base CX0 5 m_Replication_put md_Replication_put _ _ := ok_rput D_Replication_put.F L D_Log_with_record D_Log___init__ D_Log_length L_Log LL T
  have G_Replication___init__ : FnOk P w K mg base CX0 1 m_Replication___init__ md_Replication___init__ _ _ := ok_rinit D_Replication___init__.F L
  have G_Log___init__ : FnOk P w K mg base CX0 1 m_Log___init__ md_Log___init__ _ _ := ok_log_init D_Log___init__.F LL
  exact ok_lawG F D__law_stream G__law_stream D__law_draw G__law_draw D__law_same G__law_same D__law_record G__law_record D__law_holds G__law_holds D__law_cut G__law_cut D__law_noted G__law_noted D_Replication_put G_Replication_put D_Replication___init__ G_Replication___init__ D_Log___init__ G_Log___init__ L_Replication L_Log T

end
end Ap
open PySem PySem.W PyProof.Rows
set_option maxHeartbeats 0 in
theorem PySem.Challenge.cw_appendhall_k50_lengths_told_and_commit_p_holds : PySem.Challenge.rw_appendhall_k50_lengths_told_and_commit_p.Holds := by
  w_on; o_law; k_head; (case hw => w_witness2)
  k_fill
  refine Ap.walk_ofX (l := PySem.Challenge.rw_appendhall_k50_lengths_told_and_commit_p) (n := 63) (k := 20) (x := "script") (CX := fun _ => L2.CX0) (sp := fun w => Ap.spLaw _) rfl (by decide) rfl ⟨rfl, by decide, by decide⟩ (fun w h Y => PySem.W.kIn_of Y) ?F (fun _ _ a ns hl _ hS => ⟨a, ns, rfl, hS, hl, fun _ => rfl⟩) (fun _ _ _ _ _ h => h)
  case F =>
    intro w mg fa h KX G XG hmg
    obtain ⟨C_Log, L_Log, n_Log_base, n_Log_image, n_Log_records, ⟨f_Log_length, fd_Log_length, D_Log_length⟩, ⟨f_Log___init__, fd_Log___init__, D_Log___init__⟩, ⟨f_Log_after, fd_Log_after, D_Log_after⟩, ⟨f_Log_with_record, fd_Log_with_record, D_Log_with_record⟩, ⟨f_Log_cut, fd_Log_cut, D_Log_cut⟩, ⟨f_Log_value, fd_Log_value, D_Log_value⟩⟩ : ∃ C, Ap.Kl _ mg "Log" C ∧ L2.NoAttr _ C "base" ∧ L2.NoAttr _ C "image" ∧ L2.NoAttr _ C "records" ∧ (∃ f fd, Ap.Pr _ C "length" "Log.length" Ap.s_Log_length f fd) ∧ (∃ f fd, Ap.Dm _ C "__init__" "Log.__init__" Ap.s_Log___init__ ["self", "base", "image", "records"] f fd) ∧ (∃ f fd, Ap.Dm _ C "after" "Log.after" Ap.s_Log_after ["self", "number"] f fd) ∧ (∃ f fd, Ap.Dm _ C "with_record" "Log.with_record" Ap.s_Log_with_record ["self", "record"] f fd) ∧ (∃ f fd, Ap.Dm _ C "cut" "Log.cut" Ap.s_Log_cut ["self", "number", "image"] f fd) ∧ (∃ f fd, Ap.Dm _ C "value" "Log.value" Ap.s_Log_value ["self"] f fd) := by
      refine' ⟨_, Ap.kl_mk KX G ?aC ?pg ?hd ?po ?sa ?mk ?kp, Ap.na_mk KX ?n_base, Ap.na_mk KX ?n_image, Ap.na_mk KX ?n_records, Ap.pr_mk KX ?a_length ?g_length ?t_length ?r_length ?l_length ?c_length ?k_length ?b_length, Ap.dm_mk KX ?a___init__ ?i___init__ ?l___init__ ?c___init__ ?k___init__ ?b___init__, Ap.dm_mk KX ?a_after ?i_after ?l_after ?c_after ?k_after ?b_after, Ap.dm_mk KX ?a_with_record ?i_with_record ?l_with_record ?c_with_record ?k_with_record ?b_with_record, Ap.dm_mk KX ?a_cut ?i_cut ?l_cut ?c_cut ?k_cut ?b_cut, Ap.dm_mk KX ?a_value ?i_value ?l_value ?c_value ?k_value ?b_value⟩
      (case aC => k_is); (case pg => k_is); (case hd => k_is); (case po => k_is); (case sa => k_is); (case mk => k_is); (case kp => k_is); (case n_base => k_is); (case n_image => k_is); (case n_records => k_is); (case a_length => k_is); (case g_length => k_is); (case t_length => k_is); (case r_length => k_is); (case l_length => k_is); (case c_length => k_is); (case k_length => k_is); (case a___init__ => k_is); (case i___init__ => k_is); (case l___init__ => k_is); (case c___init__ => k_is); (case k___init__ => k_is); (case a_after => k_is); (case i_after => k_is); (case l_after => k_is); (case c_after => k_is); (case k_after => k_is); (case a_with_record => k_is); (case i_with_record => k_is); (case l_with_record => k_is); (case c_with_record => k_is); (case k_with_record => k_is); (case a_cut => k_is); (case i_cut => k_is); (case l_cut => k_is); (case c_cut => k_is); (case k_cut => k_is); (case a_value => k_is); (case i_value => k_is); (case l_value => k_is); (case c_value => k_is); (case k_value => k_is)
      (case b_length => exact fun _ _ _ _ _ _ us hl => match us, hl with | [_], _ => rfl)
      (case b___init__ => exact fun _ _ _ _ _ _ us hl => match us, hl with | [_, _, _, _], _ => rfl)
      (case b_after => exact fun _ _ _ _ _ _ us hl => match us, hl with | [_, _], _ => rfl)
      (case b_with_record => exact fun _ _ _ _ _ _ us hl => match us, hl with | [_, _], _ => rfl)
      (case b_cut => exact fun _ _ _ _ _ _ us hl => match us, hl with | [_, _, _], _ => rfl)
      (case b_value => exact fun _ _ _ _ _ _ us hl => match us, hl with | [_], _ => rfl)
    obtain ⟨C_Replication, L_Replication, n_Replication_epoch, n_Replication_journals, n_Replication__log, n_Replication__lengths, ⟨f_Replication_log, fd_Replication_log, D_Replication_log⟩, ⟨f_Replication___init__, fd_Replication___init__, D_Replication___init__⟩, ⟨f_Replication_note, fd_Replication_note, D_Replication_note⟩, ⟨f_Replication_matched, fd_Replication_matched, D_Replication_matched⟩, ⟨f_Replication_synced, fd_Replication_synced, D_Replication_synced⟩, ⟨f_Replication_commit_point, fd_Replication_commit_point, D_Replication_commit_point⟩, ⟨f_Replication_put, fd_Replication_put, D_Replication_put⟩, ⟨f_Replication_cut, fd_Replication_cut, D_Replication_cut⟩, ⟨f_Replication_sync_body, fd_Replication_sync_body, D_Replication_sync_body⟩, ⟨f_Replication_missing, fd_Replication_missing, D_Replication_missing⟩⟩ : ∃ C, Ap.Kl _ mg "Replication" C ∧ L2.NoAttr _ C "epoch" ∧ L2.NoAttr _ C "journals" ∧ L2.NoAttr _ C "_log" ∧ L2.NoAttr _ C "_lengths" ∧ (∃ f fd, Ap.Pr _ C "log" "Replication.log" Ap.s_Replication_log f fd) ∧ (∃ f fd, Ap.Dm _ C "__init__" "Replication.__init__" Ap.s_Replication___init__ ["self", "epoch", "log", "journals"] f fd) ∧ (∃ f fd, Ap.Dm _ C "note" "Replication.note" Ap.s_Replication_note ["self", "journal", "length"] f fd) ∧ (∃ f fd, Ap.Dm _ C "matched" "Replication.matched" Ap.s_Replication_matched ["self", "journal"] f fd) ∧ (∃ f fd, Ap.Dm _ C "synced" "Replication.synced" Ap.s_Replication_synced ["self"] f fd) ∧ (∃ f fd, Ap.Dm _ C "commit_point" "Replication.commit_point" Ap.s_Replication_commit_point ["self"] f fd) ∧ (∃ f fd, Ap.Dm _ C "put" "Replication.put" Ap.s_Replication_put ["self", "record"] f fd) ∧ (∃ f fd, Ap.Dm _ C "cut" "Replication.cut" Ap.s_Replication_cut ["self", "number", "image"] f fd) ∧ (∃ f fd, Ap.Dm _ C "sync_body" "Replication.sync_body" Ap.s_Replication_sync_body ["self"] f fd) ∧ (∃ f fd, Ap.Dm _ C "missing" "Replication.missing" Ap.s_Replication_missing ["self", "journal"] f fd) := by
      refine' ⟨_, Ap.kl_mk KX G ?aC ?pg ?hd ?po ?sa ?mk ?kp, Ap.na_mk KX ?n_epoch, Ap.na_mk KX ?n_journals, Ap.na_mk KX ?n__log, Ap.na_mk KX ?n__lengths, Ap.pr_mk KX ?a_log ?g_log ?t_log ?r_log ?l_log ?c_log ?k_log ?b_log, Ap.dm_mk KX ?a___init__ ?i___init__ ?l___init__ ?c___init__ ?k___init__ ?b___init__, Ap.dm_mk KX ?a_note ?i_note ?l_note ?c_note ?k_note ?b_note, Ap.dm_mk KX ?a_matched ?i_matched ?l_matched ?c_matched ?k_matched ?b_matched, Ap.dm_mk KX ?a_synced ?i_synced ?l_synced ?c_synced ?k_synced ?b_synced, Ap.dm_mk KX ?a_commit_point ?i_commit_point ?l_commit_point ?c_commit_point ?k_commit_point ?b_commit_point, Ap.dm_mk KX ?a_put ?i_put ?l_put ?c_put ?k_put ?b_put, Ap.dm_mk KX ?a_cut ?i_cut ?l_cut ?c_cut ?k_cut ?b_cut, Ap.dm_mk KX ?a_sync_body ?i_sync_body ?l_sync_body ?c_sync_body ?k_sync_body ?b_sync_body, Ap.dm_mk KX ?a_missing ?i_missing ?l_missing ?c_missing ?k_missing ?b_missing⟩
      (case aC => k_is); (case pg => k_is); (case hd => k_is); (case po => k_is); (case sa => k_is); (case mk => k_is); (case kp => k_is); (case n_epoch => k_is); (case n_journals => k_is); (case n__log => k_is); (case n__lengths => k_is); (case a_log => k_is); (case g_log => k_is); (case t_log => k_is); (case r_log => k_is); (case l_log => k_is); (case c_log => k_is); (case k_log => k_is); (case a___init__ => k_is); (case i___init__ => k_is); (case l___init__ => k_is); (case c___init__ => k_is); (case k___init__ => k_is); (case a_note => k_is); (case i_note => k_is); (case l_note => k_is); (case c_note => k_is); (case k_note => k_is); (case a_matched => k_is); (case i_matched => k_is); (case l_matched => k_is); (case c_matched => k_is); (case k_matched => k_is); (case a_synced => k_is); (case i_synced => k_is); (case l_synced => k_is); (case c_synced => k_is); (case k_synced => k_is); (case a_commit_point => k_is); (case i_commit_point => k_is); (case l_commit_point => k_is); (case c_commit_point => k_is); (case k_commit_point => k_is); (case a_put => k_is); (case i_put => k_is); (case l_put => k_is); (case c_put => k_is); (case k_put => k_is); (case a_cut => k_is); (case i_cut => k_is); (case l_cut => k_is); (case c_cut => k_is); (case k_cut => k_is); (case a_sync_body => k_is); (case i_sync_body => k_is); (case l_sync_body => k_is); (case c_sync_body => k_is); (case k_sync_body => k_is); (case a_missing => k_is); (case i_missing => k_is); (case l_missing => k_is); (case c_missing => k_is); (case k_missing => k_is)
      (case b_log => exact fun _ _ _ _ _ _ us hl => match us, hl with | [_], _ => rfl)
      (case b___init__ => exact fun _ _ _ _ _ _ us hl => match us, hl with | [_, _, _, _], _ => rfl)
      (case b_note => exact fun _ _ _ _ _ _ us hl => match us, hl with | [_, _, _], _ => rfl)
      (case b_matched => exact fun _ _ _ _ _ _ us hl => match us, hl with | [_, _], _ => rfl)
      (case b_synced => exact fun _ _ _ _ _ _ us hl => match us, hl with | [_], _ => rfl)
      (case b_commit_point => exact fun _ _ _ _ _ _ us hl => match us, hl with | [_], _ => rfl)
      (case b_put => exact fun _ _ _ _ _ _ us hl => match us, hl with | [_, _], _ => rfl)
      (case b_cut => exact fun _ _ _ _ _ _ us hl => match us, hl with | [_, _, _], _ => rfl)
      (case b_sync_body => exact fun _ _ _ _ _ _ us hl => match us, hl with | [_], _ => rfl)
      (case b_missing => exact fun _ _ _ _ _ _ us hl => match us, hl with | [_, _], _ => rfl)
    obtain ⟨C_OutOfRange, B_OutOfRange, E_OutOfRange, g_OutOfRange_HallError, n_OutOfRange⟩ : ∃ C B, Ap.Err _ mg "OutOfRange" C B ∧ mg "HallError" = some (.ref B) ∧ PySem.W.nsIn _ mainGlobals "OutOfRange" = some (some (.ref C)) := by
      refine' ⟨_, _, (Ap.err_mk (y := "HallError") KX G ?aC ?aB ?kp ?ex ?bs ?ty ?ss ?hg ?hk ?hd ?ha ?hn ?ht ?hm ?dB ?tB ?sb ?sv).1, (PySem.W.mg_of KX G ?aB2), Ap.ns_at KX ?nx⟩
      (case aC => k_is)
      (case aB => k_is)
      (case kp => k_is)
      (case ex => k_exc)
      (case bs => k_is)
      (case ty => k_is)
      (case ss => k_is)
      (case hg => k_is)
      (case hk => k_is)
      (case hd => k_is)
      (case ha => k_is)
      (case hn => k_is)
      (case ht => k_is)
      (case hm => k_is)
      (case dB => k_is)
      (case tB => k_is)
      (case sb => k_is)
      (case sv => k_is)
      (case aB2 => k_is); (case nx => k_is)
    obtain ⟨C_TooFew, B_TooFew, E_TooFew, g_TooFew_HallError, n_TooFew⟩ : ∃ C B, Ap.Err _ mg "TooFew" C B ∧ mg "HallError" = some (.ref B) ∧ PySem.W.nsIn _ mainGlobals "TooFew" = some (some (.ref C)) := by
      refine' ⟨_, _, (Ap.err_mk (y := "HallError") KX G ?aC ?aB ?kp ?ex ?bs ?ty ?ss ?hg ?hk ?hd ?ha ?hn ?ht ?hm ?dB ?tB ?sb ?sv).1, (PySem.W.mg_of KX G ?aB2), Ap.ns_at KX ?nx⟩
      (case aC => k_is)
      (case aB => k_is)
      (case kp => k_is)
      (case ex => k_exc)
      (case bs => k_is)
      (case ty => k_is)
      (case ss => k_is)
      (case hg => k_is)
      (case hk => k_is)
      (case hd => k_is)
      (case ha => k_is)
      (case hn => k_is)
      (case ht => k_is)
      (case hm => k_is)
      (case dB => k_is)
      (case tB => k_is)
      (case sb => k_is)
      (case sv => k_is)
      (case aB2 => k_is); (case nx => k_is)
    obtain ⟨v_cp, c1_cp, c2_cp⟩ : ∃ v, mg "commit_point_quorum" = some v ∧ mg "commit_point" = some v := by
      refine' ⟨_, PySem.W.mg_of KX G ?a, PySem.W.mg_of KX G ?b⟩
      (case a => k_is); (case b => k_is)
    have N_OT := Ap.kRow_kitX (b := false) KX n_OutOfRange n_TooFew (by kernel_rfl)
    obtain ⟨f_majority, fd_majority, D_majority⟩ : ∃ f fd, Ap.Df _ mg "majority" Ap.s_majority ["count"] f fd := by
      refine' Ap.df_mk KX G ?a ?l ?c ?k ?b
      (case a => k_is); (case l => k_is); (case c => k_is); (case k => k_is); (case b => exact fun _ _ _ _ _ _ us hl => match us, hl with | [_], _ => rfl)
    obtain ⟨f_has_majority, fd_has_majority, D_has_majority⟩ : ∃ f fd, Ap.Df _ mg "has_majority" Ap.s_has_majority ["members", "count"] f fd := by
      refine' Ap.df_mk KX G ?a ?l ?c ?k ?b
      (case a => k_is); (case l => k_is); (case c => k_is); (case k => k_is); (case b => exact fun _ _ _ _ _ _ us hl => match us, hl with | [_, _], _ => rfl)
    obtain ⟨f_commit_point, fd_commit_point, D_commit_point⟩ : ∃ f fd, Ap.Df _ mg "commit_point" Ap.s_commit_point ["matched", "count"] f fd := by
      refine' Ap.df_mk KX G ?a ?l ?c ?k ?b
      (case a => k_is); (case l => k_is); (case c => k_is); (case k => k_is); (case b => exact fun _ _ _ _ _ _ us hl => match us, hl with | [_, _], _ => rfl)
    obtain ⟨f__law_stream, fd__law_stream, D__law_stream⟩ : ∃ f fd, Ap.Df _ mg "_law_stream" Ap.s__law_stream ["script", "many"] f fd := by
      refine' Ap.df_mk KX G ?a ?l ?c ?k ?b
      (case a => k_is); (case l => k_is); (case c => k_is); (case k => k_is); (case b => exact fun _ _ _ _ _ _ us hl => match us, hl with | [_, _], _ => rfl)
    obtain ⟨f__law_draw, fd__law_draw, D__law_draw⟩ : ∃ f fd, Ap.Df _ mg "_law_draw" Ap.s__law_draw ["draws", "k"] f fd := by
      refine' Ap.df_mk KX G ?a ?l ?c ?k ?b
      (case a => k_is); (case l => k_is); (case c => k_is); (case k => k_is); (case b => exact fun _ _ _ _ _ _ us hl => match us, hl with | [_, _], _ => rfl)
    obtain ⟨f__law_same, fd__law_same, D__law_same⟩ : ∃ f fd, Ap.Df _ mg "_law_same" Ap.s__law_same ["actual", "due"] f fd := by
      refine' Ap.df_mk KX G ?a ?l ?c ?k ?b
      (case a => k_is); (case l => k_is); (case c => k_is); (case k => k_is); (case b => exact fun _ _ _ _ _ _ us hl => match us, hl with | [_, _], _ => rfl)
    obtain ⟨f__law_record, fd__law_record, D__law_record⟩ : ∃ f fd, Ap.Df _ mg "_law_record" Ap.s__law_record ["number", "draw"] f fd := by
      refine' Ap.df_mk KX G ?a ?l ?c ?k ?b
      (case a => k_is); (case l => k_is); (case c => k_is); (case k => k_is); (case b => exact fun _ _ _ _ _ _ us hl => match us, hl with | [_, _], _ => rfl)
    obtain ⟨f__law_missing, fd__law_missing, D__law_missing⟩ : ∃ f fd, Ap.Df _ mg "_law_missing" Ap.s__law_missing ["epoch", "log", "told"] f fd := by
      refine' Ap.df_mk KX G ?a ?l ?c ?k ?b
      (case a => k_is); (case l => k_is); (case c => k_is); (case k => k_is); (case b => exact fun _ _ _ _ _ _ us hl => match us, hl with | [_, _, _], _ => rfl)
    obtain ⟨f__law_reached, fd__law_reached, D__law_reached⟩ : ∃ f fd, Ap.Df _ mg "_law_reached" Ap.s__law_reached ["told", "count", "number"] f fd := by
      refine' Ap.df_mk KX G ?a ?l ?c ?k ?b
      (case a => k_is); (case l => k_is); (case c => k_is); (case k => k_is); (case b => exact fun _ _ _ _ _ _ us hl => match us, hl with | [_, _, _], _ => rfl)
    obtain ⟨f__law_holds, fd__law_holds, D__law_holds⟩ : ∃ f fd, Ap.Df _ mg "_law_holds" Ap.s__law_holds ["replication", "epoch", "count", "log", "told"] f fd := by
      refine' Ap.df_mk KX G ?a ?l ?c ?k ?b
      (case a => k_is); (case l => k_is); (case c => k_is); (case k => k_is); (case b => exact fun _ _ _ _ _ _ us hl => match us, hl with | [_, _, _, _, _], _ => rfl)
    obtain ⟨f__law_cut, fd__law_cut, D__law_cut⟩ : ∃ f fd, Ap.Df _ mg "_law_cut" Ap.s__law_cut ["replication", "number", "image"] f fd := by
      refine' Ap.df_mk KX G ?a ?l ?c ?k ?b
      (case a => k_is); (case l => k_is); (case c => k_is); (case k => k_is); (case b => exact fun _ _ _ _ _ _ us hl => match us, hl with | [_, _, _], _ => rfl)
    obtain ⟨f__law_noted, fd__law_noted, D__law_noted⟩ : ∃ f fd, Ap.Df _ mg "_law_noted" Ap.s__law_noted ["replication", "told", "journal", "length"] f fd := by
      refine' Ap.df_mk KX G ?a ?l ?c ?k ?b
      (case a => k_is); (case l => k_is); (case c => k_is); (case k => k_is); (case b => exact fun _ _ _ _ _ _ us hl => match us, hl with | [_, _, _, _], _ => rfl)
    obtain ⟨fd, hb, F⟩ : ∃ fd, (∀ (s : Shared) (v : Value), BindsTo s fd ⟨[v], []⟩ [("script", v)]) ∧ L2.Fun _ "law" "law" Ap.s_law fa fd := by
      refine' Ap.law_mk KX G hmg ?a ?l ?c ?k ?b
      (case a => k_is); (case l => k_is); (case c => k_is); (case k => k_is); (case b => exact fun _ _ _ _ _ _ _ _ => .of_eq rfl)
    refine ⟨fd, hb, fun base _ _ => Ap.ok_law F D_majority D_has_majority D_commit_point D__law_stream D__law_draw D__law_same D__law_record D__law_missing D__law_reached D__law_holds D__law_cut D__law_noted D_Replication___init__ D_Replication_note D_Replication_matched D_Replication_synced D_Replication_commit_point D_Replication_put D_Replication_cut D_Replication_sync_body D_Replication_missing D_Log___init__ D_Log_after D_Log_with_record D_Log_cut D_Log_value D_Replication_log D_Log_length (c1_cp.trans (c2_cp.symm.trans D_commit_point.g)) E_OutOfRange g_OutOfRange_HallError E_TooFew.g N_OT L_Replication ⟨L_Replication.cl, n_Replication_epoch, n_Replication_journals, n_Replication__log, n_Replication__lengths⟩ L_Log ⟨L_Log.cl, n_Log_base, n_Log_image, n_Log_records⟩ ?T⟩
    refine' ⟨PySem.W.mg_none_of KX G ?z0, PySem.W.mg_none_of KX G ?z1, PySem.W.mg_none_of KX G ?z2, PySem.W.mg_none_of KX G ?z3, PySem.W.mg_none_of KX G ?z4, PySem.W.mg_none_of KX G ?z5, PySem.W.mg_none_of KX G ?z6, PySem.W.mg_none_of KX G ?z7, PySem.W.mg_none_of KX G ?z8, PySem.W.mg_none_of KX G ?z9, PySem.W.mg_none_of KX G ?z10, PySem.W.mg_none_of KX G ?z11⟩
    (case z0 => k_is); (case z1 => k_is); (case z2 => k_is); (case z3 => k_is); (case z4 => k_is); (case z5 => k_is); (case z6 => k_is); (case z7 => k_is); (case z8 => k_is); (case z9 => k_is); (case z10 => k_is); (case z11 => k_is)
#print axioms PySem.Challenge.cw_appendhall_k50_lengths_told_and_commit_p_holds
